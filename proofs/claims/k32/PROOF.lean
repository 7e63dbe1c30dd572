import PyProof.Rows.All
import Wide.All
import OpenK.AllK
import Wide.FinOn
import Lean
import PyProof.EqAt
import PyProof.EqKinds
import PyProof.TupleCall
import PyProof.ExcAttrAll.ValueError
import PyProof.FString4
import PyProof.FString5
import PyProof.StrLawsRepr
import PyProof.Rows.SetFrom
import KE.KSortTup
import PyProof.NeKinds
import PyProof.Rows.MinMaxN
import PySem.Challenge.RW_bidmover_k32_hall_judges
set_option Elab.async false
set_option linter.all false
set_option maxRecDepth 100000
namespace L2
open PySem PySem.W
def J2 (s:Stmt) (j:Nat):Stmt:=match s with
 | .ClassDef _ _ _ body _ _ _ _ _ _ _=>body.getD j (.Pass ⟨0,0,0,0⟩)
 | _=>.Pass ⟨0,0,0,0⟩
def Jd0 (s:Stmt):Arguments:=match s with
 | .FunctionDef _ a _ _ _ _ _ _ _ _=>a
 | _=>{ posonlyargs:=[],args:=[],vararg:=none,kwonlyargs:=[],kw_defaults:=[],kwarg:=none,defaults:=[] }
def Ja2 (s:Stmt):List Stmt:=match s with
 | .FunctionDef _ _ b _ _ _ _ _ _ _=>b
 | _=>[]
def Jm (s:Stmt):Scope:=match s with
 | .FunctionDef _ _ _ _ _ _ sc _ _ _=>sc
 | _=>{ kind:=.function,names:=[],isGenerator:=false,isCoroutine:=false }
def Jty (s:Stmt):Pos:=match s with
 | .FunctionDef _ _ _ _ _ _ _ _ _ p=>p
 | _=>⟨0,0,0,0⟩
def JpF (h:Heap):Frag:=h.objs.toList.zipIdx.filterMap fun x=>(alive x.1).map fun o=>(x.2,o)
theorem JpE (h:Heap):(JpF h).In h:=by
 intro a o e;have key:∀ (l:List Obj) (k:Nat),((l.zipIdx k).filterMap fun x=>(alive x.1).map fun o=>(x.2,o)).lookup a=some o→k≤a∧∃ u,l[a - k]?=some u∧alive u=some o:=by
  intro l
  induction l with
  | nil=>intro k e; cases e
  | cons b l ih =>
   intro k e;rw [List.zipIdx_cons,List.filterMap_cons] at e;have next:((l.zipIdx (k + 1)).filterMap fun x=>(alive x.1).map fun o=>(x.2,o)).lookup a=some o→k≤a∧∃ u,(b :: l)[a - k]?=some u∧alive u=some o:=fun e=>by
    obtain ⟨h1,u,h2,h3⟩:=ih (k + 1) e;refine ⟨by omega,u,?_,h3⟩;have e:a - k=(a - (k + 1)) + 1:=(Nat.succ_pred_eq_of_pos (Nat.sub_pos_of_lt h1)).symm;rw [e,List.getElem?_cons_succ];exact h2
   cases hb:alive b with
   | none =>
    have e:((l.zipIdx (k + 1)).filterMap fun x=>(alive x.1).map fun o=>(x.2,o)).lookup a=some o:=by
     simp only [hb,Option.map_none] at e;exact e
    exact next e
   | some u =>
    have e:List.lookup a ((k,u) :: ((l.zipIdx (k + 1)).filterMap fun x=>(alive x.1).map fun o=>(x.2,o)))=some o:=by
     simp only [hb,Option.map_some] at e;exact e
    rw [List.lookup_cons] at e;cases hab:a == k with
    | true =>
     rw [hab] at e;have ak:=beq_iff_eq.mp hab;subst ak;refine ⟨Nat.le_refl _,b,by rw [Nat.sub_self]; rfl,?_⟩;rw [hb]; exact e
    | false=>rw [hab] at e; exact next e
 obtain ⟨_,u,h2,h3⟩:=key _ 0 e;rw [Nat.sub_zero,Array.getElem?_toList] at h2;unfold Heap.get?;rw [h2];obtain ⟨c,d,dt,sl⟩:=u;cases dt <;> exact h3
def Jg (K:Frag) (n:Str):Addr:=match nsIn K mainGlobals n with
 | some (some (.ref k))=>k
 | _=>0
def JQ (K:Frag) (n:Str):Bool:=match nsIn K mainGlobals n with
 | some (some (.ref _))=>true
 | _=>false
theorem Jt {K:Frag} {n:Str} (h:JQ K n=true):nsIn K mainGlobals n=some (some (.ref (Jg K n))):=by
 unfold JQ at h;unfold Jg;split at h
 ·rename_i k e; rw [e]
 ·cases h
def Jo (K:Frag) (n m:Str):Addr:=match findIn K (.ref (Jg K n)) m with
 | some (some (.ref k))=>k
 | _=>0
def Yc (K:Frag) (n m:Str):Bool:=match findIn K (.ref (Jg K n)) m with
 | some (some (.ref _))=>true
 | _=>false
theorem JJ {K:Frag} {n m:Str} (h:Yc K n m=true):findIn K (.ref (Jg K n)) m=some (some (.ref (Jo K n m))):=by
 unfold Yc at h;unfold Jo;split at h
 ·rename_i k e; rw [e]
 ·cases h
def JK (K:Frag) (f:Addr):FuncData:=match K.lookup f with
 | some ⟨_,_,.func fd,_⟩=>fd
 | _=>default
def JoF (fd:FuncData):FuncData:={ fd with kwdefaults:=.none,doc:=.none,pyModule:=.none,annotations:=none,code:=.none,closureTuple:=.none }
def J3 (K:Frag) (f:Addr) (q:Str):Option (FuncData×Bool):=match K.lookup f with
 | some ⟨_,_,.func fd,_⟩=>some (JoF fd,codeIn K fd.code q && keepIn K (.ref f))
 | _=>none
abbrev J5 (x q:Str) (st:Stmt):Option (FuncData×Bool):=some (fnOf x q (Jd0 st) (Ja2 st) (Jm st) .none .none .none .none none .none .none,true)
theorem Jpl {K:Frag} {f:Addr} {x q:Str} {st:Stmt} (h:J3 K f q=J5 x q st):∃ (oc:Value) (od:Option Addr) (kV doc pm:Value) (an:Option Addr) (cdv ct:Value) (osl:Array (Option Value)),
  JK K f=fnOf x q (Jd0 st) (Ja2 st) (Jm st) .none kV doc pm an cdv ct∧K.lookup f=some ⟨oc,od,.func (JK K f),osl⟩∧codeIn K cdv q=true∧keepIn K (.ref f)=true:=by
 unfold J3 at h;unfold JK;split at h
 ·rename_i oc od fd sl e;rw [e];have h:=Option.some.inj h;have h1:=congrArg Prod.fst h;have h2:(codeIn K fd.code q && keepIn K (.ref f))=true:=congrArg Prod.snd h;rw [Bool.and_eq_true] at h2;obtain ⟨n,qn,ps,b,sc,gl,cl,df,kd,dc,pm,an,cd,ct,bu⟩:=fd;have h1:JoF ⟨n,qn,ps,b,sc,gl,cl,df,kd,dc,pm,an,cd,ct,bu⟩=fnOf x q (Jd0 st) (Ja2 st) (Jm st) .none .none .none .none none .none .none:=h1;unfold JoF fnOf at h1;simp only [FuncData.mk.injEq] at h1;obtain ⟨rfl,rfl,rfl,rfl,rfl,rfl,rfl,rfl,_,_,_,_,_,_,rfl⟩:=h1;exact ⟨oc,od,kd,dc,pm,an,cd,ct,sl,rfl,rfl,h2.1,h2.2⟩
 ·cases h
def Jf3:Value→Option (Sum Int Str)
 | .int i _=>some (.inl i)
 | .str x _=>some (.inr x)
 | _=>none
def obV (K:Frag) (n:Str):Option (Sum Int Str):=match nsIn K mainGlobals n with
 | some (some v)=>Jf3 v
 | _=>none
theorem Jsm {K:Frag} {n:Str} {i:Int} (h:obV K n=some (.inl i)):∃ t,nsIn K mainGlobals n=some (some (.int i t)):=by
 unfold obV at h;split at h
 ·rename_i v e;unfold Jf3 at h;split at h
  ·cases h; exact ⟨_,e⟩
  ·cases h
  ·cases h
 ·cases h
def obT (K:Frag) (n:Str):Option (Bool×List (Option (Sum Int Str))):=match K.lookup (Jg K n) with
 | some ⟨.type "tuple",_,.seq its _,_⟩=>some (decide (its.size≤1000),its.toList.map Jf3)
 | _=>none
theorem at_ {α:Type} {l l':List α} (h:l=l') (i:Nat):l[i]?=l'[i]?:=by rw [h]
def Jft (okf:Thread→Bool) (stf:SharedT→Thread→Option (SharedT×Thread)):Nat→SharedT→Thread→Option SharedT
 | 0,_,_=>none
 | n + 1,s,t=>match through t with
  | true=>some s
  | false=>match okf t with
   | false=>none
   | true=>match stf s t with
    | some (s',t')=>Jft okf stf n s' t'
    | none=>none
theorem JiW {tb:String→Option Builtin} {p:Program} {w:World} {n₀:Nat} {ann:Option Value}:∀ {n:Nat} {s s':SharedT} {t:Thread},Jft (stepOk n₀ ann) (stepT (denote tb) p w) n s t=some s'→topRun tb p w n₀ ann n s.abs t=some s'.abs
 | 0,_,_,_,h=>nomatch h
 | n + 1,s,s',t,h=>by
  unfold Jft at h;unfold topRun;split at h
  ·rename_i e; rw [e]; cases h; rfl
  ·rename_i e; rw [e];split at h
   ·cases h
   ·rename_i e2; rw [e2];split at h
    ·rename_i s2 t2 e3;rw [stepT_spec e3];exact JiW h
    ·cases h
noncomputable def JjP (p:Program) (w:World) (N:Nat) (s:SharedT):Option SharedT :=
 Jft (Fast.tw6613529449190102663 ((boot_heap w.params).objs.size) ((boot_heap w.params).nsMap mainGlobals "__annotations__")) (Fast.tw10156331382660048174 (Fast.tw11892475500146522536 Fast.tw14364793385576792824) p w) N s (topStub p)
theorem JnU {p:Program} {w:World} {N:Nat} {s:SharedT}:JjP p w N s=Jft (stepOk ((boot_heap w.params).objs.size) ((boot_heap w.params).nsMap mainGlobals "__annotations__")) (stepT (denote treeTable) p w) N s (topStub p):=by
 rw [Fast.te6613529449190102663,Fast.te10156331382660048174,Fast.te11892475500146522536,Fast.te14364793385576792824];rfl
noncomputable def JiM (P:Params):BT:=(boot_heap P).objs.toList.zipIdx.foldl (fun t x=>t.ins x.2 x.1) .nil
noncomputable def JoE (P:Params) (os:OsState):SharedT:=⟨JiM P,(boot_heap P).objs.size,(boot_heap P).life,Array.mk [],boot_drawn,boot_toks,os⟩
theorem JpV (P:Params) (os:OsState):(JoE P os).abs=⟨boot_heap P,Array.mk [],boot_drawn,boot_toks,os⟩:=by
 show (⟨absHeap (JiM P) (boot_heap P).objs.size (boot_heap P).life,_,_,_,_⟩:Shared)=_;have e:absHeap (JiM P) (boot_heap P).objs.size (boot_heap P).life=boot_heap P:=by kernel_rfl
 rw [e]; rfl
noncomputable def Jn5 {α:Type} (p q:Program) (loose:List Str) (Xt:Shared→Bool) (Yf:Shared→α) (P:Params) (s:Shared) :=
 (staticsOk (importedModules p.main.body) (boot_heap P) s.heap && namesBound p s.heap && gensDone s && laidKept (boot_heap P) s.heap,Fast.tw4187177175401517315 q loose (importedModules p.main.body) Xt true s,Yf s)
theorem Jsu {p q:Program} {loose:List Str} {Xt:Shared→Bool} {α:Type} {Yf:Shared→α} {Ya:World→α} {N:Nat} (e:opening p=plainProg p.main.scope.names) (hN:Nat.ble 600 N=true) (f:∀ s,fenceModules? p s=some s)
  (h:∀ (w:World) (os:OsState),(JjP p w N (JoE w.params os)).map (fun s=>Jn5 p q loose Xt Yf w.params s.abs)=some (true,openGood q loose,Ya w))
  (hb:∀ P:Params,((boot_heap P).isNs mainGlobals && (Array.mk ([]:List GenState)).size == 0)=true):LeftO p q loose Xt Yf Ya N:=by
 intro w;have o:=boot_open e hN f w;obtain ⟨s0,e0,e1⟩:=Option.map_eq_some_iff.mp o;obtain ⟨h0,g0,d0,k0,os⟩:=s0;obtain ⟨rfl,rfl,rfl,rfl⟩:h0=boot_heap w.params∧g0=Array.mk []∧d0=boot_drawn∧k0=boot_toks:=by simpa using e1
 obtain ⟨s1,r1,l1⟩:=Option.map_eq_some_iff.mp (h w os);rw [JnU] at r1;have r:=JiW r1;rw [JpV] at r;have l:(staticsOk (importedModules p.main.body) (boot_heap w.params) s1.abs.heap && namesBound p s1.abs.heap && gensDone s1.abs && laidKept (boot_heap w.params) s1.abs.heap)=true∧openSeen q loose (importedModules p.main.body) Xt true s1.abs=openGood q loose∧Yf s1.abs=Ya w:=by
  have z:=l1;unfold Jn5 at z;rw [← Fast.te4187177175401517315] at z;exact ⟨congrArg Prod.fst z,congrArg (fun x=>x.2.1) z,congrArg (fun x=>x.2.2) z⟩
 have t:topFrom treeTable p w N ⟨boot_heap w.params,Array.mk [],boot_drawn,boot_toks,os⟩=some s1.abs:=by
  unfold topFrom;dsimp only;rw [hb w.params,r];show (match staticsOk (importedModules p.main.body) (boot_heap w.params) s1.abs.heap && namesBound p s1.abs.heap && gensDone s1.abs && laidKept (boot_heap w.params) s1.abs.heap with | true=>_ | false=>_)=_;rw [l.1]
 unfold openEnds;rw [e0];show (topFrom treeTable p w N _).map _=_;rw [t];exact congrArg some (Prod.ext l.2.1 l.2.2)
end L2
namespace Pf
open PySem PySem.W L2
abbrev pg:Program:=PySem.Challenge.pw_bidmover_k32_hall_judges
def J6 (i:Nat):Stmt:=pg.main.body.getD i (.Pass ⟨0,0,0,0⟩)
def qv:Program:={ pg with main:={ pg.main with body:=[J6 74] } }
def lo0:List Str:=(["_wall", "good_name", "check_hand", "check_up_to", "check_coins", "check_standing", "ended", "check_new", "find_kept", "check_each_once", "check_among", "check_places", "check_lanes", "check_goals", "_law_at", "_law_row", "_law_whole", "_law_names", "_law_pairs", "_law_goals", "_law_small", "_law_ways", "_law_foe", "_law_hand", "_law_won", "_law_turned", "_law_which", "_law_holds", "_law_flat", "_law_model", "_law_good_steps", "_law_good_replies", "_law_good_bids", "_law_first", "_law_open", "_law_any_hand", "_law_any_place", "_law_try", "_law_refusal", "_law_exact", "_law_fits", "_law_off", "_law_round", "_law_varied", "BidmoverError", "BadName", "BadHand", "OutOfRange", "Twice", "NoPlace", "BadBid", "NoLane", "NotDue", "NothingDone", "Taken", "Full", "Missing", "Book", "Hall", "Board", "HANDS", "MOST_SIGNS", "MOST_TURNS", "MOST_COINS", "MOST_BOARDS", "MOST_PLACES", "MOST_LANES"]:List String).map Str.ofString
abbrev Jnq:Stmt:=J6 0
abbrev JcM:Stmt:=J6 18
abbrev Jd4:Stmt:=J6 19
abbrev Jdd:Stmt:=J6 23
abbrev Jdg:Stmt:=J6 24
abbrev Jbr:Stmt:=J6 25
abbrev Jj4:Stmt:=J6 26
abbrev Jfd:Stmt:=J2 (J6 28) 0
abbrev Ja9:Stmt:=J2 (J6 28) 1
abbrev Jcr:Stmt:=J2 (J6 28) 2
abbrev YO:Stmt:=J2 (J6 28) 3
abbrev YN:Stmt:=J2 (J6 28) 4
abbrev JaM:Stmt:=J2 (J6 28) 5
abbrev Jdi:Stmt:=J2 (J6 28) 6
abbrev Jd7:Stmt:=J2 (J6 28) 7
abbrev Jgd:Stmt:=J2 (J6 28) 8
abbrev Jd8:Stmt:=J2 (J6 28) 9
abbrev JcT:Stmt:=J2 (J6 28) 10
abbrev JfA:Stmt:=J2 (J6 28) 11
abbrev Jfa:Stmt:=J6 31
abbrev Je9:Stmt:=J6 32
abbrev Jfc:Stmt:=J2 (J6 33) 0
abbrev Jbs:Stmt:=J2 (J6 33) 1
abbrev JbP:Stmt:=J2 (J6 33) 2
abbrev JgC:Stmt:=J2 (J6 33) 3
abbrev Jfz:Stmt:=J2 (J6 33) 4
abbrev Jh1:Stmt:=J2 (J6 33) 5
abbrev Jgb:Stmt:=J2 (J6 33) 6
abbrev JgA:Stmt:=J2 (J6 33) 7
abbrev JeT:Stmt:=J2 (J6 33) 8
abbrev Ji2:Stmt:=J2 (J6 33) 9
abbrev Jgz:Stmt:=J2 (J6 33) 10
abbrev JgB:Stmt:=J2 (J6 33) 11
abbrev Jh0:Stmt:=J2 (J6 33) 12
abbrev Jga:Stmt:=J2 (J6 33) 13
abbrev JhY:Stmt:=J2 (J6 33) 14
abbrev Ji3:Stmt:=J2 (J6 33) 15
abbrev Jgc:Stmt:=J2 (J6 33) 16
abbrev JhZ:Stmt:=J2 (J6 33) 17
abbrev Jh2:Stmt:=J2 (J6 33) 18
abbrev Jd6:Stmt:=J2 (J6 33) 19
abbrev Jd5:Stmt:=J2 (J6 33) 20
abbrev Ja8:Stmt:=J6 37
abbrev Jdh:Stmt:=J6 38
abbrev Jcq:Stmt:=J6 39
abbrev Jde:Stmt:=J6 40
abbrev Jdf:Stmt:=J6 41
abbrev Jd9:Stmt:=J2 (J6 42) 0
abbrev Jav:Stmt:=J2 (J6 42) 1
abbrev JbQ:Stmt:=J2 (J6 42) 2
abbrev JbR:Stmt:=J2 (J6 42) 3
abbrev JqH:Stmt:=J6 44
abbrev Joa:Stmt:=J6 45
abbrev JjZ:Stmt:=J6 46
abbrev JhC:Stmt:=J6 47
abbrev Jj0:Stmt:=J6 48
abbrev JhD:Stmt:=J6 49
abbrev Jfx:Stmt:=J6 50
abbrev Ji1:Stmt:=J6 51
abbrev Joc:Stmt:=J6 52
abbrev JlX:Stmt:=J6 53
abbrev Jn8:Stmt:=J6 54
abbrev Jiq:Stmt:=J6 55
abbrev JhB:Stmt:=J6 56
abbrev Jj2:Stmt:=J6 57
abbrev JlY:Stmt:=J6 58
abbrev Jj1:Stmt:=J6 59
abbrev JbO:Stmt:=J6 60
abbrev Jcp:Stmt:=J6 61
abbrev Je8:Stmt:=J6 62
abbrev Jj3:Stmt:=J6 63
abbrev JlW:Stmt:=J6 64
abbrev JfX:Stmt:=J6 65
abbrev Jfb:Stmt:=J6 66
abbrev Jn9:Stmt:=J6 67
abbrev Jgy:Stmt:=J6 68
abbrev JhE:Stmt:=J6 69
abbrev JlZ:Stmt:=J6 70
abbrev Job:Stmt:=J6 71
abbrev Jfy:Stmt:=J6 72
abbrev JfV:Stmt:=J6 73
abbrev JfW:Stmt:=J6 74
def JqB (K:Frag):List (Bool):=[JQ K "_wall",
 JQ K "good_name",
 JQ K "check_hand",
 JQ K "check_up_to",
 JQ K "check_coins",
 JQ K "check_standing",
 JQ K "ended",
 Yc K "Book" "__init__",
 PySem.W.isFn K (.ref (Jo K "Book" "__init__")),
 Yc K "Book" "needs_with",
 PySem.W.isFn K (.ref (Jo K "Book" "needs_with")),
 Yc K "Book" "need_at",
 PySem.W.isFn K (.ref (Jo K "Book" "need_at")),
 Yc K "Book" "need_where_north_leads",
 PySem.W.isFn K (.ref (Jo K "Book" "need_where_north_leads")),
 Yc K "Book" "need_where_south_leads",
 PySem.W.isFn K (.ref (Jo K "Book" "need_where_south_leads")),
 Yc K "Book" "check_share",
 PySem.W.isFn K (.ref (Jo K "Book" "check_share")),
 Yc K "Book" "winner",
 PySem.W.isFn K (.ref (Jo K "Book" "winner")),
 Yc K "Book" "least",
 PySem.W.isFn K (.ref (Jo K "Book" "least")),
 Yc K "Book" "bid_of",
 PySem.W.isFn K (.ref (Jo K "Book" "bid_of")),
 Yc K "Book" "answer_of",
 PySem.W.isFn K (.ref (Jo K "Book" "answer_of")),
 Yc K "Book" "answer_wins",
 PySem.W.isFn K (.ref (Jo K "Book" "answer_wins")),
 Yc K "Book" "step_of",
 PySem.W.isFn K (.ref (Jo K "Book" "step_of")),
 JQ K "check_new",
 JQ K "find_kept",
 Yc K "Hall" "__init__",
 PySem.W.isFn K (.ref (Jo K "Hall" "__init__")),
 Yc K "Hall" "add_board",
 PySem.W.isFn K (.ref (Jo K "Hall" "add_board")),
 Yc K "Hall" "board_of",
 PySem.W.isFn K (.ref (Jo K "Hall" "board_of")),
 Yc K "Hall" "begin",
 PySem.W.isFn K (.ref (Jo K "Hall" "begin")),
 Yc K "Hall" "game_of",
 PySem.W.isFn K (.ref (Jo K "Hall" "game_of")),
 Yc K "Hall" "drop",
 PySem.W.isFn K (.ref (Jo K "Hall" "drop")),
 Yc K "Hall" "boards",
 PySem.W.isFn K (.ref (Jo K "Hall" "boards")),
 Yc K "Hall" "games",
 PySem.W.isFn K (.ref (Jo K "Hall" "games")),
 Yc K "Hall" "standing",
 PySem.W.isFn K (.ref (Jo K "Hall" "standing")),
 Yc K "Hall" "due",
 PySem.W.isFn K (.ref (Jo K "Hall" "due")),
 Yc K "Hall" "named",
 PySem.W.isFn K (.ref (Jo K "Hall" "named")),
 Yc K "Hall" "deeds",
 PySem.W.isFn K (.ref (Jo K "Hall" "deeds")),
 Yc K "Hall" "over",
 PySem.W.isFn K (.ref (Jo K "Hall" "over")),
 Yc K "Hall" "winner",
 PySem.W.isFn K (.ref (Jo K "Hall" "winner")),
 Yc K "Hall" "told",
 PySem.W.isFn K (.ref (Jo K "Hall" "told")),
 Yc K "Hall" "bid",
 PySem.W.isFn K (.ref (Jo K "Hall" "bid")),
 Yc K "Hall" "answer",
 PySem.W.isFn K (.ref (Jo K "Hall" "answer")),
 Yc K "Hall" "step",
 PySem.W.isFn K (.ref (Jo K "Hall" "step")),
 Yc K "Hall" "back",
 PySem.W.isFn K (.ref (Jo K "Hall" "back")),
 Yc K "Hall" "judge",
 PySem.W.isFn K (.ref (Jo K "Hall" "judge")),
 Yc K "Hall" "least",
 PySem.W.isFn K (.ref (Jo K "Hall" "least")),
 JQ K "check_each_once",
 JQ K "check_among",
 JQ K "check_places",
 JQ K "check_lanes",
 JQ K "check_goals",
 Yc K "Board" "__init__",
 PySem.W.isFn K (.ref (Jo K "Board" "__init__")),
 Yc K "Board" "check_place",
 PySem.W.isFn K (.ref (Jo K "Board" "check_place")),
 Yc K "Board" "ways",
 PySem.W.isFn K (.ref (Jo K "Board" "ways")),
 Yc K "Board" "is_goal",
 PySem.W.isFn K (.ref (Jo K "Board" "is_goal")),
 JQ K "_law_at",
 JQ K "_law_row",
 JQ K "_law_whole",
 JQ K "_law_names",
 JQ K "_law_pairs",
 JQ K "_law_goals",
 JQ K "_law_small",
 JQ K "_law_ways",
 JQ K "_law_foe",
 JQ K "_law_hand",
 JQ K "_law_won",
 JQ K "_law_turned",
 JQ K "_law_which",
 JQ K "_law_holds",
 JQ K "_law_flat",
 JQ K "_law_model",
 JQ K "_law_good_steps",
 JQ K "_law_good_replies",
 JQ K "_law_good_bids",
 JQ K "_law_first",
 JQ K "_law_open",
 JQ K "_law_any_hand",
 JQ K "_law_any_place",
 JQ K "_law_try",
 JQ K "_law_refusal",
 JQ K "_law_exact",
 JQ K "_law_fits",
 JQ K "_law_off",
 JQ K "_law_round",
 JQ K "_law_varied",
 JQ K "law",
 JQ K "HANDS",
 JQ K "BidmoverError",
 JQ K "BadName",
 JQ K "BadHand",
 JQ K "OutOfRange",
 JQ K "Twice",
 JQ K "NoPlace",
 JQ K "BadBid",
 JQ K "NoLane",
 JQ K "NotDue",
 JQ K "NothingDone",
 JQ K "Taken",
 JQ K "Full",
 JQ K "Missing",
 JQ K "Book",
 JQ K "Hall",
 JQ K "Board",
 PySem.W.plainGet K (Jg K "Book") Str.empty,
 PySem.W.hasDictIn K (Jg K "Book"),
 PySem.W.plainOver K (Jg K "Book"),
 PySem.W.makesIn K (Jg K "Book"),
 PySem.W.keepIn K (.ref (Jg K "Book")),
 PySem.W.plainGet K (Jg K "Hall") Str.empty,
 PySem.W.hasDictIn K (Jg K "Hall"),
 PySem.W.plainOver K (Jg K "Hall"),
 PySem.W.makesIn K (Jg K "Hall"),
 PySem.W.keepIn K (.ref (Jg K "Hall")),
 PySem.W.plainGet K (Jg K "Board") Str.empty,
 PySem.W.hasDictIn K (Jg K "Board"),
 PySem.W.plainOver K (Jg K "Board"),
 PySem.W.makesIn K (Jg K "Board"),
 PySem.W.keepIn K (.ref (Jg K "Board")),
 PySem.W.excIn K (Jg K "BadHand") [.type "ValueError",.type "Exception",.type "BaseException",.type "object"] "ValueError.__new__",
 (PySem.W.clsIn K (Jg K "BadHand")).isSome,
 PySem.W.excIn K (Jg K "OutOfRange") [.type "ValueError",.type "Exception",.type "BaseException",.type "object"] "ValueError.__new__",
 (PySem.W.clsIn K (Jg K "OutOfRange")).isSome,
 PySem.W.excIn K (Jg K "BadName") [.type "ValueError",.type "Exception",.type "BaseException",.type "object"] "ValueError.__new__",
 (PySem.W.clsIn K (Jg K "BadName")).isSome,
 PySem.W.excIn K (Jg K "Taken") [.type "ValueError",.type "Exception",.type "BaseException",.type "object"] "ValueError.__new__",
 (PySem.W.clsIn K (Jg K "Taken")).isSome,
 PySem.W.excIn K (Jg K "Full") [.type "ValueError",.type "Exception",.type "BaseException",.type "object"] "ValueError.__new__",
 (PySem.W.clsIn K (Jg K "Full")).isSome,
 PySem.W.excIn K (Jg K "Missing") [.type "ValueError",.type "Exception",.type "BaseException",.type "object"] "ValueError.__new__",
 (PySem.W.clsIn K (Jg K "Missing")).isSome,
 PySem.W.excIn K (Jg K "Twice") [.type "ValueError",.type "Exception",.type "BaseException",.type "object"] "ValueError.__new__",
 (PySem.W.clsIn K (Jg K "Twice")).isSome,
 PySem.W.excIn K (Jg K "NoPlace") [.type "ValueError",.type "Exception",.type "BaseException",.type "object"] "ValueError.__new__",
 (PySem.W.clsIn K (Jg K "NoPlace")).isSome]
def isB:List (Bool):=List.replicate 167 true
def JqA (K:Frag):List (Option (FuncData×Bool)):=[J3 K (Jg K "_wall") "_wall",
 J3 K (Jg K "good_name") "good_name",
 J3 K (Jg K "check_hand") "check_hand",
 J3 K (Jg K "check_up_to") "check_up_to",
 J3 K (Jg K "check_coins") "check_coins",
 J3 K (Jg K "check_standing") "check_standing",
 J3 K (Jg K "ended") "ended",
 J3 K (Jo K "Book" "__init__") "Book.__init__",
 J3 K (Jo K "Book" "needs_with") "Book.needs_with",
 J3 K (Jo K "Book" "need_at") "Book.need_at",
 J3 K (Jo K "Book" "need_where_north_leads") "Book.need_where_north_leads",
 J3 K (Jo K "Book" "need_where_south_leads") "Book.need_where_south_leads",
 J3 K (Jo K "Book" "check_share") "Book.check_share",
 J3 K (Jo K "Book" "winner") "Book.winner",
 J3 K (Jo K "Book" "least") "Book.least",
 J3 K (Jo K "Book" "bid_of") "Book.bid_of",
 J3 K (Jo K "Book" "answer_of") "Book.answer_of",
 J3 K (Jo K "Book" "answer_wins") "Book.answer_wins",
 J3 K (Jo K "Book" "step_of") "Book.step_of",
 J3 K (Jg K "check_new") "check_new",
 J3 K (Jg K "find_kept") "find_kept",
 J3 K (Jo K "Hall" "__init__") "Hall.__init__",
 J3 K (Jo K "Hall" "add_board") "Hall.add_board",
 J3 K (Jo K "Hall" "board_of") "Hall.board_of",
 J3 K (Jo K "Hall" "begin") "Hall.begin",
 J3 K (Jo K "Hall" "game_of") "Hall.game_of",
 J3 K (Jo K "Hall" "drop") "Hall.drop",
 J3 K (Jo K "Hall" "boards") "Hall.boards",
 J3 K (Jo K "Hall" "games") "Hall.games",
 J3 K (Jo K "Hall" "standing") "Hall.standing",
 J3 K (Jo K "Hall" "due") "Hall.due",
 J3 K (Jo K "Hall" "named") "Hall.named",
 J3 K (Jo K "Hall" "deeds") "Hall.deeds",
 J3 K (Jo K "Hall" "over") "Hall.over",
 J3 K (Jo K "Hall" "winner") "Hall.winner",
 J3 K (Jo K "Hall" "told") "Hall.told",
 J3 K (Jo K "Hall" "bid") "Hall.bid",
 J3 K (Jo K "Hall" "answer") "Hall.answer",
 J3 K (Jo K "Hall" "step") "Hall.step",
 J3 K (Jo K "Hall" "back") "Hall.back",
 J3 K (Jo K "Hall" "judge") "Hall.judge",
 J3 K (Jo K "Hall" "least") "Hall.least",
 J3 K (Jg K "check_each_once") "check_each_once",
 J3 K (Jg K "check_among") "check_among",
 J3 K (Jg K "check_places") "check_places",
 J3 K (Jg K "check_lanes") "check_lanes",
 J3 K (Jg K "check_goals") "check_goals",
 J3 K (Jo K "Board" "__init__") "Board.__init__",
 J3 K (Jo K "Board" "check_place") "Board.check_place",
 J3 K (Jo K "Board" "ways") "Board.ways",
 J3 K (Jo K "Board" "is_goal") "Board.is_goal",
 J3 K (Jg K "_law_at") "_law_at",
 J3 K (Jg K "_law_row") "_law_row",
 J3 K (Jg K "_law_whole") "_law_whole",
 J3 K (Jg K "_law_names") "_law_names",
 J3 K (Jg K "_law_pairs") "_law_pairs",
 J3 K (Jg K "_law_goals") "_law_goals",
 J3 K (Jg K "_law_small") "_law_small",
 J3 K (Jg K "_law_ways") "_law_ways",
 J3 K (Jg K "_law_foe") "_law_foe",
 J3 K (Jg K "_law_hand") "_law_hand",
 J3 K (Jg K "_law_won") "_law_won",
 J3 K (Jg K "_law_turned") "_law_turned",
 J3 K (Jg K "_law_which") "_law_which",
 J3 K (Jg K "_law_holds") "_law_holds",
 J3 K (Jg K "_law_flat") "_law_flat",
 J3 K (Jg K "_law_model") "_law_model",
 J3 K (Jg K "_law_good_steps") "_law_good_steps",
 J3 K (Jg K "_law_good_replies") "_law_good_replies",
 J3 K (Jg K "_law_good_bids") "_law_good_bids",
 J3 K (Jg K "_law_first") "_law_first",
 J3 K (Jg K "_law_open") "_law_open",
 J3 K (Jg K "_law_any_hand") "_law_any_hand",
 J3 K (Jg K "_law_any_place") "_law_any_place",
 J3 K (Jg K "_law_try") "_law_try",
 J3 K (Jg K "_law_refusal") "_law_refusal",
 J3 K (Jg K "_law_exact") "_law_exact",
 J3 K (Jg K "_law_fits") "_law_fits",
 J3 K (Jg K "_law_off") "_law_off",
 J3 K (Jg K "_law_round") "_law_round",
 J3 K (Jg K "_law_varied") "_law_varied",
 J3 K (Jg K "law") "law"]
def isF:List (Option (FuncData×Bool)):=[J5 "_wall" "_wall" Jnq,
 J5 "good_name" "good_name" JcM,
 J5 "check_hand" "check_hand" Jd4,
 J5 "check_up_to" "check_up_to" Jdd,
 J5 "check_coins" "check_coins" Jdg,
 J5 "check_standing" "check_standing" Jbr,
 J5 "ended" "ended" Jj4,
 J5 "__init__" "Book.__init__" Jfd,
 J5 "needs_with" "Book.needs_with" Ja9,
 J5 "need_at" "Book.need_at" Jcr,
 J5 "need_where_north_leads" "Book.need_where_north_leads" YO,
 J5 "need_where_south_leads" "Book.need_where_south_leads" YN,
 J5 "check_share" "Book.check_share" JaM,
 J5 "winner" "Book.winner" Jdi,
 J5 "least" "Book.least" Jd7,
 J5 "bid_of" "Book.bid_of" Jgd,
 J5 "answer_of" "Book.answer_of" Jd8,
 J5 "answer_wins" "Book.answer_wins" JcT,
 J5 "step_of" "Book.step_of" JfA,
 J5 "check_new" "check_new" Jfa,
 J5 "find_kept" "find_kept" Je9,
 J5 "__init__" "Hall.__init__" Jfc,
 J5 "add_board" "Hall.add_board" Jbs,
 J5 "board_of" "Hall.board_of" JbP,
 J5 "begin" "Hall.begin" JgC,
 J5 "game_of" "Hall.game_of" Jfz,
 J5 "drop" "Hall.drop" Jh1,
 J5 "boards" "Hall.boards" Jgb,
 J5 "games" "Hall.games" JgA,
 J5 "standing" "Hall.standing" JeT,
 J5 "due" "Hall.due" Ji2,
 J5 "named" "Hall.named" Jgz,
 J5 "deeds" "Hall.deeds" JgB,
 J5 "over" "Hall.over" Jh0,
 J5 "winner" "Hall.winner" Jga,
 J5 "told" "Hall.told" JhY,
 J5 "bid" "Hall.bid" Ji3,
 J5 "answer" "Hall.answer" Jgc,
 J5 "step" "Hall.step" JhZ,
 J5 "back" "Hall.back" Jh2,
 J5 "judge" "Hall.judge" Jd6,
 J5 "least" "Hall.least" Jd5,
 J5 "check_each_once" "check_each_once" Ja8,
 J5 "check_among" "check_among" Jdh,
 J5 "check_places" "check_places" Jcq,
 J5 "check_lanes" "check_lanes" Jde,
 J5 "check_goals" "check_goals" Jdf,
 J5 "__init__" "Board.__init__" Jd9,
 J5 "check_place" "Board.check_place" Jav,
 J5 "ways" "Board.ways" JbQ,
 J5 "is_goal" "Board.is_goal" JbR,
 J5 "_law_at" "_law_at" JqH,
 J5 "_law_row" "_law_row" Joa,
 J5 "_law_whole" "_law_whole" JjZ,
 J5 "_law_names" "_law_names" JhC,
 J5 "_law_pairs" "_law_pairs" Jj0,
 J5 "_law_goals" "_law_goals" JhD,
 J5 "_law_small" "_law_small" Jfx,
 J5 "_law_ways" "_law_ways" Ji1,
 J5 "_law_foe" "_law_foe" Joc,
 J5 "_law_hand" "_law_hand" JlX,
 J5 "_law_won" "_law_won" Jn8,
 J5 "_law_turned" "_law_turned" Jiq,
 J5 "_law_which" "_law_which" JhB,
 J5 "_law_holds" "_law_holds" Jj2,
 J5 "_law_flat" "_law_flat" JlY,
 J5 "_law_model" "_law_model" Jj1,
 J5 "_law_good_steps" "_law_good_steps" JbO,
 J5 "_law_good_replies" "_law_good_replies" Jcp,
 J5 "_law_good_bids" "_law_good_bids" Je8,
 J5 "_law_first" "_law_first" Jj3,
 J5 "_law_open" "_law_open" JlW,
 J5 "_law_any_hand" "_law_any_hand" JfX,
 J5 "_law_any_place" "_law_any_place" Jfb,
 J5 "_law_try" "_law_try" Jn9,
 J5 "_law_refusal" "_law_refusal" Jgy,
 J5 "_law_exact" "_law_exact" JhE,
 J5 "_law_fits" "_law_fits" JlZ,
 J5 "_law_off" "_law_off" Job,
 J5 "_law_round" "_law_round" Jfy,
 J5 "_law_varied" "_law_varied" JfV,
 J5 "law" "law" JfW]
def Jqy (K:Frag):List (Option (Option Value)):=[PySem.W.nsIn K mainGlobals "all",
 PySem.W.nsIn K mainGlobals "len",
 PySem.W.nsIn K mainGlobals "range",
 PySem.W.nsIn K mainGlobals "min",
 PySem.W.nsIn K mainGlobals "max",
 PySem.W.nsIn K mainGlobals "set",
 PySem.W.nsIn K mainGlobals "tuple",
 PySem.W.nsIn K mainGlobals "sorted",
 PySem.W.nsIn K mainGlobals "isinstance",
 PySem.W.nsIn K mainGlobals "int",
 PySem.W.nsIn K mainGlobals "bool",
 PySem.W.nsIn K mainGlobals "str",
 PySem.W.nsIn K mainGlobals "ValueError",
 PySem.W.nsIn K mainGlobals "list",
 PySem.W.findIn K (.ref (Jg K "Book")) "__setattr__",
 PySem.W.findIn K (.ref (Jg K "Book")) "board",
 PySem.W.findIn K (.ref (Jg K "Book")) "coins",
 PySem.W.findIn K (.ref (Jg K "Book")) "turns",
 PySem.W.findIn K (.ref (Jg K "Book")) "needs",
 PySem.W.findIn K (.ref (Jg K "Hall")) "__setattr__",
 PySem.W.findIn K (.ref (Jg K "Hall")) "kept_boards",
 PySem.W.findIn K (.ref (Jg K "Hall")) "kept_games",
 PySem.W.findIn K (.ref (Jg K "Board")) "__setattr__",
 PySem.W.findIn K (.ref (Jg K "Board")) "places",
 PySem.W.findIn K (.ref (Jg K "Board")) "lanes",
 PySem.W.findIn K (.ref (Jg K "Board")) "goals",
 PySem.W.specialIn K (.builtin "object.__class__") "__get__",
 PySem.W.findIn K (.ref (Jg K "BadHand")) "__getattribute__",
 PySem.W.findIn K (.ref (Jg K "BadHand")) "__getattr__",
 PySem.W.findIn K (.ref (Jg K "BadHand")) "__class__",
 PySem.W.findIn K (.ref (Jg K "OutOfRange")) "__getattribute__",
 PySem.W.findIn K (.ref (Jg K "OutOfRange")) "__getattr__",
 PySem.W.findIn K (.ref (Jg K "OutOfRange")) "__class__",
 PySem.W.findIn K (.ref (Jg K "BadName")) "__getattribute__",
 PySem.W.findIn K (.ref (Jg K "BadName")) "__getattr__",
 PySem.W.findIn K (.ref (Jg K "BadName")) "__class__",
 PySem.W.findIn K (.ref (Jg K "Taken")) "__getattribute__",
 PySem.W.findIn K (.ref (Jg K "Taken")) "__getattr__",
 PySem.W.findIn K (.ref (Jg K "Taken")) "__class__",
 PySem.W.findIn K (.ref (Jg K "Full")) "__getattribute__",
 PySem.W.findIn K (.ref (Jg K "Full")) "__getattr__",
 PySem.W.findIn K (.ref (Jg K "Full")) "__class__",
 PySem.W.findIn K (.ref (Jg K "Missing")) "__getattribute__",
 PySem.W.findIn K (.ref (Jg K "Missing")) "__getattr__",
 PySem.W.findIn K (.ref (Jg K "Missing")) "__class__",
 PySem.W.findIn K (.ref (Jg K "Twice")) "__getattribute__",
 PySem.W.findIn K (.ref (Jg K "Twice")) "__getattr__",
 PySem.W.findIn K (.ref (Jg K "Twice")) "__class__",
 PySem.W.findIn K (.ref (Jg K "NoPlace")) "__getattribute__",
 PySem.W.findIn K (.ref (Jg K "NoPlace")) "__getattr__",
 PySem.W.findIn K (.ref (Jg K "NoPlace")) "__class__"]
def isN:List (Option (Option Value)):=[some none,
 some none,
 some none,
 some none,
 some none,
 some none,
 some none,
 some none,
 some none,
 some none,
 some none,
 some none,
 some none,
 some none,
 some (some (.builtin "object.__setattr__")),
 some none,
 some none,
 some none,
 some none,
 some (some (.builtin "object.__setattr__")),
 some none,
 some none,
 some (some (.builtin "object.__setattr__")),
 some none,
 some none,
 some none,
 some (some (.builtin "getset_descriptor.__get__")),
 some (some (.builtin "BaseException.__getattribute__")),
 some none,
 some (some (.builtin "object.__class__")),
 some (some (.builtin "BaseException.__getattribute__")),
 some none,
 some (some (.builtin "object.__class__")),
 some (some (.builtin "BaseException.__getattribute__")),
 some none,
 some (some (.builtin "object.__class__")),
 some (some (.builtin "BaseException.__getattribute__")),
 some none,
 some (some (.builtin "object.__class__")),
 some (some (.builtin "BaseException.__getattribute__")),
 some none,
 some (some (.builtin "object.__class__")),
 some (some (.builtin "BaseException.__getattribute__")),
 some none,
 some (some (.builtin "object.__class__")),
 some (some (.builtin "BaseException.__getattribute__")),
 some none,
 some (some (.builtin "object.__class__")),
 some (some (.builtin "BaseException.__getattribute__")),
 some none,
 some (some (.builtin "object.__class__"))]
def Jqz (K:Frag):List (Option Bool):=[PySem.W.takesIn K (.builtin "object.__class__"),
 PySem.W.mroIn K (Jg K "BadHand") (.type "object"),
 PySem.W.mroIn K (Jg K "BadHand") (.type "BaseException"),
 PySem.W.exmOne K (.ref (Jg K "BadHand")) (.ref (Jg K "BidmoverError")),
 PySem.W.kitOne K (.ref (Jg K "BadHand")) (.type "ValueError"),
 PySem.W.kitOne K (.ref (Jg K "BadHand")) (.ref (Jg K "BadName")),
 PySem.W.kitOne K (.ref (Jg K "BadHand")) (.ref (Jg K "BadHand")),
 PySem.W.kitOne K (.ref (Jg K "BadHand")) (.ref (Jg K "OutOfRange")),
 PySem.W.kitOne K (.ref (Jg K "BadHand")) (.ref (Jg K "Twice")),
 PySem.W.kitOne K (.ref (Jg K "BadHand")) (.ref (Jg K "NoPlace")),
 PySem.W.kitOne K (.ref (Jg K "BadHand")) (.ref (Jg K "BadBid")),
 PySem.W.kitOne K (.ref (Jg K "BadHand")) (.ref (Jg K "NoLane")),
 PySem.W.kitOne K (.ref (Jg K "BadHand")) (.ref (Jg K "NotDue")),
 PySem.W.kitOne K (.ref (Jg K "BadHand")) (.ref (Jg K "NothingDone")),
 PySem.W.kitOne K (.ref (Jg K "BadHand")) (.ref (Jg K "Taken")),
 PySem.W.kitOne K (.ref (Jg K "BadHand")) (.ref (Jg K "Full")),
 PySem.W.kitOne K (.ref (Jg K "BadHand")) (.ref (Jg K "Missing")),
 PySem.W.mroIn K (Jg K "OutOfRange") (.type "object"),
 PySem.W.mroIn K (Jg K "OutOfRange") (.type "BaseException"),
 PySem.W.exmOne K (.ref (Jg K "OutOfRange")) (.ref (Jg K "BidmoverError")),
 PySem.W.kitOne K (.ref (Jg K "OutOfRange")) (.type "ValueError"),
 PySem.W.kitOne K (.ref (Jg K "OutOfRange")) (.ref (Jg K "BadName")),
 PySem.W.kitOne K (.ref (Jg K "OutOfRange")) (.ref (Jg K "BadHand")),
 PySem.W.kitOne K (.ref (Jg K "OutOfRange")) (.ref (Jg K "OutOfRange")),
 PySem.W.kitOne K (.ref (Jg K "OutOfRange")) (.ref (Jg K "Twice")),
 PySem.W.kitOne K (.ref (Jg K "OutOfRange")) (.ref (Jg K "NoPlace")),
 PySem.W.kitOne K (.ref (Jg K "OutOfRange")) (.ref (Jg K "BadBid")),
 PySem.W.kitOne K (.ref (Jg K "OutOfRange")) (.ref (Jg K "NoLane")),
 PySem.W.kitOne K (.ref (Jg K "OutOfRange")) (.ref (Jg K "NotDue")),
 PySem.W.kitOne K (.ref (Jg K "OutOfRange")) (.ref (Jg K "NothingDone")),
 PySem.W.kitOne K (.ref (Jg K "OutOfRange")) (.ref (Jg K "Taken")),
 PySem.W.kitOne K (.ref (Jg K "OutOfRange")) (.ref (Jg K "Full")),
 PySem.W.kitOne K (.ref (Jg K "OutOfRange")) (.ref (Jg K "Missing")),
 PySem.W.mroIn K (Jg K "BadName") (.type "object"),
 PySem.W.mroIn K (Jg K "BadName") (.type "BaseException"),
 PySem.W.mroIn K (Jg K "Taken") (.type "object"),
 PySem.W.mroIn K (Jg K "Taken") (.type "BaseException"),
 PySem.W.mroIn K (Jg K "Full") (.type "object"),
 PySem.W.mroIn K (Jg K "Full") (.type "BaseException"),
 PySem.W.mroIn K (Jg K "Missing") (.type "object"),
 PySem.W.mroIn K (Jg K "Missing") (.type "BaseException"),
 PySem.W.mroIn K (Jg K "Twice") (.type "object"),
 PySem.W.mroIn K (Jg K "Twice") (.type "BaseException"),
 PySem.W.mroIn K (Jg K "NoPlace") (.type "object"),
 PySem.W.mroIn K (Jg K "NoPlace") (.type "BaseException"),
 PySem.W.exmOne K (.ref (Jg K "NoPlace")) (.ref (Jg K "BidmoverError")),
 PySem.W.kitOne K (.ref (Jg K "NoPlace")) (.type "ValueError"),
 PySem.W.kitOne K (.ref (Jg K "NoPlace")) (.ref (Jg K "BadName")),
 PySem.W.kitOne K (.ref (Jg K "NoPlace")) (.ref (Jg K "BadHand")),
 PySem.W.kitOne K (.ref (Jg K "NoPlace")) (.ref (Jg K "OutOfRange")),
 PySem.W.kitOne K (.ref (Jg K "NoPlace")) (.ref (Jg K "Twice")),
 PySem.W.kitOne K (.ref (Jg K "NoPlace")) (.ref (Jg K "NoPlace")),
 PySem.W.kitOne K (.ref (Jg K "NoPlace")) (.ref (Jg K "BadBid")),
 PySem.W.kitOne K (.ref (Jg K "NoPlace")) (.ref (Jg K "NoLane")),
 PySem.W.kitOne K (.ref (Jg K "NoPlace")) (.ref (Jg K "NotDue")),
 PySem.W.kitOne K (.ref (Jg K "NoPlace")) (.ref (Jg K "NothingDone")),
 PySem.W.kitOne K (.ref (Jg K "NoPlace")) (.ref (Jg K "Taken")),
 PySem.W.kitOne K (.ref (Jg K "NoPlace")) (.ref (Jg K "Full")),
 PySem.W.kitOne K (.ref (Jg K "NoPlace")) (.ref (Jg K "Missing"))]
def isK:List (Option Bool):=[some true,
 some true,
 some true,
 some true,
 some true,
 some false,
 some true,
 some false,
 some false,
 some false,
 some false,
 some false,
 some false,
 some false,
 some false,
 some false,
 some false,
 some true,
 some true,
 some true,
 some true,
 some false,
 some false,
 some true,
 some false,
 some false,
 some false,
 some false,
 some false,
 some false,
 some false,
 some false,
 some false,
 some true,
 some true,
 some true,
 some true,
 some true,
 some true,
 some true,
 some true,
 some true,
 some true,
 some true,
 some true,
 some true,
 some true,
 some false,
 some false,
 some false,
 some false,
 some true,
 some false,
 some false,
 some false,
 some false,
 some false,
 some false,
 some false]
def Jqw (K:Frag):List (Option (Sum Int Str)):=[obV K "MOST_SIGNS",
 obV K "MOST_TURNS",
 obV K "MOST_COINS",
 obV K "MOST_BOARDS",
 obV K "MOST_PLACES",
 obV K "MOST_LANES"]
def isV:List (Option (Sum Int Str)):=[some (.inl 6),
 some (.inl 30),
 some (.inl 20),
 some (.inl 12),
 some (.inl 12),
 some (.inl 40)]
def Jqx (K:Frag):List (Option (Bool×List (Option (Sum Int Str)))):=[obT K "HANDS"]
def isT:List (Option (Bool×List (Option (Sum Int Str)))):=[some (true,([.inr "north",.inr "south"]:List (Sum Int Str)).map some)]
def see (s:Shared):=(fun K=>(JqB K,JqA K,Jqy K,Jqz K,Jqw K,Jqx K)) (JpF s.heap)
def Jlx:=(isB,isF,isN,isK,isV,isT)
def xt (s:Shared):Bool:=xlAt qv [] s && recOk [] s
set_option maxHeartbeats 0 in
theorem Js1 (w:World) (os:OsState):(JjP pg w 12228 (JoE w.params os)).map (fun s=>Jn5 pg qv lo0 xt see w.params s.abs)=some (true,openGood qv lo0,Jlx):=by
 kernel_rfl
theorem JsA (P:Params):((boot_heap P).isNs mainGlobals && (Array.mk ([]:List GenState)).size == 0)=true:=by kernel_rfl
theorem JqG:PySem.W.OpenLaw.wellSaid PySem.Challenge.rw_bidmover_k32_hall_judges=true:=by kernel_rfl
theorem left:LeftO pg qv lo0 xt see (fun _=>Jlx) 12228:=Jsu (by kernel_rfl) (by decide) (fun s=>by kernel_rfl) Js1 JsA
end Pf
namespace L2
open PySem PySem.Spec PyProof.Rows
abbrev JP:=Sum Int Str
def JhH:JP→Value→Bool
 | .inl k,v=>Value.isInt k v
 | .inr x,v=>Value.isStrOf x v
def JuM (w:World):JP→Int
 | .inl k=>hashInt k
 | .inr x=>hashStr w x
theorem Zq:∀ {k:JP} {v:Value},JhH k v=true→(∃ i t,k=Sum.inl i∧v=Value.int i t)∨(∃ x t,k=Sum.inr x∧v=Value.str x t)
 | .inl i,v,h=>by
  obtain ⟨t,e⟩:=Value.isInt_shape (k:=i) (v:=v) h;exact .inl ⟨i,t,rfl,e⟩
 | .inr x,v,h=>by
  obtain ⟨t,e⟩:=Value.isStrOf_shape (x:=x) (v:=v) h;exact .inr ⟨x,t,rfl,e⟩
theorem Jpw (i:Int) (t:Tok):JhH (.inl i) (.int i t)=true:=by simp [JhH,Value.isInt]
theorem Jpv (x:Str) (t:Tok):JhH (.inr x) (.str x t)=true:=by simp [JhH,Value.isStrOf]
theorem Jtt (a b:Int):decide ((Sum.inl a:JP)=Sum.inl b)=(a == b):=by
 by_cases e:a=b
 ·subst e; simp
 ·have h:¬ (Sum.inl a:JP)=Sum.inl b:=fun q=>e (Sum.inl.inj q)
  rw [decide_eq_false h];exact (beq_eq_false_iff_ne.mpr e).symm
theorem Jpu (a b:Str):decide ((Sum.inr a:JP)=Sum.inr b)=decide (a=b):=by
 by_cases e:a=b
 ·subst e; simp
 ·have h:¬ (Sum.inr a:JP)=Sum.inr b:=fun q=>e (Sum.inr.inj q)
  rw [decide_eq_false h,decide_eq_false e]
theorem Jts (a:Int) (b:Str):decide ((Sum.inl a:JP)=Sum.inr b)=false:=decide_eq_false (fun q=>nomatch q)
theorem Jtr (a:Str) (b:Int):decide ((Sum.inr a:JP)=Sum.inl b)=false:=decide_eq_false (fun q=>nomatch q)
def YC (prog:Program) (w:World):PySem.KeyKind prog w JP where
 is:=JhH
 hash:=JuM w
 inj:=fun v a b ha hb=>by
  rcases Zq ha with ⟨i,t,rfl,rfl⟩ | ⟨x,t,rfl,rfl⟩
  ·rcases Zq hb with ⟨j,u,rfl,e⟩ | ⟨y,u,rfl,e⟩
   ·injection e with e1 _; rw [e1]
   ·exact nomatch e
  ·rcases Zq hb with ⟨j,u,rfl,e⟩ | ⟨y,u,rfl,e⟩
   ·exact nomatch e
   ·injection e with e1 _; rw [e1]
 byValue:=fun k v h=>by
  rcases Zq h with ⟨i,t,rfl,rfl⟩ | ⟨x,t,rfl,rfl⟩ <;> rfl
 pyHash:=fun hv h=>by
  rcases Zq hv with ⟨i,t,rfl,rfl⟩ | ⟨x,t,rfl,rfl⟩
  ·exact wpAny_pyHash_int h
  ·exact wpAny_pyHash_str h
 eqBool:=fun hu hv h=>by
  rcases Zq hu with ⟨i,t,rfl,rfl⟩ | ⟨x,t,rfl,rfl⟩
  ·rcases Zq hv with ⟨j,u,rfl,rfl⟩ | ⟨y,u,rfl,rfl⟩
   ·rw [Jtt] at h; exact wpAny_eqBool_int h
   ·rw [Jts] at h; exact SeqAt.EqAt.int_str i t y u _ _ _ _ h
  ·rcases Zq hv with ⟨j,u,rfl,rfl⟩ | ⟨y,u,rfl,rfl⟩
   ·rw [Jtr] at h; exact SeqAt.EqAt.str_int x t j u _ _ _ _ h
   ·rw [Jpu] at h; exact wpAny_eqBool_str h
 «strs»:=fun k x t v h=>by
  rcases Zq h with ⟨i,u,rfl,e⟩ | ⟨y,u,rfl,e⟩
  ·exact nomatch e
  ·injection e with e1 _;subst e1;cases v <;> rfl
theorem Jm9 (prog:Program) (w:World) (i:Int) (t:Tok):(YC prog w).is (.inl i) (.int i t)=true:=Jpw i t
theorem Jbg (prog:Program) (w:World) (x:Str) (t:Tok):(YC prog w).is (.inr x) (.str x t)=true:=Jpv x t
end L2
namespace L2
open PySem PySem.Spec PyProof.Rows
inductive V where
 | non | bl (b:Bool) | int (i:Int) | str (x:Str) | byt (b:Array UInt8) | flt (b:UInt64) | ref (a:Addr) | ty (n:String)
 deriving DecidableEq
def JR:V→Value→Prop
 | .non,u=>u=Value.none
 | .bl b,u=>u=Value.bool b
 | .int i,u=>∃ t,u=Value.int i t
 | .str x,u=>∃ t,u=Value.str x t
 | .byt b,u=>∃ t,u=Value.bytes b t
 | .flt b,u=>∃ t,u=Value.float b t
 | .ref a,u=>u=Value.ref a
 | .ty n,u=>u=Value.type n
abbrev JI:List V→List Value→Prop:=Paired JR
theorem JI.length {xs:List V} {us:List Value} (r:JI xs us):xs.length=us.length:=Paired.length r
theorem JI.get:∀ {xs:List V} {us:List Value} {i:Nat} {x:V},JI xs us→xs[i]?=some x→∃ u,us[i]?=some u∧JR x u
 | _,_,_,_,.nil,e=>by simp at e
 | _,_,0,_,.cons r _,e=>by simp at e; subst e; exact ⟨_,rfl,r⟩
 | _,_,i + 1,x,.cons _ t,e=>by
  obtain ⟨u,h1,h2⟩:=JI.get (i:=i) (x:=x) t (by simpa using e);exact ⟨u,by simpa using h1,h2⟩
theorem JI.set {x:V} {u:Value} (r:JR x u):∀ {xs:List V} {us:List Value} (i:Nat),JI xs us→JI (xs.set i x) (us.set i u)
 | _,_,_,.nil=>.nil
 | _,_,0,.cons _ t=>.cons r t
 | _,_,i + 1,.cons q t=>.cons q (JI.set r i t)
theorem JI.append:∀ {xs ys:List V} {us ws:List Value},JI xs us→JI ys ws→JI (xs ++ ys) (us ++ ws)
 | _,_,_,_,.nil,s=>s
 | _,_,_,_,.cons r t,s=>.cons r (JI.append t s)
theorem JI.take:∀ {xs:List V} {us:List Value} (n:Nat),JI xs us→JI (xs.take n) (us.take n)
 | _,_,0,_=>.nil
 | _,_,_ + 1,.nil=>.nil
 | _,_,n + 1,.cons r t=>.cons r (JI.take n t)
theorem JI.drop:∀ {xs:List V} {us:List Value} (n:Nat),JI xs us→JI (xs.drop n) (us.drop n)
 | _,_,0,r=>r
 | _,_,_ + 1,.nil=>.nil
 | _,_,n + 1,.cons _ t=>JI.drop n t
theorem JI.none_of:∀ {xs:List V} {us:List Value} {i:Nat},JI xs us→xs[i]?=none→us[i]?=none:=fun {xs us i} r e=>by
 have h1:=r.length;have h2:xs.length≤i:=List.getElem?_eq_none_iff.mp e;exact List.getElem?_eq_none_iff.mpr (by omega)
def Jay:Option V→Option Value→Prop
 | some v,some u=>JR v u
 | none,none=>True
 | _,_=>False
def KV {κ:Type}:List (κ×V)→List (κ×Value)→Prop:=Paired fun (p:κ×V) (q:κ×Value)=>p.1=q.1∧JR p.2 q.2
def kV:JP→V
 | .inl i=>.int i
 | .inr x=>.str x
inductive HO where
 | lst (xs:List V)
 | tup (xs:List V)
 | dK (kvs:List (JP×V)) | dT (kvs:List (List JP×V))
 | set (S:Int→Bool) (n:Nat)
 | ins (C dx:Addr) (fs:List (Str×V))
 | own (x:Addr)
 | xd (fs:List (Str×V))
 | met (f x:Addr)
 | rng (lo hi:Int)
 | frz (o:Obj) (u:HO)
 | tbl (ps:Array Value)
 | ext (φ:Heap→Prop)
abbrev Hp:=Addr→Option HO
def upd (H:Hp) (a:Addr) (o:HO):Hp:=fun b=>if b=a then some o else H b
theorem Jh {H:Hp} {a:Addr} {o:HO}:upd H a o a=some o:=by unfold upd; rw [if_pos rfl]
theorem Jz {H:Hp} {a b:Addr} {o:HO} (h:b≠a):upd H a o b=H b:=by unfold upd; rw [if_neg h]
theorem Jaj {H:Hp} {a b:Addr} {o u:HO} (h:H a=some o) (h':H b=some u) (d:o≠u):a≠b:=by
 intro e; subst e; rw [h] at h'; exact d (Option.some.inj h')
theorem JA {H:Hp} {a b:Addr} {o:HO} (h:H a=some o) (h':H b=none):a≠b:=by
 intro e; subst e; rw [h] at h'; cases h'
section
variable (P:Program) (w:World)
def YA (H:Hp) (h:Heap) (a:Addr):HO→Prop
 | .lst xs=>xs.length≤sizeLine∧∃ (its:List Value) (n:Nat),JI xs its∧h.get? a=some { cls:=.type "list",data:=.seq its.toArray n }
 | .tup xs=>xs.length≤sizeLine∧∃ its:List Value,JI xs its∧IsTup h a its.toArray
 | .dK kvs=>kvs.length≤sizeLine∧(a == sysModules)=false∧∃ vs,KV kvs vs∧h.DictOf (YC P w) a vs
 | .dT kvs=>kvs.length≤sizeLine∧(a == sysModules)=false∧∃ xs:List (List JP×Addr×Value),
   Paired (fun (p:List JP×V) (q:List JP×Addr×Value)=>p.1=q.1∧H q.2.1=some (.tup (p.1.map kV))∧JR p.2 q.2.2) kvs xs ∧
   ∃ o es ep,h.get? a=some o∧o.ExactDict∧o.data=.dict es ep∧es.toList=xs.map (entryOfKey (tupleKind (YC P w)))∧(xs.map (·.1)).Nodup
 | .set S n=>h.SetOf (intKind P w) a S n
 | .ins C dx fs=>H dx=some (.own a)∧fs.length≤1000∧dx≠a∧h.get? a=some (PySem.W.instObj C dx) ∧
   ∃ mA,h.Ns1 dx mA∧(∀ f,Jay (fs.lookup f) (mA f))∧PySem.Within mA (fs.map (·.1))
 | .own _=>∃ o,h.get? a=some o
 | .xd fs=>∃ mA,h.Ns1 a mA∧∀ f,Jay (fs.lookup f) (mA f)
 | .rng lo hi=>∃ t u v,h.get? a=some { cls:=.type "range",data:=.fields #[.int lo t,.int hi u,.int 1 v] }
 | .frz o u=>h.get? a=some o∧YA H h a u
 | .tbl ps=>h.get? a=some { cls:=.none,data:=.fields ps }
 | .met f x=>h.get? a=some (PySem.W.methodObj (.ref f) (.ref x))
 | .ext φ=>φ h∧(∃ o,h.get? a=some o)∧∀ h1 h2:Heap,φ h1→(∀ o,h1.get? a=some o→h2.get? a=some o)→φ h2
def ZE (H:Hp) (h:Heap):Prop:=∀ a o,H a=some o→YA P w H h a o
end
section
variable {P:Program} {w:World} {H H':Hp} {h h':Heap} {a:Addr} {o:HO}
theorem YA.lt (x:YA P w H h a o):a < h.objs.size:=by
 cases o with
 | lst xs=>obtain ⟨_,_,_,_,e⟩:=x; exact Heap.lt_size e
 | tup xs=>obtain ⟨_,_,_,p⟩:=x; exact p.lt
 | dK kvs=>obtain ⟨_,_,_,_,o,_,_,e,_⟩:=x; exact Heap.lt_size e
 | dT kvs=>obtain ⟨_,_,_,_,o,_,_,e,_⟩:=x; exact Heap.lt_size e
 | set S n=>obtain ⟨o,_,_,_,e,_⟩:=x; exact Heap.lt_size e
 | ins C dx fs=>obtain ⟨_,_,_,e,_⟩:=x; exact Heap.lt_size e
 | own y=>obtain ⟨_,e⟩:=x; exact Heap.lt_size e
 | xd fs=>obtain ⟨_,⟨_,_,_,e,_⟩,_⟩:=x; exact Heap.lt_size e
 | rng lo hi=>obtain ⟨_,_,_,e⟩:=x; exact Heap.lt_size e
 | frz ob u=>obtain ⟨e,_⟩:=x; exact Heap.lt_size e
 | tbl ps=>exact Heap.lt_size (show h.get? a=some _ from x)
 | met f y=>exact Heap.lt_size (show h.get? a=some _ from x)
 | ext φ=>obtain ⟨_,⟨_,e⟩,_⟩:=x; exact Heap.lt_size e
theorem Paired.mapP {α β:Type} {F G:α→β→Prop}:∀ {l₁:List α} {l₂:List β},Paired F l₁ l₂→(∀ a b,F a b→G a b)→Paired G l₁ l₂
 | _,_,.nil,_=>.nil
 | _,_,.cons r t,f=>.cons (f _ _ r) (Paired.mapP t f)
theorem YA.stay (x:YA P w H h a o) (k:∀ b u,(b=a∨H b=some (.own a))→h.get? b=some u→h'.get? b=some u)
  (ho:∀ b,H b=some (.own a)→H' b=some (.own a)) (ht:∀ b xs,H b=some (.tup xs)→H' b=some (.tup xs)):YA P w H' h' a o:=by
 induction o with
 | lst xs=>obtain ⟨z,its,n,r,e⟩:=x; exact ⟨z,its,n,r,k _ _ (.inl rfl) e⟩
 | tup xs=>obtain ⟨z,its,r,ob,e,c⟩:=x; exact ⟨z,its,r,ob,k _ _ (.inl rfl) e,c⟩
 | dK kvs=>obtain ⟨z,y,vs,r,ob,es,ep,e,c⟩:=x; exact ⟨z,y,vs,r,ob,es,ep,k _ _ (.inl rfl) e,c⟩
 | dT kvs =>
  obtain ⟨z,y,xs,r,ob,es,ep,e,c⟩:=x;exact ⟨z,y,xs,Paired.mapP r fun p q z=>⟨z.1,ht _ _ z.2.1,z.2.2⟩,ob,es,ep,k _ _ (.inl rfl) e,c⟩
 | set S n=>obtain ⟨ob,es,ep,t,e,c⟩:=x; exact ⟨ob,es,ep,t,k _ _ (.inl rfl) e,c⟩
 | ins C dx fs =>
  obtain ⟨d,z,ne,e,mA,⟨od,es,ep,e2,c⟩,r⟩:=x;exact ⟨ho _ d,z,ne,k _ _ (.inl rfl) e,mA,⟨od,es,ep,k _ _ (.inr d) e2,c⟩,r⟩
 | own y=>obtain ⟨ob,e⟩:=x; exact ⟨ob,k _ _ (.inl rfl) e⟩
 | xd fs=>obtain ⟨mA,⟨od,es,ep,e,c⟩,r⟩:=x; exact ⟨mA,⟨od,es,ep,k _ _ (.inl rfl) e,c⟩,r⟩
 | rng lo hi=>obtain ⟨t,u,v,e⟩:=x; exact ⟨t,u,v,k _ _ (.inl rfl) e⟩
 | frz ob u ih=>obtain ⟨e,q⟩:=x; exact ⟨k _ _ (.inl rfl) e,ih q⟩
 | tbl ps =>
  have e:h.get? a=some { cls:=.none,data:=.fields ps }:=x;show h'.get? a=some { cls:=.none,data:=.fields ps };exact k a _ (.inl rfl) e
 | met f y =>
  have e:h.get? a=some (PySem.W.methodObj (.ref f) (.ref y)):=x;show h'.get? a=some (PySem.W.methodObj (.ref f) (.ref y));exact k a _ (.inl rfl) e
 | ext φ=>obtain ⟨p,⟨o,e⟩,st⟩:=x; exact ⟨st _ _ p fun o q=>k _ _ (.inl rfl) q,⟨o,k _ _ (.inl rfl) e⟩,st⟩
theorem ZE.lt (x:ZE P w H h) (e:H a=some o):a < h.objs.size:=(x a o e).lt
theorem ZE.fresh (x:ZE P w H h) (e:h.objs.size≤a):H a=none:=by
 cases q:H a with
 | none=>rfl
 | some u=>exact absurd (Nat.lt_of_lt_of_le (x.lt q) e) (Nat.lt_irrefl _)
theorem ZE.kept (x:ZE P w H h) (k:∀ b u,h.get? b=some u→h'.get? b=some u):ZE P w H h':=fun a o e =>
 (x a o e).stay (fun b u _ q=>k b u q) (fun _ q=>q) fun _ _ q=>q
theorem ZE.laid (x:ZE P w H h) (k:∀ b u,h.get? b=some u→h'.get? b=some u) (hp:h.objs.size≤a) (new:YA P w (upd H a o) h' a o):ZE P w (upd H a o) h':=fun b u e=>by
 have hn:=x.fresh hp;by_cases hb:b=a
 ·subst hb; rw [Jh] at e; cases e; exact new
 ·rw [Jz hb] at e;exact (x b u e).stay (fun c v _ q=>k c v q) (fun c q=>by rw [Jz (JA q hn)]; exact q) fun c xs q=>by rw [Jz (JA q hn)]; exact q
end
def Rd (H:Hp) (a:Addr) (u:HO):Prop:=H a=some u∨∃ o,H a=some (.frz o u)
theorem Rd.of {H:Hp} {a:Addr} {u:HO} (h:H a=some u):Rd H a u:=.inl h
theorem Rd.ok {P:Program} {w:World} {H:Hp} {h:Heap} {a:Addr} {u:HO} (r:Rd H a u) (x:ZE P w H h):YA P w H h a u:=by
 rcases r with r | ⟨o,r⟩
 ·exact x a u r
 ·obtain ⟨_,q⟩:=x a _ r;exact q
def Mut:Option HO→Prop
 | some (.lst _)=>True
 | some (.dK _)=>True
 | some (.dT _)=>True
 | some (.set _ _)=>True
 | some (.ins _ _ _)=>True
 | some (.ext _)=>True
 | _=>False
section
variable {P:Program} {w:World} {H:Hp} {h h':Heap} {x e:Addr} {o':HO}
theorem ZE.write (ok:ZE P w H h) (mu:Mut (H x)) (he:e=x∨H e=some (.own x)) (k:∀ b u,b≠e→h.get? b=some u→h'.get? b=some u) (heo:∃ u,h'.get? e=some u)
  (new:YA P w (upd H x o') h' x o'):ZE P w (upd H x o') h':=fun b u q=>by
 have nown:∀ c y,H c=some (.own y)→c≠x:=fun c y r z=>by subst z; rw [r] at mu; exact mu
 have ntup:∀ c xs,H c=some (.tup xs)→c≠x:=fun c xs r z=>by subst z; rw [r] at mu; exact mu
 by_cases hb:b=x
 ·subst hb; rw [Jh] at q; cases q; exact new
 ·rw [Jz hb] at q;by_cases hbe:b=e
  ·have q':H b=some (.own x):=by
    rcases he with z | z
    ·exact absurd (hbe.trans z) hb
    ·rw [hbe]; exact z
   rw [q] at q'; cases q';obtain ⟨v,hv⟩:=heo;exact ⟨v,by rw [hbe]; exact hv⟩
  ·refine (ok b u q).stay (fun c v hc r=>k c v ?_ r) (fun c r=>by rw [Jz (nown c b r)]; exact r) fun c xs r=>by rw [Jz (ntup c xs r)]; exact r
   rcases hc with rfl | hc
   ·exact hbe
   ·rintro rfl;rcases he with z | z
    ·exact nown c b hc z
    ·rw [hc] at z; cases z; exact hb rfl
end
structure Un (fs ex:List Addr) (H H':Hp) (h h':Heap):Prop where
 keep:∀ b o,h.get? b=some o→H b=none→b∉fs→b∉ex→h'.get? b=some o
 slot:∀ b o,h.get? b=some o→H b=none→b∈fs→b∉ex→∃ sl,h'.get? b=some { o with slots:=sl }
 free:∀ b o,h.get? b=some o→H b=none→b∉ex→H' b=none
 there:∀ b o,h.get? b=some o→b∉ex→∃ o',h'.get? b=some o'
 tups:∀ b xs,H b=some (.tup xs)→H' b=some (.tup xs)
 frzs:∀ b o u,H b=some (.frz o u)→H' b=some (.frz o u)
 tbls:∀ b ps,H b=some (.tbl ps)→∃ more,H' b=some (.tbl (ps ++ more))
section
variable {fs fs' ex ex':List Addr} {H H1 H2:Hp} {h h1 h2 h':Heap} {a x e:Addr} {o:HO}
theorem Un.any (u:Un fs ex H H1 h h1) {b:Addr} {ob:Obj} (q:h.get? b=some ob) (n:H b=none) (hx:b∉ex):∃ sl,h1.get? b=some { ob with slots:=sl }:=by
 by_cases hb:b∈fs
 ·exact u.slot b ob q n hb hx
 ·exact ⟨ob.slots,u.keep b ob q n hb hx⟩
theorem Un.trans (a:Un fs ex H H1 h h1) (b:Un fs ex H1 H2 h1 h2):Un fs ex H H2 h h2 where
 keep:=fun c ob q n hc hx=>b.keep c ob (a.keep c ob q n hc hx) (a.free c ob q n hx) hc hx
 slot:=fun c ob q n hc hx=>by
  obtain ⟨sl,e1⟩:=a.slot c ob q n hc hx;obtain ⟨sl',e2⟩:=b.slot c _ e1 (a.free c ob q n hx) hc hx;exact ⟨sl',e2⟩
 free:=fun c ob q n hx=>by
  obtain ⟨o',e1⟩:=a.there c ob q hx;exact b.free c o' e1 (a.free c ob q n hx) hx
 there:=fun c ob q hx=>by
  obtain ⟨o',e1⟩:=a.there c ob q hx;exact b.there c o' e1 hx
 tups:=fun c xs q=>b.tups c xs (a.tups c xs q)
 frzs:=fun c ob xs q=>b.frzs c ob xs (a.frzs c ob xs q)
 tbls:=fun c ps q=>by
  obtain ⟨m1,e1⟩:=a.tbls c ps q;obtain ⟨m2,e2⟩:=b.tbls c _ e1;exact ⟨m1 ++ m2,by rw [e2,Array.append_assoc]⟩
theorem Un.kept (k:∀ b u,h.get? b=some u→h'.get? b=some u):Un fs ex H H h h' :=
 ⟨fun b ob q _ _ _=>k b ob q,fun b ob q _ _ _=>⟨ob.slots,k b ob q⟩,fun _ _ _ n _=>n,fun b ob q _=>⟨ob,k b ob q⟩,fun _ _ q=>q,fun _ _ _ q=>q,fun _ ps q=>⟨#[],by rw [q]; simp⟩⟩
theorem Un.refl:Un fs ex H H h h:=Un.kept fun _ _ q=>q
theorem Un.laid (k:∀ b u,h.get? b=some u→h'.get? b=some u) (hp:h.objs.size≤a) (hn:H a=none):Un fs ex H (upd H a o) h h' where
 keep:=fun b u q _ _ _=>k b u q
 slot:=fun b u q _ _ _=>⟨u.slots,k b u q⟩
 free:=fun b u q n _=>by rw [Jz (Nat.ne_of_lt (Nat.lt_of_lt_of_le (Heap.lt_size q) hp))]; exact n
 there:=fun b u q _=>⟨u,k b u q⟩
 tups:=fun b xs q=>by rw [Jz (JA q hn)]; exact q
 frzs:=fun b u xs q=>by rw [Jz (JA q hn)]; exact q
 tbls:=fun b ps q=>⟨#[],by rw [Jz (JA q hn),q]; simp⟩
theorem Un.write (mu:Mut (H x)) (he:e=x∨H e=some (.own x)) (k:∀ b u,b≠e→h.get? b=some u→h'.get? b=some u) (heo:∃ u,h'.get? e=some u):Un fs ex H (upd H x o) h h':=by
 have hx:∀ b,H b=none→b≠x:=fun b n z=>by subst z; rw [n] at mu; exact mu
 have hb:∀ b,H b=none→b≠e:=fun b n z=>by
  subst z;rcases he with r | r
  ·exact hx b n r
  ·rw [n] at r; cases r
 have hm:∀ b u,H b=some u→¬ Mut (some u)→b≠x:=fun b u q nm z=>by subst z; rw [q] at mu; exact nm mu
 refine ⟨fun b u q n _ _=>k b u (hb b n) q,fun b u q n _ _=>⟨u.slots,k b u (hb b n) q⟩,fun b u q n _=>by rw [Jz (hx b n)]; exact n,fun b u q _=>?_,
  fun b xs q=>by rw [Jz (hm b _ q fun z=>z)]; exact q,fun b u xs q=>by rw [Jz (hm b _ q fun z=>z)]; exact q,fun b ps q=>⟨#[],by rw [Jz (hm b _ q fun z=>z),q]; simp⟩⟩
 by_cases hbe:b=e
 ·subst hbe; exact heo
 ·exact ⟨u,k b u hbe q⟩
theorem Un.mono (u:Un fs ex H H1 h h1) (hs:∀ b∈fs,b∈fs') (hx:∀ b∈ex,b∈ex'):Un fs' ex' H H1 h h1 :=
 ⟨fun b ob q n hb he=>u.keep b ob q n (fun z=>hb (hs b z)) fun z=>he (hx b z),fun _ _ q n _ he=>u.any q n fun z=>he (hx _ z),fun b ob q n he=>u.free b ob q n fun z=>he (hx b z),fun b ob q he=>u.there b ob q fun z=>he (hx b z),u.tups,u.frzs,u.tbls⟩
end
def trk (h:Heap) (H:Hp):List Addr:=(List.range h.objs.size).filter fun a=>(H a).isSome
def Jf1 (h:Heap) (H:Hp):Heap:=PySem.W.hideAll h (trk h H)
theorem JpB (h:Heap) (H:Hp):(Jf1 h H).objs.size=h.objs.size:=PySem.W.hideAll_size _ _
theorem Jq5 {h:Heap} {H:Hp} {b:Addr} {o:Obj} (e:h.get? b=some o) (n:H b=none):(Jf1 h H).get? b=some o :=
 PySem.W.hideAll_get _ e fun hm=>by
  have q:(H b).isSome=true:=(List.mem_filter.mp hm).2;rw [n] at q; simp at q
theorem Jsl {h:Heap} {H:Hp} {b:Addr} {o:Obj} (e:(Jf1 h H).get? b=some o):h.get? b=some o∧H b=none:=by
 have e':h.get? b=some o:=PySem.W.of_hideAll (trk h H) e;refine ⟨e',?_⟩;cases q:H b with
 | none=>rfl
 | some x =>
  have hm:b∈trk h H:=List.mem_filter.mpr ⟨List.mem_range.mpr (Heap.lt_size e'),by simp [q]⟩;have z:(Jf1 h H).get? b=none:=PySem.W.hideAll_none (trk h H) hm;rw [z] at e; cases e
def JsC (g h:Heap) (L:Addr):List (Addr×Obj):=(List.range h.objs.size).filterMap fun a=>if a=L∨(g.get? a).isSome=true then none else (h.get? a).map fun o=>(a,o)
def rest (g h:Heap) (L d:Addr):List (Addr×Obj):=(JsC g h L).filter fun p=>decide (p.1≠d)
end L2
namespace L2
open PySem PySem.Spec PyProof.Rows
structure Mod (K:PySem.W.Frag) (mg:Str→Option Value) (base:Heap):Prop where
 kin:K.In base
 glob:base.Ns mainGlobals mg
 blt:∃ mb,base.Ns builtinsNs mb∧∀ x:Str,x ≠ "__name__"→mb x=bootBuiltins x
 nolimit:base.NoLimit
structure Cx where
 prog:Program
 w:World
 K:PySem.W.Frag
 mg:Str→Option Value
 base:Heap
 A:Around
 N:List Str
 s₀:Shared
 H₀:Hp
 env:Env
 outer:List Env
 stack:List Env
 ex:List Addr
 fn:Str→Bool
 calm:Bool
 pn:List (Addr×Obj)
 xe:Value→Shared→Prop
def ZU (l:List Env):List Addr:=l.filterMap (·.frame)
abbrev Cx.fs (X:Cx):List Addr:=ZU X.outer
def Vis (sc:Scope) (x:Str):Prop:=sc.names.lookup x=some .local∨sc.names.lookup x=some .cell∨sc.names.lookup x=some .free
def Loc (sc:Scope) (x:Str):Prop:=sc.names.lookup x=some .local∨sc.names.lookup x=some .cell
def JuS (env:Env) (h:Heap) (m:Str→Option Value) (x:Str) (u:Value):Prop :=
 (env.kindOf x=some .local∧m x=some u)∨((env.kindOf x=some .cell∨env.kindOf x=some .free)∧∃ c,env.cells.lookup x=some c∧h.IsCell c (some u))
structure Cx.Ok (X:Cx):Prop where
 mod:Mod X.K X.mg X.base
 kind:X.env.scope.kind=.function
 glob:X.env.globals=mainGlobals
 blt:X.env.builtins=builtinsNs
 above:X.s₀.heap.objs.size≤X.env.locals
 inj:∀ x y c,X.env.cells.lookup x=some c→X.env.cells.lookup y=some c→x=y
 has:∀ x,(X.env.kindOf x=some .cell∨X.env.kindOf x=some .free)→∃ c,X.env.cells.lookup x=some c
 cab:∀ x c,X.fn x=true→X.env.cells.lookup x=some c→X.s₀.heap.objs.size≤c
 hd:X.calm=true→X.A.handled=none
 frames:X.A.frames=some X.stack
 stk:X.stack=X.outer∨(X.stack=X.env :: X.outer∧X.env.frame=some X.env.locals)
 exf:∀ b∈X.ex,b≠X.env.locals∧∀ x c,X.env.cells.lookup x=some c→c≠b
 bs:∀ b o,X.base.get? b=some o→X.s₀.heap.get? b=some o∧X.H₀ b=none
 bsz:X.base.objs.size≤X.s₀.heap.objs.size
 noex:∀ b o,X.base.get? b=some o→b∉X.ex
 exfs:∀ b∈X.ex,b∉X.fs
 funs:X.s₀.heap.FunFrames X.base X.outer
 frf:∀ b∈X.fs,X.H₀ b=none
structure Jn (X:Cx) (pins:List (Addr×Obj)) (σ:List (Option V)) (H:Hp) (s:Shared):Prop where
 ok:X.Ok
 os:s.os=X.s₀.os
 bare:AllBare s.gens
 base:Un X.fs X.ex X.H₀ H X.s₀.heap s.heap
 loc:∃ m,s.heap.Ns X.env.locals m∧∀ (i:Nat) (x:Str) (v:V),X.N[i]?=some x→σ[i]?=some (some v)→Vis X.env.scope x→∃ u,JR v u∧JuS X.env s.heap m x u
 cell:∀ x c,X.env.cells.lookup x=some c→∃ v,s.heap.IsCell c v
 free:H X.env.locals=none
 freeC:∀ x c,X.env.cells.lookup x=some c→H c=none
 pin:∀ p∈X.pn ++ pins,s.heap.get? p.1=some p.2∧H p.1=none∧p.1≠X.env.locals∧p.1∉X.fs∧∀ v,p.2.data≠.cell v
 hok:ZE X.prog X.w H s.heap
 len:σ.length=X.N.length
section
variable {X:Cx} {pins:List (Addr×Obj)} {σ:List (Option V)} {H H':Hp} {s:Shared} {h':Heap}
theorem Cx.Ok.nofr (ok:X.Ok) {b:Addr} {o:Obj} (e:X.base.get? b=some o):b∉X.fs:=fun hb=>by
 have:=(ok.funs.mem hb).1;rw [e] at this; cases this
theorem Jn.bs (I:Jn X pins σ H s):∀ b o,X.base.get? b=some o→s.heap.get? b=some o∧H b=none:=fun b o e =>
 ⟨I.base.keep b o (I.ok.bs b o e).1 (I.ok.bs b o e).2 (I.ok.nofr e) (I.ok.noex b o e),I.base.free b o (I.ok.bs b o e).1 (I.ok.bs b o e).2 (I.ok.noex b o e)⟩
theorem Jn.bk (I:Jn X pins σ H s):∀ b o,X.base.get? b=some o→s.heap.get? b=some o:=fun b o e=>(I.bs b o e).1
theorem Jn.mod (I:Jn X pins σ H s):Mod X.K X.mg X.base:=I.ok.mod
theorem Jn.kIn (I:Jn X pins σ H s):X.K.In s.heap:=I.ok.mod.kin.keeps I.bk
theorem Jn.nolimit (I:Jn X pins σ H s):s.heap.NoLimit:=I.ok.mod.nolimit.keeps I.bk
theorem Jn.fr (I:Jn X pins σ H s):∃ m,Fr X.base X.env.locals s.heap m :=
 let ⟨m,hn,_⟩:=I.loc
 ⟨m,hn,I.bk,Nat.le_trans I.ok.bsz I.ok.above⟩
theorem Jn.lt (I:Jn X pins σ H s):X.env.locals < s.heap.objs.size:=let ⟨_,hn,_⟩:=I.loc; hn.lt
theorem Jn.sz (I:Jn X pins σ H s):X.s₀.heap.objs.size≤s.heap.objs.size:=Nat.le_trans I.ok.above (Nat.le_of_lt I.lt)
theorem Jn.nofs (I:Jn X pins σ H s) {a:Addr} (h:s.heap.objs.size≤a):a∉X.fs:=fun hb=>by
 obtain ⟨_,o,ho,_⟩:=I.ok.funs.mem hb;exact absurd (Nat.lt_of_lt_of_le (Heap.lt_size ho) (Nat.le_trans I.sz h)) (Nat.lt_irrefl _)
theorem Jn.cne (I:Jn X pins σ H s):∀ x c,X.env.cells.lookup x=some c→c≠X.env.locals:=fun x c e z=>by
 obtain ⟨v,o,ho,hd⟩:=I.cell x c e;obtain ⟨m,⟨o',es,ep,ho',hd',_⟩,_⟩:=I.loc;rw [z,ho'] at ho; cases ho; rw [hd'] at hd; cases hd
theorem Jn.funs (I:Jn X pins σ H s):s.heap.FunFrames X.base X.outer:=by
 have all:∀ (l:List Env),(∀ b∈ZU l,b∈X.fs)→X.s₀.heap.FunFrames X.base l→s.heap.FunFrames X.base l:=by
  intro l
  induction l with
  | nil=>intro _ _; trivial
  | cons env r ih =>
   intro hs hl;obtain ⟨hk,⟨L,o,hf,hn,ho,hd⟩,hr⟩:=hl;have hL:L∈X.fs:=hs L (by unfold ZU; rw [List.filterMap_cons,hf]; exact List.mem_cons_self);obtain ⟨sl,e⟩:=I.base.slot L o ho (I.ok.frf L hL) hL fun z=>I.ok.exfs L z hL
   exact ⟨hk,⟨L,_,hf,hn,e,hd⟩,ih (fun b hb=>hs b (by unfold ZU; rw [List.filterMap_cons,hf]; exact List.mem_cons_of_mem _ hb)) hr⟩
 exact all X.outer (fun _ hb=>hb) I.ok.funs
theorem Jn.stack (I:Jn X pins σ H s):s.heap.FunFrames X.base X.stack:=by
 rcases I.ok.stk with e | ⟨e,hf⟩
 ·rw [e]; exact I.funs
 ·rw [e];obtain ⟨m,hn,_⟩:=I.loc;refine .cons (by rw [I.ok.kind]; decide) hf hn ?_ I.funs;exact Heap.get?_none_of_le (Nat.le_trans I.ok.bsz I.ok.above)
theorem Jn.stkSub (I:Jn X pins σ H s):∀ b∈ZU X.stack,b∈X.env.locals :: X.fs:=fun b hb=>by
 rcases I.ok.stk with e | ⟨e,hf⟩
 ·rw [e] at hb; exact List.mem_cons_of_mem _ hb
 ·rw [e] at hb;unfold ZU at hb;rw [List.filterMap_cons,hf] at hb;exact hb
theorem Jn.stkFree (I:Jn X pins σ H s):∀ b∈ZU X.stack,H b=none:=fun b hb=>by
 rcases List.mem_cons.mp (I.stkSub b hb) with e | hb
 ·rw [e]; exact I.free
 ·obtain ⟨_,o,ho,_⟩:=I.ok.funs.mem hb;exact I.base.free b o ho (I.ok.frf b hb) fun z=>I.ok.exfs b z hb
theorem Jn.step {g':Array GenState} {t':Nat} {d':Drawn} {ch:List Addr} (I:Jn X pins σ H s)
  (hch:∀ b∈ch,(b∈X.ex∨X.s₀.heap.objs.size≤b)∧b≠X.env.locals∧(∀ x c,X.env.cells.lookup x=some c→c≠b)∧∀ p∈X.pn ++ pins,p.1≠b)
  (keep:∀ b o,b≠X.env.locals→b∉X.fs→b∉ch→s.heap.get? b=some o→H b=none→h'.get? b=some o)
  (slot:∀ b o,b≠X.env.locals→b∈X.fs→b∉ch→s.heap.get? b=some o→H b=none→∃ sl,h'.get? b=some { o with slots:=sl }) (free:∀ b o,b∉ch→s.heap.get? b=some o→H b=none→H' b=none)
  (there:∀ b o,b∉ch→s.heap.get? b=some o→∃ o',h'.get? b=some o')
  (tups:∀ b xs,H b=some (.tup xs)→H' b=some (.tup xs)) (frzs:∀ b o u,H b=some (.frz o u)→H' b=some (.frz o u)) (tbls:∀ b ps,H b=some (.tbl ps)→∃ more,H' b=some (.tbl (ps ++ more)))
  (ns:∀ m,s.heap.Ns X.env.locals m→h'.Ns X.env.locals m) (hok:ZE X.prog X.w H' h') (hg:AllBare g') :
  Jn X pins σ H' { s with heap:=h',gens:=g',drawn:=d',toks:=t' }:=by
 have neL:∀ b o,X.s₀.heap.get? b=some o→b≠X.env.locals:=fun b o e=>Nat.ne_of_lt (Nat.lt_of_lt_of_le (Heap.lt_size e) I.ok.above)
 have neC:∀ b o,X.s₀.heap.get? b=some o→b∉X.ex→b∉ch:=fun b o e hx hb=>by
  rcases (hch b hb).1 with z | z
  ·exact hx z
  ·exact absurd (Nat.lt_of_lt_of_le (Heap.lt_size e) z) (Nat.lt_irrefl _)
 have cellK:∀ x c,X.env.cells.lookup x=some c→∀ v,s.heap.IsCell c v→h'.IsCell c v:=fun x c e v ⟨o,ho,hd⟩=>by
  have nch:c∉ch:=fun z=>(hch c z).2.2.1 x c e rfl
  by_cases hc:c∈X.fs
  ·obtain ⟨sl,q⟩:=slot c o (I.cne x c e) hc nch ho (I.freeC x c e);exact ⟨_,q,hd⟩
  ·exact ⟨o,keep c o (I.cne x c e) hc nch ho (I.freeC x c e),hd⟩
 refine ⟨I.ok,I.os,hg,⟨fun b o e n hb hx=>?_,fun b o e n hb hx=>?_,fun b o e n hx=>?_,fun b o e hx=>?_,fun b xs e=>tups b xs (I.base.tups b xs e),fun b o xs e=>frzs b o xs (I.base.frzs b o xs e),fun b ps e=>?_⟩,?_,fun x c e=>?_,?_,fun x c e=>?_,fun p hp=>?_,hok,I.len⟩
 ·exact keep b o (neL b o e) hb (neC b o e hx) (I.base.keep b o e n hb hx) (I.base.free b o e n hx)
 ·obtain ⟨sl,e1⟩:=I.base.slot b o e n hb hx;obtain ⟨sl',e2⟩:=slot b _ (neL b o e) hb (neC b o e hx) e1 (I.base.free b o e n hx);exact ⟨sl',e2⟩
 ·obtain ⟨o',e1⟩:=I.base.there b o e hx;exact free b o' (neC b o e hx) e1 (I.base.free b o e n hx)
 ·obtain ⟨o',e1⟩:=I.base.there b o e hx;exact there b o' (neC b o e hx) e1
 ·obtain ⟨m1,e1⟩:=I.base.tbls b ps e;obtain ⟨m2,e2⟩:=tbls b _ e1;exact ⟨m1 ++ m2,by rw [e2,Array.append_assoc]⟩
 ·obtain ⟨m,hn,hl⟩:=I.loc;refine ⟨m,ns m hn,fun i x v e1 e2 e3=>?_⟩;obtain ⟨u,r,l⟩:=hl i x v e1 e2 e3;refine ⟨u,r,?_⟩;rcases l with l | ⟨k,c,e,z⟩
  ·exact .inl l
  ·exact .inr ⟨k,c,e,cellK x c e _ z⟩
 ·obtain ⟨v,z⟩:=I.cell x c e;exact ⟨v,cellK x c e v z⟩
 ·obtain ⟨m,⟨o,_,_,ho,_⟩,_⟩:=I.loc;exact free _ o (fun z=>(hch _ z).2.1 rfl) ho I.free
 ·obtain ⟨v,o,ho,hd⟩:=I.cell x c e;exact free c o (fun z=>(hch c z).2.2.1 x c e rfl) ho (I.freeC x c e)
 ·obtain ⟨e,n,ne,nf,d⟩:=I.pin p hp;have nch:p.1∉ch:=fun z=>(hch p.1 z).2.2.2 p hp rfl
  exact ⟨keep p.1 p.2 ne nf nch e n,free p.1 p.2 nch e n,ne,nf,d⟩
theorem Jn.un {t':Nat} (I:Jn X pins σ H s) (u:Un X.fs [] H H' s.heap h') (hok:ZE X.prog X.w H' h'):Jn X pins σ H' { s with heap:=h',toks:=t' }:=by
 obtain ⟨m,⟨o,es,ep,ho,r⟩,_⟩:=id I.loc;obtain ⟨sl,hL⟩:=u.any ho I.free (by simp);exact I.step (g':=s.gens) (d':=s.drawn) (ch:=[]) (fun _ z=>nomatch z) (fun b o _ hb _ e n=>u.keep b o e n hb (by simp)) (fun b o _ hb _ e n=>u.slot b o e n hb (by simp)) (fun b o _ e n=>u.free b o e n (by simp)) (fun b o _ e=>u.there b o e (by simp)) u.tups u.frzs u.tbls (fun m' hm=>by
  obtain ⟨o',es',ep',ho',r'⟩:=hm;rw [ho] at ho'; cases ho';exact ⟨_,es',ep',hL,r'⟩) hok I.bare
theorem Jn.call {g':Array GenState} {t':Nat} {d':Drawn} {ch:List Addr} (I:Jn X pins σ H s) (u:Un (ZU X.stack) ch H H' s.heap h') (hok:ZE X.prog X.w H' h') (hg:AllBare g')
  (hch:∀ b∈ch,(b∈X.ex∨X.s₀.heap.objs.size≤b)∧b≠X.env.locals∧(∀ x c,X.env.cells.lookup x=some c→c≠b)∧∀ p∈X.pn ++ pins,p.1≠b) :
  Jn X pins σ H' { s with heap:=h',gens:=g',drawn:=d',toks:=t' }:=by
 obtain ⟨m,⟨o,es,ep,ho,r⟩,_⟩:=id I.loc;obtain ⟨sl,hL⟩:=u.any ho I.free fun z=>(hch _ z).2.1 rfl
 exact I.step (ch:=ch) hch (fun b o hL hb hc e n=>u.keep b o e n (fun z=>(List.mem_cons.mp (I.stkSub b z)).elim hL hb) hc) (fun b o _ _ hc e n=>u.any e n hc) (fun b o hc e n=>u.free b o e n hc) (fun b o hc e=>u.there b o e hc) u.tups u.frzs u.tbls (fun m' hm=>by
  obtain ⟨o',es',ep',ho',r'⟩:=hm;rw [ho] at ho'; cases ho';exact ⟨_,es',ep',hL,r'⟩) hok hg
theorem Jn.turned {t':Nat} {it:Addr} (I:Jn X pins σ H s) (k:∀ b o,b≠it→s.heap.get? b=some o→h'.get? b=some o) (hn:H it=none) (hL:it≠X.env.locals)
  (h1:it∈X.ex∨X.s₀.heap.objs.size≤it) (h2:∀ x c,X.env.cells.lookup x=some c→c≠it) (h3:∀ p∈X.pn ++ pins,p.1≠it):Jn X pins σ H { s with heap:=h',toks:=t' }:=by
 have nit:∀ b u,H b=some u→b≠it:=fun b u e z=>by rw [z,hn] at e; cases e
 refine I.step (g':=s.gens) (d':=s.drawn) (ch:=[it]) (fun b hb=>?_) (fun b o _ _ hc e _=>k b o (fun z=>hc (by simp [z])) e) (fun b o _ _ hc e _=>⟨o.slots,k b o (fun z=>hc (by simp [z])) e⟩) (fun _ _ _ _ n=>n)
  (fun b o hc e=>⟨o,k b o (fun z=>hc (by simp [z])) e⟩) (fun _ _ e=>e) (fun _ _ _ e=>e) (fun b ps e=>⟨#[],by rw [e]; simp⟩) (fun m hm=>?_) (fun b u e=>?_) I.bare
 ·have e:b=it:=by simpa using hb
  subst e;exact ⟨h1,hL,h2,h3⟩
 ·obtain ⟨o,es,ep,ho,r⟩:=hm;exact ⟨o,es,ep,k _ o (Ne.symm hL) ho,r⟩
 ·refine (I.hok b u e).stay (fun c v hc q=>k c v ?_ q) (fun _ q=>q) fun _ _ q=>q
  rcases hc with z | z
  ·rw [z]; exact nit b u e
  ·exact nit c _ z
theorem Jn.tok (I:Jn X pins σ H s) (t:Nat):Jn X pins σ H { s with toks:=t }:=I.un (h':=s.heap) (t':=t) Un.refl I.hok
theorem Jn.kept {t':Nat} (I:Jn X pins σ H s) (k:∀ b u,s.heap.get? b=some u→h'.get? b=some u):Jn X pins σ H { s with heap:=h',toks:=t' }:=I.un (Un.kept k) (I.hok.kept k)
theorem Jn.laid {a:Addr} {o:HO} {t':Nat} (I:Jn X pins σ H s) (k:∀ b u,s.heap.get? b=some u→h'.get? b=some u) (hp:s.heap.objs.size≤a) (new:YA X.prog X.w (upd H a o) h' a o) :
  Jn X pins σ (upd H a o) { s with heap:=h',toks:=t' }:=I.un (Un.laid k hp (I.hok.fresh hp)) (I.hok.laid k hp new)
theorem Jn.write {x e:Addr} {o:HO} {t':Nat} (I:Jn X pins σ H s) (mu:Mut (H x)) (he:e=x∨H e=some (.own x)) (k:∀ b u,b≠e→s.heap.get? b=some u→h'.get? b=some u) (heo:∃ u,h'.get? e=some u)
  (new:YA X.prog X.w (upd H x o) h' x o):Jn X pins σ (upd H x o) { s with heap:=h',toks:=t' }:=I.un (Un.write mu he k heo) (I.hok.write mu he k heo new)
theorem Jn.weak {σ':List (Option V)} (I:Jn X pins σ H s) (hl:σ'.length=σ.length) (w:∀ (i:Nat) v,σ'[i]?=some (some v)→σ[i]?=some (some v)):Jn X pins σ' H s :=
 ⟨I.ok,I.os,I.bare,I.base,let ⟨m,hn,hl'⟩:=I.loc; ⟨m,hn,fun i x v e1 e2 e3=>hl' i x v e1 (w i v e2) e3⟩,I.cell,I.free,I.freeC,I.pin,I.hok,hl.trans I.len⟩
theorem Jn.pins_of {pins':List (Addr×Obj)} (I:Jn X pins σ H s) (h:∀ p∈pins',s.heap.get? p.1=some p.2∧H p.1=none∧p.1≠X.env.locals∧p.1∉X.fs∧∀ v,p.2.data≠.cell v):Jn X pins' σ H s :=
 ⟨I.ok,I.os,I.bare,I.base,I.loc,I.cell,I.free,I.freeC,fun p hp=>(List.mem_append.mp hp).elim (fun z=>I.pin p (List.mem_append_left _ z)) (h p),I.hok,I.len⟩
theorem Jiw {N:List Str} (hN:N.Nodup) {i j:Nat} {x:Str} (a:N[i]?=some x) (b:N[j]?=some x):i=j:=by
 obtain ⟨h1,e1⟩:=List.getElem?_eq_some_iff.mp a;obtain ⟨h2,e2⟩:=List.getElem?_eq_some_iff.mp b;exact (List.getElem_inj hN).mp (e1.trans e2.symm)
theorem JkO {M:Model} {A:Around} {E:Value→Shared→Prop} {i:Nat} {x:Str} {v:V} {u:Value} {Q:Unit→Shared→Prop} (I:Jn X pins σ H s) (hN:X.N.Nodup) (hi:X.N[i]?=some x) (hx:Loc X.env.scope x) (r:JR v u)
  (h:∀ s',Jn X pins (σ.set i (some v)) H s'→(∃ a,Heap.SameBut a s.heap s'.heap∧(a=X.env.locals∨X.env.cells.lookup x=some a))→Q () s') (hf:X.fn x=true∨X.env.scope.names.lookup x=some .local:=by first | exact .inl rfl | exact .inr rfl | assumption):wpAny M A (storeName X.env x u) Q E s:=by
 obtain ⟨m,hn,hl⟩:=id I.loc;have hcls:(X.env.scope.kind == .class || (X.env.scope.kind == .module && X.env.locals != X.env.globals))=false:=by rw [I.ok.kind]; rfl
 have hiσ:i < σ.length:=by rw [I.len]; exact (List.getElem?_eq_some_iff.mp hi).1
 have cne:=I.cne;have tracked:∀ {a:Addr} {h':Heap},(∃ o,s.heap.get? a=some o∧H a=none)→Heap.SameBut a s.heap h'→ZE X.prog X.w H h':=fun {a h'} ha hs b ob e=>by
  obtain ⟨_,_,hfree⟩:=ha;refine (I.hok b ob e).stay (fun c w' hc q=>(hs.2 c ?_).trans q) (fun _ q=>q) fun _ _ q=>q
  rintro rfl;rcases hc with rfl | hc
  ·rw [hfree] at e; cases e
  ·rw [hfree] at hc; cases hc
 rcases hx with hk | hk
 ·refine wpAny_storeName_local hk hn (fun h' hn' hs=>?_) hcls;obtain ⟨oL,_,_,hoL,_⟩:=id hn;refine h _ ⟨I.ok,I.os,I.bare,⟨fun b o e n hb hx=>?_,fun b o e n hb hx=>?_,I.base.free,fun b o e hx=>?_,I.base.tups,I.base.frzs,I.base.tbls⟩,⟨_,hn',fun j y v' e1 e2 e3=>?_⟩,fun y c e=>?_,I.free,I.freeC,fun p hp=>?_,tracked ⟨oL,hoL,I.free⟩ hs,by simpa using I.len⟩ ⟨_,hs,.inl rfl⟩
  ·exact (hs.2 b (Nat.ne_of_lt (Nat.lt_of_lt_of_le (Heap.lt_size e) I.ok.above))).trans (I.base.keep b o e n hb hx)
  ·obtain ⟨sl,e1⟩:=I.base.slot b o e n hb hx;exact ⟨sl,(hs.2 b (Nat.ne_of_lt (Nat.lt_of_lt_of_le (Heap.lt_size e) I.ok.above))).trans e1⟩
  ·obtain ⟨o',e1⟩:=I.base.there b o e hx;exact ⟨o',(hs.2 b (Nat.ne_of_lt (Nat.lt_of_lt_of_le (Heap.lt_size e) I.ok.above))).trans e1⟩
  ·by_cases hj:j=i
   ·subst hj;rw [hi] at e1; cases e1;rw [List.getElem?_set_self hiσ] at e2;cases e2;exact ⟨u,r,.inl ⟨hk,by simp⟩⟩
   ·rw [List.getElem?_set_ne (Ne.symm hj)] at e2;obtain ⟨u',r',q⟩:=hl j y v' e1 e2 e3;refine ⟨u',r',?_⟩;rcases q with ⟨k,e⟩ | ⟨k,c,e,z⟩
    ·refine .inl ⟨k,?_⟩;have:y≠x:=fun e=>hj (Jiw hN e1 (e ▸ hi))
     simp [this,e]
    ·exact .inr ⟨k,c,e,z.sameBut hs (cne y c e)⟩
  ·obtain ⟨w',z⟩:=I.cell y c e;exact ⟨w',z.sameBut hs (cne y c e)⟩
  ·obtain ⟨e,n,ne,nf,d⟩:=I.pin p hp;exact ⟨(hs.2 p.1 ne).trans e,n,ne,nf,d⟩
 ·have hfn:X.fn x=true:=by
   rcases hf with z | z
   ·exact z
   ·rw [z] at hk; cases hk
  obtain ⟨c,hc⟩:=I.ok.has x (.inl hk);obtain ⟨w',z⟩:=I.cell x c hc;refine wpAny_storeName_cell I.ok.kind hk hc z (fun h' hc' hs=>?_);obtain ⟨oc,hoc,hocd⟩:=id z;refine h { s with heap:=h' } ⟨I.ok,I.os,I.bare,⟨fun b o e n hb hx=>?_,fun b o e n hb hx=>?_,I.base.free,fun b o e hx=>?_,I.base.tups,I.base.frzs,I.base.tbls⟩,⟨m,hn.sameBut hs (Ne.symm (cne x c hc)),fun j y v' e1 e2 e3=>?_⟩,fun y c' e=>?_,I.free,I.freeC,fun p hp=>?_,tracked ⟨oc,hoc,I.freeC x c hc⟩ hs,by simpa using I.len⟩ ⟨c,hs,.inr hc⟩
  ·exact (hs.2 b (Nat.ne_of_lt (Nat.lt_of_lt_of_le (Heap.lt_size e) (I.ok.cab x c hfn hc)))).trans (I.base.keep b o e n hb hx)
  ·obtain ⟨sl,e1⟩:=I.base.slot b o e n hb hx;exact ⟨sl,(hs.2 b (Nat.ne_of_lt (Nat.lt_of_lt_of_le (Heap.lt_size e) (I.ok.cab x c hfn hc)))).trans e1⟩
  ·obtain ⟨o',e1⟩:=I.base.there b o e hx;exact ⟨o',(hs.2 b (Nat.ne_of_lt (Nat.lt_of_lt_of_le (Heap.lt_size e) (I.ok.cab x c hfn hc)))).trans e1⟩
  ·by_cases hj:j=i
   ·subst hj;rw [hi] at e1; cases e1;rw [List.getElem?_set_self hiσ] at e2;cases e2;exact ⟨u,r,.inr ⟨.inl hk,c,hc,hc'⟩⟩
   ·rw [List.getElem?_set_ne (Ne.symm hj)] at e2;obtain ⟨u',r',q⟩:=hl j y v' e1 e2 e3;refine ⟨u',r',?_⟩;rcases q with q | ⟨k,c',e,z'⟩
    ·exact .inl q
    ·refine .inr ⟨k,c',e,z'.sameBut hs ?_⟩;rintro rfl;exact hj (Jiw hN e1 (I.ok.inj _ _ _ e hc ▸ hi))
  ·by_cases hcc:c'=c
   ·subst hcc; exact ⟨_,hc'⟩
   ·obtain ⟨w2,z2⟩:=I.cell y c' e;exact ⟨w2,z2.sameBut hs hcc⟩
  ·obtain ⟨e,n,ne,nf,d⟩:=I.pin p hp;refine ⟨(hs.2 p.1 ?_).trans e,n,ne,nf,d⟩;intro q;rw [q,hoc] at e;have q':oc=p.2:=Option.some.inj e;exact d w' (by rw [← q']; exact hocd)
theorem Jij {M:Model} {A:Around} {E:Value→Shared→Prop} {i:Nat} {x:Str} {v:V} {u:Value} {Q:Unit→Shared→Prop} (I:Jn X pins σ H s) (hN:X.N.Nodup) (hi:X.N[i]?=some x) (hx:Loc X.env.scope x) (r:JR v u)
  (h:∀ s',Jn X pins (σ.set i (some v)) H s'→Q () s') (hf:X.fn x=true∨X.env.scope.names.lookup x=some .local:=by first | exact .inl rfl | exact .inr rfl | assumption):wpAny M A (storeName X.env x u) Q E s :=
 JkO I hN hi hx r (fun s' I' _=>h s' I') hf
theorem Jn.call' {s':Shared} {ch:List Addr} (I:Jn X pins σ H s) (ho:s'.os=s.os) (u:Un (ZU X.stack) ch H H' s.heap s'.heap) (hok:ZE X.prog X.w H' s'.heap) (hg:AllBare s'.gens)
  (hch:∀ b∈ch,(b∈X.ex∨X.s₀.heap.objs.size≤b)∧b≠X.env.locals∧(∀ x c,X.env.cells.lookup x=some c→c≠b)∧∀ p∈X.pn ++ pins,p.1≠b):Jn X pins σ H' s':=by
 obtain ⟨h',g',d',t',o'⟩:=s';have e:o'=s.os:=ho;subst e;exact I.call (g':=g') (t':=t') (d':=d') u hok hg hch
end
abbrev XK:=Value→Option Addr→Hp→Prop
abbrev St:=List (Option V)
abbrev VK:=V→Hp→Prop
abbrev TE:=St→Hp→VK→Prop
abbrev TT:=St→Hp→(Bool→Hp→Prop)→Prop
abbrev TA:=St→Hp→(List V→Hp→Prop)→Prop
structure Jhu where
 nx:St→Hp→Prop
 rt:VK
 bk:St→Hp→Prop:=fun _ _=>False
 ct:St→Hp→Prop:=fun _ _=>False
abbrev TS:=Jhu→St→Hp→Prop
def EP (X:Cx) (pins:List (Addr×Obj)) (σ:St) (Q:VK) (u:Value) (s':Shared):Prop:=∃ v H',Jn X pins σ H' s'∧JR v u∧Q v H'
def TP (X:Cx) (pins:List (Addr×Obj)) (σ:St) (Q:Bool→Hp→Prop) (b:Bool) (s':Shared):Prop:=∃ H',Jn X pins σ H' s'∧Q b H'
def AP (X:Cx) (pins:List (Addr×Obj)) (σ:St) (Q:List V→Hp→Prop) (us:List Value) (s':Shared):Prop:=∃ vs H',Jn X pins σ H' s'∧JI vs us∧Q vs H'
def SP (X:Cx) (pins:List (Addr×Obj)) (D:Jhu) (f:Flow) (s':Shared):Prop :=
 match f with
 | .next=>∃ σ' H',Jn X pins σ' H' s'∧D.nx σ' H'
 | .brk=>∃ σ' H',Jn X pins σ' H' s'∧D.bk σ' H'
 | .cont=>∃ σ' H',Jn X pins σ' H' s'∧D.ct σ' H'
 | .ret u=>∃ v σ' H',Jn X pins σ' H' s'∧JR v u∧D.rt v H'
def PE (X:Cx) (e:Expr) (t:TE):Prop :=
 ∀ (pins:List (Addr×Obj)) (s:Shared) (σ:St) (H:Hp) (Q:VK),Jn X pins σ H s→t σ H Q→wpAny (model X.prog X.w) X.A (eval e X.env) (EP X pins σ Q) X.xe s
def PT (X:Cx) (e:Expr) (t:TT):Prop :=
 ∀ (pins:List (Addr×Obj)) (s:Shared) (σ:St) (H:Hp) (Q:Bool→Hp→Prop),Jn X pins σ H s→t σ H Q→wpAny (model X.prog X.w) X.A (isTrue e X.env (eval e X.env)) (TP X pins σ Q) X.xe s
def PW (X:Cx) (e:Expr) (t:TT):Prop :=
 ∀ (whole:Sem Value) (pins:List (Addr×Obj)) (s:Shared) (σ:St) (H:Hp) (Q:Bool→Hp→Prop),Jn X pins σ H s→t σ H Q→wpAny (model X.prog X.w) X.A (isTrue e X.env whole) (TP X pins σ Q) X.xe s
theorem PW.pt {X:Cx} {e:Expr} {t:TT} (h:PW X e t):PT X e t:=h _
def PA (X:Cx) (es:List Expr) (t:TA):Prop :=
 ∀ (pos:Pos) (pins:List (Addr×Obj)) (s:Shared) (σ:St) (H:Hp) (Q:List V→Hp→Prop),Jn X pins σ H s→t σ H Q→wpAny (model X.prog X.w) X.A (spliced (backTo pos (starEach es X.env))) (AP X pins σ Q) X.xe s
def PS (X:Cx) (st:Stmt) (t:TS):Prop :=
 ∀ (pins:List (Addr×Obj)) (s:Shared) (σ:St) (H:Hp) (D:Jhu),Jn X pins σ H s→t D σ H→wpAny (model X.prog X.w) X.A (exec st X.env) (SP X pins D) X.xe s
def PSs (X:Cx) (st:List Stmt) (t:TS):Prop :=
 ∀ (pins:List (Addr×Obj)) (s:Shared) (σ:St) (H:Hp) (D:Jhu),Jn X pins σ H s→t D σ H→wpAny (model X.prog X.w) X.A (execs st X.env) (SP X pins D) X.xe s
theorem JY {α:Type} {t:Sem α} {Q Q':α→Shared→Prop} {M:Model} {A:Around} {E:Value→Shared→Prop} {s:Shared} (h:wpAny M A t Q E s) (hQ:∀ a s,Q a s→Q' a s):wpAny M A t Q' E s:=wpAny_mono h hQ fun _ _ x=>x
end L2
namespace L2
open PySem PySem.Spec PyProof.Rows
section
variable {X:Cx}
def JnW (i:Nat):TE:=fun σ H Q=>∃ v,σ[i]?=some (some v)∧Q v H
def tC (v:V):TE:=fun _ H Q=>Q v H
theorem Jl5 {i:Nat} {x:Str} {pos:Pos} (hN:X.N[i]?=some x) (hv:Vis X.env.scope x) (hd:(x == ("__debug__" : Str))=false:=by decide) (hcd:(x == ("__classdict__" : Str))=false:=by decide):PE X (.Name x pos) (JnW i):=by
 intro pins s σ H Q I h;obtain ⟨v,e,h⟩:=h;obtain ⟨m,hn,hl⟩:=I.loc;obtain ⟨u,r,l⟩:=hl i x v hN e hv;have fin:EP X pins σ Q u s:=⟨v,H,I,r,h⟩
 rcases l with ⟨hk,hm⟩ | ⟨hk,c,hc,hcell⟩
 ·exact wpAny_Name (wpAny_loadName_local I.ok.kind hk hn hm fin) hd
 ·rcases hk with hk | hk
  ·exact wpAny_Name (wpAny_loadName_cell I.ok.kind hk hc hcell fin) hd
  ·exact wpAny_Name (wpAny_loadName_free I.ok.kind hk hc hcell fin hcd) hd
theorem Jd {i j pos}:PE X (.Constant (.int i) j pos) (tC (.int i)):=fun _ _ _ H _ I h=>wpAny_Constant_int ⟨.int i,H,I.tok _,⟨_,rfl⟩,h⟩
theorem JbW {b j pos}:PE X (.Constant (.bool b) j pos) (tC (.bl b)):=fun _ _ _ H _ I h=>Constant_bool ⟨.bl b,H,I,rfl,h⟩
theorem Jl6 {j pos}:PE X (.Constant .none j pos) (tC .non):=fun _ _ _ H _ I h=>Constant_none ⟨.non,H,I,rfl,h⟩
theorem Js {x j pos}:PE X (.Constant (.str x) j pos) (tC (.str x)):=fun _ _ _ H _ I h=>Calls.Constant_str ⟨.str x,H,I.tok _,⟨_,rfl⟩,h⟩
def Gl (X:Cx) (x:Str):Prop:=X.env.kindOf x=some .globalImplicit
theorem JdV {E:Value→Shared→Prop} {pins:List (Addr×Obj)} {s:Shared} {σ:St} {H:Hp} {x:Str} {u:Value} {pos:Pos} {Q:Value→Shared→Prop} (I:Jn X pins σ H s) (hg:Gl X x) (hm:X.mg x=some u) (h:Q u s)
  (hd:(x == ("__debug__" : Str))=false:=by decide):wpAny (model X.prog X.w) X.A (eval (.Name x pos) X.env) Q E s :=
 Calls.Name_function_global I.ok.kind hg (Calls.loadGlobal_global (by rw [I.ok.glob]; exact I.mod.glob.keeps I.bk) hm h) hd
theorem JgY {E:Value→Shared→Prop} {pins:List (Addr×Obj)} {s:Shared} {σ:St} {H:Hp} {x:Str} {u:Value} {pos:Pos} {Q:Value→Shared→Prop} (I:Jn X pins σ H s) (hg:Gl X x) (hm:X.mg x=none) (hv:bootBuiltins x=some u) (h:Q u s)
  (hn:x ≠ "__name__":=by decide) (hd:(x == ("__debug__" : Str))=false:=by decide):wpAny (model X.prog X.w) X.A (eval (.Name x pos) X.env) Q E s:=by
 obtain ⟨mb,h1,h2⟩:=I.mod.blt;exact Calls.Name_function_global I.ok.kind hg (Calls.loadGlobal_builtin (by rw [I.ok.glob]; exact I.mod.glob.keeps I.bk) hm (by rw [I.ok.blt]; exact h1.keeps I.bk) ((h2 x hn).trans hv) h) hd
theorem ZY {x:Str} {v:V} {u:Value} {pos:Pos} (hg:Gl X x) (hm:X.mg x=some u) (r:JR v u) (hd:(x == ("__debug__" : Str))=false:=by decide):PE X (.Name x pos) (tC v) :=
 fun _ _ _ H _ I h=>JdV I hg hm ⟨v,H,I,r,h⟩ hd
theorem Jsf {x:Str} {v:V} {u:Value} {pos:Pos} (hg:Gl X x) (hm:X.mg x=none) (hv:bootBuiltins x=some u) (r:JR v u) (hn:x ≠ "__name__":=by decide) (hd:(x == ("__debug__" : Str))=false:=by decide):PE X (.Name x pos) (tC v) :=
 fun _ _ _ H _ I h=>JgY I hg hm hv ⟨v,H,I,r,h⟩ hn hd
variable {a b:Expr} {ta tb:TE} {pos:Pos}
def PC (X:Cx) (op:CmpOp) (a b:Expr) (t:TE):Prop :=
 ∀ (pins:List (Addr×Obj)) (s:Shared) (σ:St) (H:Hp) (Q:VK),Jn X pins σ H s→t σ H Q →
  wpAny (model X.prog X.w) X.A (eval a X.env) (fun v s₁=>wpAny (model X.prog X.w) X.A (eval b X.env) (fun u s₂=>wpAny (model X.prog X.w) X.A (compareOp op v u) (EP X pins σ Q) X.xe s₂) X.xe s₁) X.xe s
theorem Z8 (b:Expr) {op:CmpOp} (h:op≠.In) (h2:op≠.NotIn):behindInMarks op b=false:=by
 have e1:(op == CmpOp.In)=false:=by cases op <;> first | rfl | exact absurd rfl h
 have e2:(op == CmpOp.NotIn)=false:=by cases op <;> first | rfl | exact absurd rfl h2
 cases b <;> simp [behindInMarks,e1,e2]
def Juz (ta:TE):TE:=fun σ H Q=>ta σ H fun x H1=>Q (.bl (decide (x=.non))) H1
def JtM (ta:TE):TE:=fun σ H Q=>ta σ H fun x H1=>Q (.bl (!decide (x=.non))) H1
theorem JR.none_iff {x:V} {v:Value} (r:JR x v):(v == Value.none)=decide (x=.non):=by
 cases x with
 | non=>cases r; rfl
 | bl _=>cases r; rfl
 | int _=>obtain ⟨t,rfl⟩:=r; rfl
 | str _=>obtain ⟨t,rfl⟩:=r; rfl
 | byt _=>obtain ⟨t,rfl⟩:=r; rfl
 | flt _=>obtain ⟨t,rfl⟩:=r; rfl
 | ref _=>cases r; rfl
 | ty _=>cases r; rfl
theorem JgL {j pos'} (ha:PE X a ta):PC X .Is a (.Constant .none j pos') (Juz ta):=by
 intro pins s σ H Q I h;refine JY (ha pins s σ H _ I h) fun v s1 ⟨x,H1,I1,r1,q1⟩=>?_
 exact Constant_none (is_none_gen ⟨.bl _,H1,I1,by rw [r1.none_iff]; rfl,q1⟩)
theorem Jsg {j pos'} (ha:PE X a ta):PC X .IsNot a (.Constant .none j pos') (JtM ta):=by
 intro pins s σ H Q I h;refine JY (ha pins s σ H _ I h) fun v s1 ⟨x,H1,I1,r1,q1⟩=>?_
 exact Constant_none (isnot_none_gen ⟨.bl _,H1,I1,by rw [r1.none_iff]; rfl,q1⟩)
def tB (t:TE):TT:=fun σ H Q=>t σ H fun x H1=>∃ c,x=.bl c∧Q c H1
theorem Jpd {op:CmpOp} {t:TE} (h:PC X op a b t) (h1:behindInMarks op b=false:=by first | exact Z8 _ (by decide) (by decide) | rfl):PE X (.Compare a [op] [b] pos) t:=fun pins s σ H Q I hw=>wpAny_Compare1 (h pins s σ H Q I hw) h1
theorem JfB {op:CmpOp} {t:TE} (h:PC X op a b t) (h1:behindInMarks op b=false:=by first | exact Z8 _ (by decide) (by decide) | rfl):PT X (.Compare a [op] [b] pos) (tB t):=by
 intro pins s σ H Q I hw;refine wpAny_isTrue_Compare1 (JY (h pins s σ H _ I hw) fun v s1 h1=>JY h1 fun u s2 h2=>JY h2 fun c s3 ⟨x,H1,I1,r1,q1⟩=>?_) h1;obtain ⟨d,rfl,q⟩:=q1;cases r1;exact wpAny_truthy_bool ⟨H1,I1,q⟩
theorem Z5 {e:Expr} {t:TE} (h:PE X e t) (he:∀ whole,isTrue e X.env whole=(do let v ← whole; standAt e.pos; holding [v] (truthy v)):=by intro _; rfl):PT X e (tB t):=by
 intro pins s σ H Q I hw;refine isTrue_plain (JY (h pins s σ H _ I hw) fun v s1 ⟨x,H1,I1,r1,q1⟩=>?_) (he _);obtain ⟨d,rfl,q⟩:=q1;cases r1;exact wpAny_truthy_bool ⟨H1,I1,q⟩
variable {tA tB':TT} {rest:List Expr}
def JuE (t u:TT):TT:=fun σ H Q=>t σ H fun c H1=>if c=true then u σ H1 Q else Q false H1
def tOr (t u:TT):TT:=fun σ H Q=>t σ H fun c H1=>if c=true then Q true H1 else u σ H1 Q
def Juw (t:TT):TT:=fun σ H Q=>t σ H fun c H1=>Q (!c) H1
theorem JbB (ha:PT X a tA):PW X (.BoolOp .And [a] pos) tA:=by
 intro wh pins s σ H Q I h;refine isTrue_and (JY (ha pins s σ H Q I h) fun c s1 e=>?_);cases c with
 | true=>exact isTrue_and_nil e
 | false=>exact e
theorem Jap (ha:PT X a tA):PW X (.BoolOp .Or [a] pos) tA:=by
 intro wh pins s σ H Q I h;refine isTrue_or (JY (ha pins s σ H Q I h) fun c s1 e=>?_);cases c with
 | false=>exact isTrue_or_nil e
 | true=>exact e
theorem JcU (ha:PT X a tA) (hb:PW X (.BoolOp .And (b :: rest) pos) tB'):PW X (.BoolOp .And (a :: b :: rest) pos) (JuE tA tB'):=by
 intro wh pins s σ H Q I h;refine isTrue_and (JY (ha pins s σ H _ I h) fun c s1 ⟨H1,I1,q1⟩=>?_);cases c with
 | true=>exact hb wh pins s1 σ H1 Q I1 q1
 | false=>exact ⟨H1,I1,q1⟩
theorem Jah (ha:PT X a tA) (hb:PW X (.BoolOp .Or (b :: rest) pos) tB'):PW X (.BoolOp .Or (a :: b :: rest) pos) (tOr tA tB'):=by
 intro wh pins s σ H Q I h;refine isTrue_or (JY (ha pins s σ H _ I h) fun c s1 ⟨H1,I1,q1⟩=>?_);cases c with
 | true=>exact ⟨H1,I1,q1⟩
 | false=>exact hb wh pins s1 σ H1 Q I1 q1
theorem Jbf (ha:PT X a tA):PT X (.UnaryOp .Not a pos) (Juw tA):=by
 intro pins s σ H Q I h;exact isTrue_not (ha pins s σ H (fun c H1=>Q (!c) H1) I h)
def JtS (ta tb:TE):TE:=fun σ H Q=>ta σ H fun x H1=>∃ c,x=.bl c∧if c=true then tb σ H1 Q else Q (.bl false) H1
def Juv (ta tb:TE):TE:=fun σ H Q=>ta σ H fun x H1=>∃ c,x=.bl c∧if c=true then Q (.bl true) H1 else tb σ H1 Q
def JtL (ta:TE):TE:=fun σ H Q=>ta σ H fun x H1=>∃ c,x=.bl c∧Q (.bl (!c)) H1
theorem JgK {op} {t:TE} (h:PE X a t):PE X (.BoolOp op [a] pos) t:=fun pins s σ H Q I hw=>BoolOp_one (h pins s σ H Q I hw)
theorem Ji6 (ha:PE X a ta) (hb:PE X (.BoolOp .And (b :: rest) pos) tb):PE X (.BoolOp .And (a :: b :: rest) pos) (JtS ta tb):=by
 intro pins s σ H Q I h;refine BoolOp_and (JY (ha pins s σ H _ I h) fun v s1 ⟨x,H1,I1,r1,q1⟩=>?_);obtain ⟨c,rfl,q1⟩:=q1;cases r1;refine wpAny_truthy_bool ?_;cases c with
 | true=>exact hb pins s1 σ H1 Q I1 q1
 | false=>exact ⟨.bl false,H1,I1,rfl,q1⟩
theorem Jt1 (ha:PE X a ta) (hb:PE X (.BoolOp .Or (b :: rest) pos) tb):PE X (.BoolOp .Or (a :: b :: rest) pos) (Juv ta tb):=by
 intro pins s σ H Q I h;refine BoolOp_or (JY (ha pins s σ H _ I h) fun v s1 ⟨x,H1,I1,r1,q1⟩=>?_);obtain ⟨c,rfl,q1⟩:=q1;cases r1;refine wpAny_truthy_bool ?_;cases c with
 | false=>exact hb pins s1 σ H1 Q I1 q1
 | true=>exact ⟨.bl true,H1,I1,rfl,q1⟩
theorem Jtc (ha:PE X a ta):PE X (.UnaryOp .Not a pos) (JtL ta):=by
 intro pins s σ H Q I h;refine UnaryOp_ (JY (ha pins s σ H _ I h) fun v s1 ⟨x,H1,I1,r1,q1⟩=>?_);obtain ⟨c,rfl,q1⟩:=q1;cases r1;exact not_of (wpAny_truthy_bool ⟨.bl (!c),H1,I1,rfl,q1⟩)
def tIf (t:TT) (ta tb:TE):TE:=fun σ H Q=>t σ H fun c H1=>if c=true then ta σ H1 Q else tb σ H1 Q
theorem Jiu {c:Expr} (hc:PT X c tA) (ha:PE X a ta) (hb:PE X b tb):PE X (.IfExp c a b pos) (tIf tA ta tb):=by
 intro pins s σ H Q I h;refine wpAny_IfExp (JY (hc pins s σ H _ I h) fun d s1 ⟨H1,I1,q1⟩=>?_);cases d with
 | true=>exact ha pins s1 σ H1 Q I1 q1
 | false=>exact hb pins s1 σ H1 Q I1 q1
end
end L2
namespace L2
open PySem PySem.Spec PyProof.Rows
def Jp (K:PySem.W.Frag) (H:Hp) (a:Addr) (xs:List V):Prop :=
 Rd H a (.lst xs) ∨
  ∃ (o:Obj) (its:Array Value) (n:Nat),K.lookup a=some o∧o.cls=.type "list"∧o.dict=none∧o.data=.seq its n∧its.size≤sizeLine∧JI xs its.toList
def JX (K:PySem.W.Frag) (H:Hp) (a:Addr) (xs:List V):Prop :=
 Rd H a (.tup xs) ∨
  ∃ (o:Obj) (its:Array Value) (n:Nat),K.lookup a=some o∧o.cls=.type "tuple"∧o.data=.seq its n∧its.size≤sizeLine∧JI xs its.toList
def JuR:Value→Option V
 | .none=>some .non
 | .bool b=>some (.bl b)
 | .int i _=>some (.int i)
 | .str x _=>some (.str x)
 | .bytes b _=>some (.byt b)
 | .float b _=>some (.flt b)
 | .ref a=>some (.ref a)
 | .type n=>some (.ty n)
 | _=>none
theorem JR.abs {x:V} {u:Value} (r:JR x u):JuR u=some x:=by
 cases x with
 | non=>cases r; rfl
 | bl _=>cases r; rfl
 | int _=>obtain ⟨t,rfl⟩:=r; rfl
 | str _=>obtain ⟨t,rfl⟩:=r; rfl
 | byt _=>obtain ⟨t,rfl⟩:=r; rfl
 | flt _=>obtain ⟨t,rfl⟩:=r; rfl
 | ref _=>cases r; rfl
 | ty _=>cases r; rfl
theorem JR.inj {x y:V} {u:Value} (r:JR x u) (q:JR y u):x=y:=Option.some.inj (r.abs.symm.trans q.abs)
theorem JI.inj:∀ {xs ys:List V} {us:List Value},JI xs us→JI ys us→xs=ys
 | _,_,_,.nil,.nil=>rfl
 | _,_,_,.cons r t,.cons r' t'=>by rw [r.inj r',JI.inj t t']
section
variable {X:Cx} {pins:List (Addr×Obj)} {σ:St} {H:Hp} {s:Shared} {a:Addr} {xs ys:List V}
theorem Jp.of {K:PySem.W.Frag} (h:H a=some (.lst xs)):Jp K H a xs:=.inl (.inl h)
theorem JX.of {K:PySem.W.Frag} (h:H a=some (.tup xs)):JX K H a xs:=.inl (.inl h)
theorem Jn.list (I:Jn X pins σ H s) (h:Jp X.K H a xs):∃ its:List Value,JI xs its∧PlainL s.heap a its.toArray∧xs.length≤sizeLine:=by
 rcases h with h | ⟨o,its,n,hk,hc,hd,hs,hz,r⟩
 ·obtain ⟨z,its,n,r,e⟩:=h.ok I.hok;exact ⟨its,r,⟨_,n,e,rfl,rfl,rfl⟩,z⟩
 ·refine ⟨its.toList,r,⟨o,n,I.kIn a o hk,hc,hd,by simpa using hs⟩,?_⟩;have e:=r.length;simp only [Array.length_toList] at e;omega
theorem Jn.tuple (I:Jn X pins σ H s) (h:JX X.K H a xs):∃ its:List Value,JI xs its∧IsTup s.heap a its.toArray∧xs.length≤sizeLine:=by
 rcases h with h | ⟨o,its,n,hk,hc,hs,hz,r⟩
 ·obtain ⟨z,its,r,p⟩:=h.ok I.hok;exact ⟨its,r,p,z⟩
 ·refine ⟨its.toList,r,⟨o,I.kIn a o hk,hc,n,by simpa using hs⟩,?_⟩;have e:=r.length;simp only [Array.length_toList] at e;omega
theorem Jn.list_inj (I:Jn X pins σ H s) (h:Jp X.K H a xs) (h':Jp X.K H a ys):xs=ys:=by
 obtain ⟨its,r,⟨o,n,e,_,_,d⟩,_⟩:=I.list h;obtain ⟨its',r',⟨o',n',e',_,_,d'⟩,_⟩:=I.list h';rw [e] at e'; cases e';rw [d] at d';injection d' with d1 _;have:its=its':=by simpa using congrArg Array.toList d1
 subst this;exact r.inj r'
theorem Jn.tuple_inj (I:Jn X pins σ H s) (h:JX X.K H a xs) (h':JX X.K H a ys):xs=ys:=by
 obtain ⟨its,r,⟨o,e,_,n,d⟩,_⟩:=I.tuple h;obtain ⟨its',r',⟨o',e',_,n',d'⟩,_⟩:=I.tuple h';rw [e] at e'; cases e';rw [d] at d';injection d' with d1 _;have:its=its':=by simpa using congrArg Array.toList d1
 subst this;exact r.inj r'
end
abbrev Cx.wish (X:Cx) (E:Value→Shared→Prop):Cx:={ X with xe:=E }
abbrev Cx.nox (X:Cx):Cx:=X.wish fun _ _=>False
theorem Cx.Ok.wish {X:Cx} (ok:X.Ok) (E:Value→Shared→Prop):(X.wish E).Ok :=
 ⟨ok.mod,ok.kind,ok.glob,ok.blt,ok.above,ok.inj,ok.has,ok.cab,ok.hd,ok.frames,ok.stk,ok.exf,ok.bs,ok.bsz,ok.noex,ok.exfs,ok.funs,ok.frf⟩
theorem Cx.Ok.unwish {X:Cx} {E:Value→Shared→Prop} (ok:(X.wish E).Ok):X.Ok :=
 ⟨ok.mod,ok.kind,ok.glob,ok.blt,ok.above,ok.inj,ok.has,ok.cab,ok.hd,ok.frames,ok.stk,ok.exf,ok.bs,ok.bsz,ok.noex,ok.exfs,ok.funs,ok.frf⟩
section
variable {X:Cx} {pins:List (Addr×Obj)} {σ:St} {H:Hp} {s:Shared} {E:Value→Shared→Prop}
theorem Jn.wish (I:Jn X pins σ H s) (E:Value→Shared→Prop):Jn (X.wish E) pins σ H s:=⟨I.ok.wish E,I.os,I.bare,I.base,I.loc,I.cell,I.free,I.freeC,I.pin,I.hok,I.len⟩
theorem Jn.unwish (I:Jn (X.wish E) pins σ H s):Jn X pins σ H s:=⟨I.ok.unwish,I.os,I.bare,I.base,I.loc,I.cell,I.free,I.freeC,I.pin,I.hok,I.len⟩
theorem SP.unwish {D:Jhu} {f:Flow} {s':Shared} (h:SP (X.wish E) pins D f s'):SP X pins D f s':=by
 cases f with
 | next=>obtain ⟨σ',H',I,q⟩:=h; exact ⟨σ',H',I.unwish,q⟩
 | brk=>obtain ⟨σ',H',I,q⟩:=h; exact ⟨σ',H',I.unwish,q⟩
 | cont=>obtain ⟨σ',H',I,q⟩:=h; exact ⟨σ',H',I.unwish,q⟩
 | ret u=>obtain ⟨v,σ',H',I,r,q⟩:=h; exact ⟨v,σ',H',I.unwish,r,q⟩
theorem PE.nox {e:Expr} {t:TE} (h:PE X.nox e t):PE X e t:=fun pins s σ H Q I hw =>
 wpAny_mono (h pins s σ H Q (I.wish _) hw) (fun _ _ ⟨v,H',I',r,q⟩=>⟨v,H',I'.unwish,r,q⟩) fun _ _ z=>False.elim z
theorem PT.nox {e:Expr} {t:TT} (h:PT X.nox e t):PT X e t:=fun pins s σ H Q I hw =>
 wpAny_mono (h pins s σ H Q (I.wish _) hw) (fun _ _ ⟨H',I',q⟩=>⟨H',I'.unwish,q⟩) fun _ _ z=>False.elim z
theorem PSs.nox {st:List Stmt} {t:TS} (h:PSs X.nox st t):PSs X st t:=fun pins s σ H D I hw =>
 wpAny_mono (h pins s σ H D (I.wish _) hw) (fun _ _ q=>q.unwish) fun _ _ z=>False.elim z
end
section
variable {X:Cx} {st:Stmt} {rest:List Stmt} {t u:TS} {e:Expr} {te:TE} {pos:Pos}
def JtN:TS:=fun D σ H=>D.nx σ H
def Jut (t u:TS):TS:=fun D σ H=>t { D with nx:=u D } σ H
theorem JD:PSs X [] JtN:=fun _ _ σ H _ I h=>wpAny_execs_nil ⟨σ,H,I,h⟩
theorem Je (h1:PS X st t) (h2:PSs X rest u):PSs X (st :: rest) (Jut t u):=by
 intro pins s σ H D I h;refine wpAny_execs_cons (JY (h1 pins s σ H { D with nx:=u D } I h) fun f s1 q=>?_);cases f with
 | next =>
  obtain ⟨σ',H',I',q⟩:=q;exact h2 pins s1 σ' H' D I' q
 | ret v=>exact q
 | brk=>exact q
 | cont=>exact q
theorem Ji (h1:PS X st t):PSs X [st] t:=by
 intro pins s σ H D I h;refine wpAny_execs_cons (JY (h1 pins s σ H D I h) fun f s1 q=>?_);cases f with
 | next=>exact wpAny_execs_nil q
 | ret v=>exact q
 | brk=>exact q
 | cont=>exact q
def JsP:TS:=fun D σ H=>D.bk σ H
theorem JqK:PS X (.Break pos) JsP:=fun _ _ σ H _ I h=>wpAny_Break ⟨σ,H,I,h⟩
theorem Jn.quiet {pins:List (Addr×Obj)} {σ:St} {H:Hp} {s:Shared} (I:Jn X pins σ H s):interactive X.env=false:=by simp [interactive,I.ok.kind]
def JtP (te:TE):TS:=fun D σ H=>te σ H fun _ H1=>D.nx σ H1
theorem JW (he:PE X e te) (hs:swapsWith e none pos.line X.env=pure false:=by rfl):PS X (.Expr e pos) (JtP te):=by
 intro pins s σ H D I h;exact wpAny_Expr_any (JY (he pins s σ H _ I h) fun v s1 ⟨x,H1,I1,r1,q1⟩=>⟨σ,H1,I1,q1⟩) I.quiet hs
def Juu (te:TE):TS:=fun D σ H=>te σ H D.rt
theorem Jw (he:PE X e te):PS X (.Return (some e) pos) (Juu te):=by
 intro pins s σ H D I h;exact wpAny_Return_some (JY (he pins s σ H _ I h) fun v s1 ⟨x,H1,I1,r1,q1⟩=>⟨x,σ,H1,I1,r1,q1⟩)
def JuA (c:TT) (t u:TS):TS:=fun D σ H=>c σ H fun b H1=>if b=true then t D σ H1 else u D σ H1
theorem JN {c:Expr} {a b:List Stmt} {tc:TT} (hc:PT X c tc) (ha:PSs X a t) (hb:PSs X b u):PS X (.If c a b pos) (JuA tc t u):=by
 intro pins s σ H D I h;refine wpAny_If (JY (hc pins s σ H _ I h) fun d s1 ⟨H1,I1,q1⟩=>?_);cases d with
 | true=>exact ha pins s1 σ H1 D I1 q1
 | false=>exact hb pins s1 σ H1 D I1 q1
def JsL:TS:=fun _ _ _=>False
theorem JfY:PS X st JsL:=fun _ _ _ _ _ _ h=>h.elim
end
abbrev TG:=V→St→Hp→(St→Hp→Prop)→Prop
abbrev TGs:=List V→St→Hp→(St→Hp→Prop)→Prop
def PG (X:Cx) (target:Expr) (t:TG):Prop :=
 ∀ (pins:List (Addr×Obj)) (s:Shared) (σ:St) (H:Hp) (v:V) (u:Value) (Q:St→Hp→Prop),Jn X pins σ H s→JR v u→t v σ H Q →
  wpAny (model X.prog X.w) X.A (assign target X.env u) (fun _ s'=>∃ σ' H',Jn X pins σ' H' s'∧Q σ' H') X.xe s
def PGs (X:Cx) (ts:List Expr) (t:TGs):Prop :=
 ∀ (pins:List (Addr×Obj)) (s:Shared) (σ:St) (H:Hp) (vs:List V) (us:List Value) (Q:St→Hp→Prop),Jn X pins σ H s→JI vs us→t vs σ H Q →
  wpAny (model X.prog X.w) X.A (assignInOrder ((assignEach ts X.env).map (·.2)) us) (fun _ s'=>∃ σ' H',Jn X pins σ' H' s'∧Q σ' H') X.xe s
abbrev Jrm:=V→V→V→Hp→(Hp→Prop)→Prop
def JtD (X:Cx) (t:Jrm):Prop :=
 ∀ (pins:List (Addr×Obj)) (s:Shared) (σ:St) (H:Hp) (o i v:V) (ov iv u:Value) (Q:Hp→Prop),Jn X pins σ H s→JR o ov→JR i iv→JR v u→t o i v H Q →
  wpAny (model X.prog X.w) X.A (setItem ov iv u) (fun _ s'=>∃ H',Jn X pins σ H' s'∧Q H') X.xe s
section
variable {X:Cx} {pos:Pos}
def JaD (i:Nat):TG:=fun v σ H Q=>Q (σ.set i (some v)) H
theorem JS {i:Nat} {x:Str} (hN:X.N.Nodup) (hi:X.N[i]?=some x) (hx:Loc X.env.scope x) (hf:X.fn x=true∨X.env.scope.names.lookup x=some .local:=by first | exact .inl rfl | exact .inr rfl | assumption):PG X (.Name x pos) (JaD i):=by
 intro pins s σ H v u Q I r h;exact wpAny_assign_Name (Jij I hN hi hx r (fun s' I'=>⟨_,H,I',h⟩) hf)
def Jtv:TGs:=fun vs σ H Q=>vs=[]∧Q σ H
def Jos (t:TG) (u:TGs):TGs:=fun vs σ H Q=>∃ v r,vs=v :: r∧t v σ H fun σ' H'=>u r σ' H' Q
theorem JdT:PGs X [] Jtv:=by
 intro pins s σ H vs us Q I r h;obtain ⟨e,h⟩:=h;subst e;cases r;exact assignInOrder_nil ⟨σ,H,I,h⟩
theorem Yy {e:Expr} {es:List Expr} {t:TG} {u:TGs} (h1:PG X e t) (h2:PGs X es u)
  (hs:(assignEach (e :: es) X.env).map (·.2)=assign e X.env :: (assignEach es X.env).map (·.2):=by rfl):PGs X (e :: es) (Jos t u):=by
 intro pins s σ H vs us Q I r h;obtain ⟨v,vr,e1,h⟩:=h;subst e1;cases r with
 | cons r rr =>
  rw [hs];refine assignInOrder_cons (JY (h1 pins s σ H _ _ _ I r h) fun _ s1 ⟨σ1,H1,I1,q1⟩=>?_);exact h2 pins s1 σ1 H1 _ _ Q I1 rr q1
def Jor (K:PySem.W.Frag) (n:Nat) (t:TGs):TG:=fun v σ H Q=>∃ a xs,v=.ref a∧JX K H a xs∧xs.length=n∧t xs σ H Q
theorem JfC {es:List Expr} {k:Nat} {t:TGs} {n:Nat} (hc:X.calm=true) (h:PGs X es t)
  (hn:(assignEach es X.env).length=n:=by rfl) (hst:(assignEach es X.env).findIdx? (·.1)=none:=by rfl):PG X (.Tuple es k pos) (Jor X.K n t):=by
 intro pins s σ H v u Q I r hw;obtain ⟨a,xs,e1,hq,hl,hw⟩:=hw;subst e1;cases r;obtain ⟨its,rv,ht,hz⟩:=I.tuple hq;refine assign_Tuple_tuple (I.ok.hd hc) ht (by simp [hn,← hl,rv.length]) hst fun h' hx=>?_
 have I1:Jn X pins σ H { s with heap:=h' }:=I.kept (t':=s.toks) fun b o e=>hx b o (Nat.ne_of_lt (Heap.lt_size e)) e
 exact h pins _ σ H xs _ Q I1 (by simpa using rv) hw
def JuP (to ti:TE) (t:Jrm):TG:=fun v σ H Q=>to σ H fun o H1=>ti σ H1 fun i H2=>t o i v H2 fun H3=>Q σ H3
theorem Jtb {o i:Expr} {to ti:TE} {t:Jrm} (ho:PE X o to) (hi:PE X i ti) (hs:JtD X t)
  (ha:∀ v,assign (.Subscript o i pos) X.env v=(do
   let ov ← holding [v] (eval o X.env);let iv ← holding [v,ov] (eval i X.env)
   standAt pos
   holding [v,ov,iv] (setItem ov iv v)
   release [v,ov,iv] []):=by intro _; rfl):PG X (.Subscript o i pos) (JuP to ti t):=by
 intro pins s σ H v u Q I r h;rw [ha];refine wpAny_bind (wpAny_holding (JY (ho pins s σ H _ I h) fun ov s1 ⟨x,H1,I1,r1,q1⟩=>?_));refine wpAny_bind (wpAny_holding (JY (hi pins s1 σ H1 _ I1 q1) fun iv s2 ⟨y,H2,I2,r2,q2⟩=>?_));refine wpAny_bind (wpAny_standAt (wpAny_bind (wpAny_holding (JY (hs pins s2 σ H2 x y v ov iv u _ I2 r1 r2 r q2) fun _ s3 ⟨H3,I3,q3⟩=>?_))));exact wpAny_release ⟨σ,H3,I3,q3⟩
def Jqb (te:TE) (g:TG):TS:=fun D σ H=>te σ H fun x H1=>g x σ H1 D.nx
theorem JgG {tg e:Expr} {te:TE} {g:TG} (he:PE X e te) (hg:PG X tg g) (hs:swapsWithSole [tg] e pos.line X.env=pure false:=by rfl) (hw:swappedStores [tg] e X.env=pure none:=by rfl)
  (h1:(assignEach [tg] X.env).map (·.2)=[assign tg X.env]:=by rfl):PS X (.Assign [tg] e pos) (Jqb te g):=by
 intro pins s σ H D I h;refine wpAny_Assign_stores (JY (he pins s σ H _ I h) fun v s1 ⟨x,H1,I1,r1,q1⟩=>?_) hs hw;rw [h1];exact JY (hg pins s1 σ H1 x v _ I1 r1 q1) fun _ s2 q=>q
theorem Jx {i:Nat} {x:Str} {e:Expr} {te:TE} {pos':Pos} (hN:X.N.Nodup) (hi:X.N[i]?=some x) (hx:Loc X.env.scope x) (he:PE X e te) (hs:swapsWith e (some (.Name x pos')) pos.line X.env=pure false:=by rfl) (hf:X.fn x=true∨X.env.scope.names.lookup x=some .local:=by first | exact .inl rfl | exact .inr rfl | assumption) :
  PS X (.Assign [.Name x pos'] e pos) (Jqb te (JaD i)):=by
 intro pins s σ H D I h;refine wpAny_Assign_Name (JY (he pins s σ H _ I h) fun v s1 ⟨y,H1,I1,r1,q1⟩=>?_) hs;exact Jij I1 hN hi hx r1 (fun s2 I2=>⟨_,H1,I2,q1⟩) hf
end
structure It where
 go:Nat→Hp→Prop
 yld:Nat→Hp→V→Hp→Prop
 stop:Nat→Hp→Prop
def JeN (X:Cx) (pins:List (Addr×Obj)) (H:Hp) (b:Addr):Prop :=
 H b=none∧b≠X.env.locals∧b∉X.fs∧(b∈X.ex∨X.s₀.heap.objs.size≤b)∧(∀ x c,X.env.cells.lookup x=some c→c≠b)∧∀ p∈X.pn ++ pins,p.1≠b
theorem Jn.fpOk {X:Cx} {pins:List (Addr×Obj)} {σ:St} {H H':Hp} {s:Shared} {b:Addr} (I:Jn X pins σ H s) (hb:s.heap.objs.size≤b) (hn:H' b=none):JeN X pins H' b:=by
 refine ⟨hn,Nat.ne_of_gt (Nat.lt_of_lt_of_le I.lt hb),I.nofs hb,.inr (Nat.le_trans I.sz hb),fun x c e z=>?_,fun p hp z=>?_⟩
 ·obtain ⟨v,q⟩:=I.cell x c e;exact absurd (Nat.lt_of_lt_of_le q.lt (by rw [z]; exact hb)) (Nat.lt_irrefl _)
 ·exact absurd (Nat.lt_of_lt_of_le (Heap.lt_size (I.pin p hp).1) (by rw [z]; exact hb)) (Nat.lt_irrefl _)
structure JkC (P:Program) (w:World) (K:PySem.W.Frag) (tg:Expr) (J:It) (fp:List Addr) (it:Addr) (tn:Nat→Heap→Prop):Prop where
 mem:it∈fp
 obj:∀ i h,tn i h→∀ b∈fp,∃ o,h.get? b=some o∧∀ v,o.data≠.cell v
 keep:∀ i h h',tn i h→(∀ b∈fp,∀ o,h.get? b=some o→h'.get? b=some o)→tn i h'
 item:∀ (X:Cx),X.prog=P→X.w=w→X.K=K→X.calm=true→∀ (i:Nat) (pins:List (Addr×Obj)) (s:Shared) (σ:St) (H:Hp) (E:Value→Shared→Prop),Jn X pins σ H s→(∀ b∈fp,JeN X pins H b)→tn i s.heap→J.go i H →
  wpAny (model P w) X.A (pyNext (.ref it)) (fun r s1=>∃ u,r=some u ∧
   wpAny (model P w) X.A (letOwnedTupleGo tg (.ref it) u) (fun _ s2=>∃ x H',Jn X pins σ H' s2∧JR x u∧J.yld i H x H'∧tn (i + 1) s2.heap∧∀ b∈fp,H' b=none) E s1) E s
 done:∀ (X:Cx),X.prog=P→X.w=w→X.K=K→X.calm=true→∀ (i:Nat) (pins:List (Addr×Obj)) (s:Shared) (σ:St) (H:Hp) (E:Value→Shared→Prop),Jn X pins σ H s→(∀ b∈fp,JeN X pins H b)→tn i s.heap→J.stop i H →
  wpAny (model P w) X.A (pyNext (.ref it)) (fun r s1=>r=none∧Jn X pins σ H s1) E s
 self:∀ (A:Around) (i:Nat) (s:Shared) (Q:Value→Shared→Prop) (E:Value→Shared→Prop),tn i s.heap→Q (.ref it) s→wpAny (model P w) A (pyIter (.ref it)) Q E s
abbrev TI:=St→Hp→(It→Hp→Prop)→Prop
def PIE (X:Cx) (pins:List (Addr×Obj)) (σ:St) (tg:Expr) (R:It→Hp→Prop) (itv:Value) (s2:Shared):Prop :=
 ∃ (it:Addr) (fp:List Addr) (tn:Nat→Heap→Prop) (J:It) (H':Hp),itv=.ref it∧Jn X pins σ H' s2∧JkC X.prog X.w X.K tg J fp it tn∧tn 0 s2.heap∧(∀ b∈fp,JeN X pins H' b)∧R J H'
def PI (X:Cx) (tg iter:Expr) (wi:TI):Prop :=
 ∀ (pins:List (Addr×Obj)) (s:Shared) (σ:St) (H:Hp) (R:It→Hp→Prop),Jn X pins σ H s→wi σ H R →
  wpAny (model X.prog X.w) X.A (eval iter X.env) (fun v s1=>wpAny (model X.prog X.w) X.A (pyIter v) (PIE X pins σ tg R) X.xe s1) X.xe s
theorem Jlz {M:Model} {A:Around} {E:Value→Shared→Prop} {s:Shared} {tg:Expr} {it:Addr} {u:Value} {o:Obj} {n:String} {vs:Array Value} {Q:Unit→Shared→Prop} (ho:s.heap.get? it=some o) (hc:o.cls=.type n) (hd:o.data=.fields vs)
    (hn:["enumerate", "zip", "dict_itemiterator", "dict_reverseitemiterator", "odict_iterator", "itertools.zip_longest", "itertools.pairwise"].contains n=false) (hQ:Q () s):wpAny M A (letOwnedTupleGo tg (.ref it) u) Q E s:=by
  unfold letOwnedTupleGo;cases tg <;> first
    | exact wpAny_pure hQ
    | (cases u <;> first
        | exact wpAny_pure hQ
        | (refine wpAny_bind (wpAny_load ho ?_)
           rw [hc,hd];show wpAny M A (if (["enumerate", "zip", "dict_itemiterator", "dict_reverseitemiterator", "odict_iterator", "itertools.zip_longest", "itertools.pairwise"].contains n && vs[0]? == some (rawInt _))=true then _ else _) Q E s;rw [if_neg (by intro h; rw [hn,Bool.false_and] at h; cases h)];exact wpAny_pure hQ))
def Itl (K:PySem.W.Frag) (a:Addr):It :=
 ⟨fun i H=>∃ xs x,Jp K H a xs∧xs[i]?=some x,fun i H x H'=>H'=H∧∀ xs,Jp K H a xs→xs[i]?=some x,fun i H=>∃ xs,Jp K H a xs∧xs.length≤i⟩
def Itt (K:PySem.W.Frag) (a:Addr):It :=
 ⟨fun i H=>∃ xs x,JX K H a xs∧xs[i]?=some x,fun i H x H'=>H'=H∧∀ xs,JX K H a xs→xs[i]?=some x,fun i H=>∃ xs,JX K H a xs∧xs.length≤i⟩
def Itr (lo:Int) (n:Nat):It:=⟨fun i _=>i < n,fun i H x H'=>H'=H∧x=.int (lo + i),fun i _=>n≤i⟩
theorem JoL {P:Program} {w:World} {K:PySem.W.Frag} {tg:Expr} (a it:Addr):JkC P w K tg (Itl K a) [it] it (fun i h=>h.IsListIter it a i) where
 mem:=by simp
 obj:=fun i h st b hb=>by
  have e:b=it:=by simpa using hb
  subst e;obtain ⟨o,e,c,d⟩:=st;exact ⟨o,e,fun v z=>by rw [d] at z; cases z⟩
 keep:=fun i h h' st k=>st.at fun o e=>k it (by simp) o e
 item:=by
  intro X hP hw hK hc i pins s σ H E I hf st hg;subst hP hw hK;obtain ⟨xs,x,hq,hx⟩:=hg;obtain ⟨its,rv,p,hz⟩:=I.list hq;obtain ⟨u,hu,ru⟩:=rv.get hx;obtain ⟨f0,f1,f2,f3,f4,f5⟩:=hf it (by simp);refine wpAny_pyNext_list_item st p.isList (x:=u) (by simpa using hu) fun h' st' sb=>?_
  have I1:Jn X pins σ H { s with heap:=h' }:=I.turned (t':=s.toks) (fun b o hb e=>(sb.2 b hb).trans e) f0 f1 f3 f4 f5;obtain ⟨o,e,c,d⟩:=id st';exact ⟨u,rfl,Jlz (s:={ s with heap:=h' }) e c d (by decide) ⟨x,H,I1,ru,⟨rfl,fun ys hy=>by rw [I.list_inj hy hq]; exact hx⟩,st',fun b hb=>(hf b hb).1⟩⟩
 done:=by
  intro X hP hw hK hc i pins s σ H E I hf st hg;subst hP hw hK;obtain ⟨xs,hq,hx⟩:=hg;obtain ⟨its,rv,p,hz⟩:=I.list hq;obtain ⟨f0,f1,f2,f3,f4,f5⟩:=hf it (by simp);have hl:=rv.length;exact wpAny_pyNext_list_end (I.ok.hd hc) st p.isList (by simp; omega) fun h' eb=>⟨rfl,I.turned (t':=s.toks) (fun b o hb e=>eb b o hb e) f0 f1 f3 f4 f5⟩
 self:=fun _ _ _ _ _ st h=>wpAny_pyIter_listiter st h
theorem JnS {P:Program} {w:World} {K:PySem.W.Frag} {tg:Expr} (a it:Addr):JkC P w K tg (Itt K a) [it] it (fun i h=>h.IsTupleIter it a i) where
 mem:=by simp
 obj:=fun i h st b hb=>by
  have e:b=it:=by simpa using hb
  subst e;obtain ⟨o,e,c,d⟩:=st;exact ⟨o,e,fun v z=>by rw [d] at z; cases z⟩
 keep:=fun i h h' st k=>st.at fun o e=>k it (by simp) o e
 item:=by
  intro X hP hw hK hc i pins s σ H E I hf st hg;subst hP hw hK;obtain ⟨xs,x,hq,hx⟩:=hg;obtain ⟨its,rv,p,hz⟩:=I.tuple hq;obtain ⟨u,hu,ru⟩:=rv.get hx;obtain ⟨f0,f1,f2,f3,f4,f5⟩:=hf it (by simp);refine wpAny_pyNext_tuple_item st (show s.heap.IsTuple a its.toArray from p) (x:=u) (by simpa using hu) fun h' st' sb=>?_
  have I1:Jn X pins σ H { s with heap:=h' }:=I.turned (t':=s.toks) (fun b o hb e=>(sb.2 b hb).trans e) f0 f1 f3 f4 f5;obtain ⟨o,e,c,d⟩:=id st';exact ⟨u,rfl,Jlz (s:={ s with heap:=h' }) e c d (by decide) ⟨x,H,I1,ru,⟨rfl,fun ys hy=>by rw [I.tuple_inj hy hq]; exact hx⟩,st',fun b hb=>(hf b hb).1⟩⟩
 done:=by
  intro X hP hw hK hc i pins s σ H E I hf st hg;subst hP hw hK;obtain ⟨xs,hq,hx⟩:=hg;obtain ⟨its,rv,p,hz⟩:=I.tuple hq;obtain ⟨f0,f1,f2,f3,f4,f5⟩:=hf it (by simp);have hl:=rv.length;exact wpAny_pyNext_tuple_end (I.ok.hd hc) st (show s.heap.IsTuple a its.toArray from p) (by simp; omega) fun h' eb=>⟨rfl,I.turned (t':=s.toks) (fun b o hb e=>eb b o hb e) f0 f1 f3 f4 f5⟩
 self:=fun _ _ _ _ _ st h=>wpAny_pyIter_tupleiter st h
theorem JnT {P:Program} {w:World} {K:PySem.W.Frag} {tg:Expr} (it:Addr) (lo:Int) (n:Nat):JkC P w K tg (Itr lo n) [it] it (fun i h=>IsRangeIter h it (lo + (i:Nat) * 1) ((n:Int) - (i:Nat)) 1) where
 mem:=by simp
 obj:=fun i h st b hb=>by
  have e:b=it:=by simpa using hb
  subst e;exact ⟨_,st,fun v z=>by
   have z':Data.fields _=Data.cell v:=z;cases z'⟩
 keep:=fun i h h' st k=>k it (by simp) _ st
 item:=by
  intro X hP hw hK hc i pins s σ H E I hf st hg;subst hP hw hK;obtain ⟨f0,f1,f2,f3,f4,f5⟩:=hf it (by simp);have W:=Walks.range (prog:=X.prog) (w:=X.w) (I.ok.hd hc) it lo 1 n;refine W.item i s _ _ hg st fun v h' tk hv st' kk=>?_
  obtain ⟨t,rfl⟩:=hv;have I1:Jn X pins σ H { s with heap:=h',toks:=tk }:=I.turned (fun b o hb e=>kk b o (by simpa using hb) e) f0 f1 f3 f4 f5;refine ⟨_,rfl,Jlz (s:={ s with heap:=h',toks:=tk }) (n := "range_iterator") st' rfl rfl (by decide) ⟨.int (lo + i),H,I1,⟨t,?_⟩,⟨rfl,rfl⟩,st',fun b hb=>(hf b hb).1⟩⟩;rw [Int.mul_one]
 done:=by
  intro X hP hw hK hc i pins s σ H E I hf st hg;subst hP hw hK;obtain ⟨f0,f1,f2,f3,f4,f5⟩:=hf it (by simp);exact wpAny_pyNext_range_end (I.ok.hd hc) st (by have:n≤i:=hg; omega) fun h' eb=>⟨rfl,I.turned (t':=s.toks) (fun b o hb e=>eb b o hb e) f0 f1 f3 f4 f5⟩
 self:=fun _ _ _ _ _ st h=>wpAny_pyIter_rangeiter st h
end L2
namespace L2
open PySem PySem.Spec PyProof.Rows
section
variable {X:Cx} {tg:Expr}
def Jt5 (K:PySem.W.Frag) (tl:TE):TI:=fun σ H R=>tl σ H fun x H1=>∃ a,x=.ref a∧(∃ xs,Jp K H1 a xs)∧R (Itl K a) H1
def JuN (K:PySem.W.Frag) (tl:TE):TI:=fun σ H R=>tl σ H fun x H1=>∃ a,x=.ref a∧(∃ xs,JX K H1 a xs)∧R (Itt K a) H1
theorem Zn {l:Expr} {tl:TE} (hl:PE X l tl):PI X tg l (Jt5 X.K tl):=by
 intro pins s σ H R I h;refine JY (hl pins s σ H _ I h) fun v s1 ⟨x,H1,I1,r1,q1⟩=>?_
 obtain ⟨a,e,⟨xs,hq⟩,q⟩:=q1;subst e;cases r1;obtain ⟨its,rv,p,hz⟩:=I1.list hq;refine wpAny_pyIter_list p.isList ?_;refine ⟨s1.heap.objs.size,[s1.heap.objs.size],_,_,H1,rfl,I1.kept (t':=s1.toks) fun b o e=>Heap.get?_push_of_some _ e,JoL a _,⟨_,Heap.get?_push_size _ rfl,rfl,rfl⟩,fun b hb=>?_,q⟩;have e:b=s1.heap.objs.size:=by simpa using hb
 subst e;exact I1.fpOk (Nat.le_refl _) (I1.hok.fresh (Nat.le_refl _))
theorem JgJ {l:Expr} {tl:TE} (hl:PE X l tl):PI X tg l (JuN X.K tl):=by
 intro pins s σ H R I h;refine JY (hl pins s σ H _ I h) fun v s1 ⟨x,H1,I1,r1,q1⟩=>?_
 obtain ⟨a,e,⟨xs,hq⟩,q⟩:=q1;subst e;cases r1;obtain ⟨its,rv,p,hz⟩:=I1.tuple hq;refine wpAny_pyIter_tuple (show s1.heap.IsTuple a its.toArray from p) ?_;refine ⟨s1.heap.objs.size,[s1.heap.objs.size],_,_,H1,rfl,I1.kept (t':=s1.toks) fun b o e=>Heap.get?_push_of_some _ e,JnS a _,⟨_,Heap.get?_push_size _ rfl,rfl,rfl⟩,fun b hb=>?_,q⟩;have e:b=s1.heap.objs.size:=by simpa using hb
 subst e;exact I1.fpOk (Nat.le_refl _) (I1.hok.fresh (Nat.le_refl _))
theorem Jl4 {pins:List (Addr×Obj)} {σ:St} {H:Hp} {s:Shared} {R:It→Hp→Prop} {E:Value→Shared→Prop} {lo hi:Int} {t u v:Tok} {tk:Nat} (I:Jn X pins σ H s) (h1:-(2 ^ 62)≤lo) (h2:lo < 2 ^ 62) (h3:-(2 ^ 62)≤hi) (h4:hi < 2 ^ 62)
  (q:R (Itr lo (hi - lo).toNat) H):wpAny (model X.prog X.w) X.A (pyIter (.ref s.heap.objs.size)) (PIE X pins σ tg R) E { s with heap:=s.heap.push { cls:=.type "range",data:=.fields #[.int lo t,.int hi u,.int 1 v] },toks:=tk }:=by
 refine wpAny_pyIter_range (IsRange.new ..) (small_one h1 h2 h3 h4) ?_;have I1:Jn X pins σ H { s with heap:=s.heap.push { cls:=.type "range",data:=.fields #[.int lo t,.int hi u,.int 1 v] },toks:=tk }:=I.kept fun b o e=>Heap.get?_push_of_some _ e
 refine ⟨(s.heap.push { cls:=.type "range",data:=.fields #[.int lo t,.int hi u,.int 1 v] }).objs.size,[(s.heap.push { cls:=.type "range",data:=.fields #[.int lo t,.int hi u,.int 1 v] }).objs.size],_,_,H,rfl,
  I1.kept (t':=tk) fun b o e=>Heap.get?_push_of_some _ e,JnT _ lo (hi - lo).toNat,?_,fun b hb=>?_,q⟩
 ·have e1:lo + ((0:Nat):Int) * 1=lo:=by simp
  have e2:(((hi - lo).toNat:Nat):Int) - ((0:Nat):Int)=Builtin.Range.rangeSize lo hi 1:=by rw [rangeSize_one]; split <;> omega
  show IsRangeIter _ _ (lo + ((0:Nat):Int) * 1) ((((hi - lo).toNat:Nat):Int) - ((0:Nat):Int)) 1;rw [e1,e2];exact Heap.get?_push_size _ rfl
 ·have e:b=(s.heap.push { cls:=.type "range",data:=.fields #[.int lo t,.int hi u,.int 1 v] }).objs.size:=by simpa using hb
  subst e;exact I1.fpOk (Nat.le_refl _) (I1.hok.fresh (Nat.le_refl _))
def Jt4 (ta:TA):TI:=fun σ H R=>ta σ H fun vs H1=>∃ j:Int,vs=[.int j]∧-(2 ^ 62)≤j∧j < 2 ^ 62∧R (Itr 0 j.toNat) H1
def Jt3 (ta:TA):TI:=fun σ H R=>ta σ H fun vs H1=>∃ i j:Int,vs=[.int i,.int j]∧(-(2 ^ 62)≤i∧i < 2 ^ 62∧-(2 ^ 62)≤j∧j < 2 ^ 62)∧R (Itr i (j - i).toNat) H1
theorem Yx {a:Expr} {ta:TA} {p pos:Pos} (hg:Gl X "range") (hm:X.mg "range" = none) (ha:PA X [a] ta) (hs:starEach [a] X.env=[(false,eval a X.env)]:=by rfl):PI X tg (.Call (.Name "range" p) [a] [] pos) (Jt4 ta):=by
 intro pins s σ H R I h;refine Call_ (JgY I hg hm boot_range (PyProof.Rows.callWith_type1 (JY (ha pos pins s σ H _ I h) fun us s1 ⟨vs,H1,I1,r1,q1⟩=>?_) hs rfl));obtain ⟨j,e,q1,q2,q⟩:=q1;subst e;cases r1 with
 | cons r rr =>
  cases rr;obtain ⟨t,rfl⟩:=r;exact call_range_1 (Jl4 I1 (by omega) (by omega) q1 q2 (by simpa using q))
theorem Jpc {a b:Expr} {ta:TA} {p pos:Pos} (hg:Gl X "range") (hm:X.mg "range" = none) (ha:PA X [a,b] ta) (hs:starEach [a,b] X.env=[(false,eval a X.env),(false,eval b X.env)]:=by rfl) (hs2:starEach [b] X.env=[(false,eval b X.env)]:=by rfl) :
  PI X tg (.Call (.Name "range" p) [a,b] [] pos) (Jt3 ta):=by
 intro pins s σ H R I h;refine Call_ (JgY I hg hm boot_range (PyProof.Rows.callWith_type1 (JY (ha pos pins s σ H _ I h) fun us s1 ⟨vs,H1,I1,r1,q1⟩=>?_) (by rw [hs,hs2]) (by rw [hs2]; rfl)));obtain ⟨i,j,e,⟨q1,q2,q3,q4⟩,q⟩:=q1;subst e;cases r1 with
 | cons r rr =>
  cases rr with
  | cons r' rr =>
   cases rr;obtain ⟨t,rfl⟩:=r;obtain ⟨t',rfl⟩:=r';exact call_range_2 (Jl4 I1 q1 q2 q3 q4 q)
def JuB (wi:TI) (g:TG) (tb:TS):TS:=fun D σ H=>wi σ H fun J H1=>∃ W:Nat→Nat→St→Hp→Prop,(∃ m,W 0 m σ H1)∧∀ i m σ H,W i m σ H →
 (J.stop i H∧D.nx σ H)∨(J.go i H∧∃ N:St→Hp→Prop,(∀ σ' H',N σ' H'→∃ m',m' < m∧W (i + 1) m' σ' H')∧∀ x H',J.yld i H x H'→g x σ H' fun σ2 H2=>tb { D with nx:=N,ct:=N,bk:=D.nx } σ2 H2)
def JgI (fp:List Addr) (h:Heap):List (Addr×Obj):=fp.filterMap fun b=>(h.get? b).map fun o=>(b,o)
theorem JdP {fp:List Addr} {h:Heap} {b:Addr} {o:Obj} (hb:b∈fp) (e:h.get? b=some o):(b,o)∈JgI fp h:=List.mem_filterMap.mpr ⟨b,hb,by rw [e]; rfl⟩
theorem Jpk {fp:List Addr} {h:Heap} {p:Addr×Obj} (hp:p∈JgI fp h):p.1∈fp∧h.get? p.1=some p.2:=by
 obtain ⟨b,hb,e⟩:=List.mem_filterMap.mp hp;cases q:h.get? b with
 | none=>rw [q] at e; cases e
 | some o =>
  rw [q] at e;have e':(b,o)=p:=Option.some.inj e;subst e';exact ⟨hb,q⟩
theorem Jn.pinned {pins:List (Addr×Obj)} {σ:St} {H:Hp} {s:Shared} {fp:List Addr} (I:Jn X pins σ H s) (hf:∀ b∈fp,JeN X pins H b) (ho:∀ b∈fp,∃ o,s.heap.get? b=some o∧∀ v,o.data≠.cell v):Jn X (pins ++ JgI fp s.heap) σ H s :=
 I.pins_of fun p hp=>(List.mem_append.mp hp).elim (fun z=>I.pin p (List.mem_append_right _ z)) fun z=>by
  obtain ⟨hb,e⟩:=Jpk z;obtain ⟨f0,f1,f2,_⟩:=hf p.1 hb;obtain ⟨o,e',d⟩:=ho p.1 hb;rw [e] at e'; cases e';exact ⟨e,f0,f1,f2,d⟩
theorem Jn.unpinned {pins pl:List (Addr×Obj)} {σ:St} {H:Hp} {s:Shared} (I:Jn X (pins ++ pl) σ H s):Jn X pins σ H s:=I.pins_of fun p hp=>I.pin p (List.mem_append_right _ (List.mem_append_left _ hp))
theorem YH {iter:Expr} {body:List Stmt} {wi:TI} {g:TG} {tb:TS} {pos:Pos} (hp:PassesOwn (model X.prog X.w) X.A X.env X.xe) (hc:X.calm=true) (hi:PI X tg iter wi) (hg:PG X tg g) (hb:PSs X body tb)
  (hs:∀ x,foldedSetIterable iter X.env x=pure x:=by intro _; rfl):PS X (.For tg iter body [] pos) (JuB wi g tb):=by
 intro pins s σ H D I h;refine wpAny_For (JY (hi pins s σ H _ I h) fun v s1 h1=>JY h1 fun itv s2 h2=>?_) hs;obtain ⟨it,fp,tn,J,H2,e,I2,T,st2,f2,W,⟨m0,w0⟩,turn⟩:=h2;subst e;have stat:∀ {H':Hp},(∀ b∈fp,H' b=none)→∀ b∈fp,JeN X pins H' b:=fun hn b hb=>⟨hn b hb,(f2 b hb).2⟩
 refine codeAny_forLoop_any (fun n s'=>∃ i σ' H',Jn X pins σ' H' s'∧tn i s'.heap∧(∀ b∈fp,H' b=none)∧W i n σ' H') ?_ m0 ⟨0,σ,H2,I2,st2,fun b hb=>(f2 b hb).1,w0⟩;rintro n s3 ⟨i,σ3,H3,I3,st3,fr3,w3⟩;rcases turn i n σ3 H3 w3 with ⟨stop,qn⟩ | ⟨go,N,hN,step⟩
 ·refine wpAny_passesOwn hp (JY (T.done X rfl rfl rfl hc i pins s3 σ3 H3 X.xe I3 (stat fr3) st3 stop) fun r s4 ⟨hr,I4⟩=>?_);subst hr;exact wpAny_execs_nil ⟨σ3,H3,I4,qn⟩
 ·refine wpAny_passesOwn hp (JY (T.item X rfl rfl rfl hc i pins s3 σ3 H3 X.xe I3 (stat fr3) st3 go) fun r s4 ⟨u,hr,h4⟩=>?_);subst hr;refine wpAny_passesOwn hp (JY h4 fun _ s5 ⟨x,H5,I5,r5,y5,st5,fr5⟩=>?_);have I5':=I5.pinned (stat fr5) (T.obj _ _ st5);refine wpAny_passesOwn hp (JY (hg _ s5 σ3 H5 x u _ I5' r5 (step x H5 y5)) fun _ s6 ⟨σ6,H6,I6,q6⟩=>?_);refine wpAny_passesOwn hp (JY (hb _ s6 σ6 H6 _ I6 q6) fun f s7 q7=>?_);have again:∀ {σ7:St} {H7:Hp},Jn X (pins ++ JgI fp s5.heap) σ7 H7 s7→N σ7 H7→∃ m,m < n∧∃ i σ' H',Jn X pins σ' H' s7∧tn i s7.heap∧(∀ b∈fp,H' b=none)∧W i m σ' H':=fun {σ7 H7} I7 n7=>by
   obtain ⟨m',hm,w7⟩:=hN σ7 H7 n7;refine ⟨m',hm,i + 1,σ7,H7,I7.unpinned,T.keep _ _ _ st5 fun b hb o e=>(I7.pin (b,o) (List.mem_append_right _ (List.mem_append_right _ (JdP hb e)))).1,fun b hb=>?_,w7⟩;obtain ⟨o,e,d⟩:=T.obj _ _ st5 b hb;exact (I7.pin (b,o) (List.mem_append_right _ (List.mem_append_right _ (JdP hb e)))).2.1
  cases f with
  | next=>obtain ⟨σ7,H7,I7,n7⟩:=q7; exact again I7 n7
  | cont=>obtain ⟨σ7,H7,I7,n7⟩:=q7; exact again I7 n7
  | brk=>obtain ⟨σ7,H7,I7,q7⟩:=q7; exact ⟨σ7,H7,I7.unpinned,q7⟩
  | ret v=>obtain ⟨x7,σ7,H7,I7,r7,q7⟩:=q7; exact ⟨x7,σ7,H7,I7.unpinned,r7,q7⟩
end
theorem JaT {K:PySem.W.Frag} {a:Addr} {xs:List V} {g:TG} {tb:TS} {D:Jhu} {σ:St} {H:Hp} (Pv:Nat→St→Hp→Prop) (h0:Pv 0 σ H) (hl:∀ i σ H,i≤xs.length→Pv i σ H→Jp K H a xs)
  (hs:∀ i x σ H,xs[i]?=some x→Pv i σ H→g x σ H fun σ2 H2=>tb { D with nx:=Pv (i + 1),ct:=Pv (i + 1),bk:=D.nx } σ2 H2) (hd:∀ σ H,Pv xs.length σ H→D.nx σ H) :
  ∃ W:Nat→Nat→St→Hp→Prop,(∃ m,W 0 m σ H)∧∀ i m σ H,W i m σ H →
   ((Itl K a).stop i H∧D.nx σ H)∨((Itl K a).go i H∧∃ N:St→Hp→Prop,(∀ σ' H',N σ' H'→∃ m',m' < m∧W (i + 1) m' σ' H')∧∀ x H',(Itl K a).yld i H x H'→g x σ H' fun σ2 H2=>tb { D with nx:=N,ct:=N,bk:=D.nx } σ2 H2):=by
 refine ⟨fun i m σ H=>m=xs.length - i∧i≤xs.length∧Pv i σ H,⟨xs.length,by simp,Nat.zero_le _,h0⟩,?_⟩;rintro i m σ H ⟨rfl,hi,p⟩;have q:=hl i σ H hi p;by_cases hlt:i < xs.length
 ·refine .inr ⟨⟨xs,xs[i],q,by simp [hlt]⟩,Pv (i + 1),fun σ' H' p'=>⟨xs.length - (i + 1),by omega,rfl,hlt,p'⟩,fun x H' y=>?_⟩;obtain ⟨e,y⟩:=y;subst e;exact hs i x σ _ (y xs q) p
 ·have e:i=xs.length:=by omega
  subst e;exact .inl ⟨⟨xs,q,Nat.le_refl _⟩,hd σ H p⟩
theorem JnE {K:PySem.W.Frag} {a:Addr} {xs:List V} {g:TG} {tb:TS} {D:Jhu} {σ:St} {H:Hp} (Pv:Nat→St→Hp→Prop) (h0:Pv 0 σ H) (hl:∀ i σ H,i≤xs.length→Pv i σ H→JX K H a xs)
  (hs:∀ i x σ H,xs[i]?=some x→Pv i σ H→g x σ H fun σ2 H2=>tb { D with nx:=Pv (i + 1),ct:=Pv (i + 1),bk:=D.nx } σ2 H2) (hd:∀ σ H,Pv xs.length σ H→D.nx σ H) :
  ∃ W:Nat→Nat→St→Hp→Prop,(∃ m,W 0 m σ H)∧∀ i m σ H,W i m σ H →
   ((Itt K a).stop i H∧D.nx σ H)∨((Itt K a).go i H∧∃ N:St→Hp→Prop,(∀ σ' H',N σ' H'→∃ m',m' < m∧W (i + 1) m' σ' H')∧∀ x H',(Itt K a).yld i H x H'→g x σ H' fun σ2 H2=>tb { D with nx:=N,ct:=N,bk:=D.nx } σ2 H2):=by
 refine ⟨fun i m σ H=>m=xs.length - i∧i≤xs.length∧Pv i σ H,⟨xs.length,by simp,Nat.zero_le _,h0⟩,?_⟩;rintro i m σ H ⟨rfl,hi,p⟩;have q:=hl i σ H hi p;by_cases hlt:i < xs.length
 ·refine .inr ⟨⟨xs,xs[i],q,by simp [hlt]⟩,Pv (i + 1),fun σ' H' p'=>⟨xs.length - (i + 1),by omega,rfl,hlt,p'⟩,fun x H' y=>?_⟩;obtain ⟨e,y⟩:=y;subst e;exact hs i x σ _ (y xs q) p
 ·have e:i=xs.length:=by omega
  subst e;exact .inl ⟨⟨xs,q,Nat.le_refl _⟩,hd σ H p⟩
theorem YU {lo:Int} {n:Nat} {g:TG} {tb:TS} {D:Jhu} {σ:St} {H:Hp} (Pv:Nat→St→Hp→Prop) (h0:Pv 0 σ H)
  (hs:∀ i σ H,i < n→Pv i σ H→g (.int (lo + i)) σ H fun σ2 H2=>tb { D with nx:=Pv (i + 1),ct:=Pv (i + 1),bk:=D.nx } σ2 H2) (hd:∀ σ H,Pv n σ H→D.nx σ H) :
  ∃ W:Nat→Nat→St→Hp→Prop,(∃ m,W 0 m σ H)∧∀ i m σ H,W i m σ H →
   ((Itr lo n).stop i H∧D.nx σ H)∨((Itr lo n).go i H∧∃ N:St→Hp→Prop,(∀ σ' H',N σ' H'→∃ m',m' < m∧W (i + 1) m' σ' H')∧∀ x H',(Itr lo n).yld i H x H'→g x σ H' fun σ2 H2=>tb { D with nx:=N,ct:=N,bk:=D.nx } σ2 H2):=by
 refine ⟨fun i m σ H=>m=n - i∧i≤n∧Pv i σ H,⟨n,by simp,Nat.zero_le _,h0⟩,?_⟩;rintro i m σ H ⟨rfl,hi,p⟩;by_cases hlt:i < n
 ·refine .inr ⟨hlt,Pv (i + 1),fun σ' H' p'=>⟨n - (i + 1),by omega,rfl,hlt,p'⟩,fun x H' y=>?_⟩;obtain ⟨e,y⟩:=y;subst e y;exact hs i σ _ hlt p
 ·have e:i=n:=by omega
  subst e;exact .inl ⟨Nat.le_refl _,hd σ H p⟩
end L2
namespace L2
open PySem PySem.Spec PyProof.Rows
abbrev R2:=V→V→Hp→VK→Prop
def Z7 (X:Cx) (f:Value→Value→Sem Value) (r:R2):Prop :=
 ∀ (pins:List (Addr×Obj)) (s:Shared) (σ:St) (H:Hp) (x y:V) (v u:Value) (Q:VK),Jn X pins σ H s→JR x v→JR y u→r x y H Q →
  wpAny (model X.prog X.w) X.A (f v u) (EP X pins σ Q) X.xe s
def Yv (X:Cx) (f:Value) (r:List V→Hp→VK→Prop):Prop :=
 ∀ (pins:List (Addr×Obj)) (s:Shared) (σ:St) (H:Hp) (xs:List V) (us:List Value) (Q:VK),Jn X pins σ H s→JI xs us→r xs H Q →
  wpAny (model X.prog X.w) X.A (call f us) (EP X pins σ Q) X.xe s
def tOp (r:R2) (ta tb:TE):TE:=fun σ H Q=>ta σ H fun x H1=>tb σ H1 fun y H2=>r x y H2 Q
def rI (C:Int→Int→Prop) (g:Int→Int→V):R2:=fun x y H Q=>∃ i j,x=.int i∧y=.int j∧C i j∧Q (g i j) H
def rI0 (g:Int→Int→V):R2:=fun x y H Q=>∃ i j,x=.int i∧y=.int j∧Q (g i j) H
section
variable {X:Cx} {a b c:Expr} {ta tb tc:TE} {pos:Pos}
theorem Jrg (ha:PE X a ta) (hb:PE X b tb) {pins:List (Addr×Obj)} {s:Shared} {σ:St} {H:Hp} {R:V→V→Hp→Prop} (I:Jn X pins σ H s)
  (h:ta σ H fun x H1=>tb σ H1 fun y H2=>R x y H2) {Q:Value→Shared→Prop} {f:Value→Value→Sem Value}
  (hf:∀ v u s2 x y H2,Jn X pins σ H2 s2→JR x v→JR y u→R x y H2→wpAny (model X.prog X.w) X.A (f v u) Q X.xe s2) :
  wpAny (model X.prog X.w) X.A (eval a X.env) (fun v s₁=>wpAny (model X.prog X.w) X.A (eval b X.env) (fun u s₂=>wpAny (model X.prog X.w) X.A (f v u) Q X.xe s₂) X.xe s₁) X.xe s:=by
 refine JY (ha pins s σ H _ I h) fun v s1 ⟨x,H1,I1,r1,q1⟩=>?_
 refine JY (hb pins s1 σ H1 _ I1 q1) fun u s2 ⟨y,H2,I2,r2,q2⟩=>?_
 exact hf v u s2 x y H2 I2 r1 r2 q2
theorem Jk {op:Operator} {r:R2} (ho:Z7 X (binaryOp op) r) (ha:PE X a ta) (hb:PE X b tb):PE X (.BinOp a op b pos) (tOp r ta tb):=by
 intro pins s σ H Q I h;exact wpAny_BinOp (Jrg ha hb I h fun v u s2 x y H2 I2 rx ry q=>ho pins s2 σ H2 x y v u Q I2 rx ry q)
theorem opI {f:Value→Value→Sem Value} {C:Int→Int→Prop} {g:Int→Int→Int}
  (rule:∀ (i j:Int) (t u:Tok) (s:Shared) (Q:Value→Shared→Prop) (E:Value→Shared→Prop),C i j→Q (.int (g i j) s.toks) { s with toks:=s.toks + 1 }→wpAny (model X.prog X.w) X.A (f (.int i t) (.int j u)) Q E s) :
  Z7 X f (rI C fun i j=>.int (g i j)):=by
 intro pins s σ H x y v u Q I rx ry h;obtain ⟨i,j,rfl,rfl,hc,q⟩:=h;obtain ⟨t,rfl⟩:=rx;obtain ⟨t',rfl⟩:=ry;exact rule i j t t' s _ _ hc ⟨.int (g i j),H,I.tok _,⟨_,rfl⟩,q⟩
theorem Jth {f:Value→Value→Sem Value} {g:Int→Int→Int}
  (rule:∀ (i j:Int) (t u:Tok) (s:Shared) (Q:Value→Shared→Prop) (E:Value→Shared→Prop),Q (.int (g i j) s.toks) { s with toks:=s.toks + 1 }→wpAny (model X.prog X.w) X.A (f (.int i t) (.int j u)) Q E s) :
  Z7 X f (rI0 fun i j=>.int (g i j)):=by
 intro pins s σ H x y v u Q I rx ry h;obtain ⟨i,j,rfl,rfl,q⟩:=h;obtain ⟨t,rfl⟩:=rx;obtain ⟨t',rfl⟩:=ry;exact rule i j t t' s _ _ ⟨.int (g i j),H,I.tok _,⟨_,rfl⟩,q⟩
theorem Joh {f:Value→Value→Sem Value} {g:Int→Int→Bool}
  (rule:∀ (i j:Int) (t u:Tok) (s:Shared) (Q:Value→Shared→Prop) (E:Value→Shared→Prop),Q (.bool (g i j)) s→wpAny (model X.prog X.w) X.A (f (.int i t) (.int j u)) Q E s) :
  Z7 X f (rI0 fun i j=>.bl (g i j)):=by
 intro pins s σ H x y v u Q I rx ry h;obtain ⟨i,j,rfl,rfl,q⟩:=h;obtain ⟨t,rfl⟩:=rx;obtain ⟨t',rfl⟩:=ry;exact rule i j t t' s _ _ ⟨.bl (g i j),H,I,rfl,q⟩
def JuU (i j:Int):Prop:=0 < j∧j < 1073741824
def JuT (i j:Int):Prop:=0≤j∧j≤1000000∧i.natAbs < 2 ^ 64
def Jrp (i j:Int):Prop:=(-(2 ^ 64) < i∧i < 2 ^ 64)∨(-(2 ^ 64) < j∧j < 2 ^ 64)
theorem Jrp.ok {i j:Int} (h:Jrp i j):IntMulOk i j:=by
 rcases h with ⟨h1,h2⟩ | ⟨h1,h2⟩
 ·exact .of_left (intBits_le_64 h1 h2)
 ·exact .of_right (intBits_le_64 h1 h2)
theorem JM:Z7 X (binaryOp .Add) (rI0 fun i j=>.int (i + j)):=Jth fun _ _ _ _ _ _ _ q=>add_int q
theorem Y8:Z7 X (binaryOp .Sub) (rI0 fun i j=>.int (i - j)):=Jth fun _ _ _ _ _ _ _ q=>sub_int q
theorem Jaq:Z7 X (binaryOp .Mult) (rI Jrp fun i j=>.int (i * j)):=opI fun _ _ _ _ _ _ _ hc q=>mul_int q hc.ok
theorem YL:Z7 X (binaryOp .FloorDiv) (rI JuU fun i j=>.int (i / j)):=opI fun i j _ _ _ _ _ hc q=>by
 have h1:(0:Int) < j:=hc.1;have h2:j < 1073741824:=hc.2;exact floordiv_int (by omega) (by rw [Int.fdiv_eq_ediv_of_nonneg i (by omega)]; exact q) (.inl (PyProof.noPylong_small (by omega)))
theorem JZ:Z7 X (binaryOp .Mod) (rI (fun _ j=>0 < j) fun i j=>.int (i % j)):=opI fun i j _ _ _ _ _ hc q=>by
 have h1:(0:Int) < j:=hc;exact mod_int' (by omega) (by rw [Int.fmod_eq_emod_of_nonneg i (by omega)]; exact q)
theorem Jtf:Z7 X (binaryOp .Pow) (rI JuT fun i j=>.int (i ^ j.toNat)):=opI fun _ _ _ _ _ _ _ hc q=>pow_int_small hc.1 hc.2.1 hc.2.2 q
end
def JsX:V→V→Bool
 | .non,.non=>true | .non,.int _=>true | .int _,.non=>true | .non,.bl _=>true | .bl _,.non=>true | .non,.str _=>true | .str _,.non=>true
 | .int _,.int _=>true | .bl _,.bl _=>true | .str _,.str _=>true | .byt _,.byt _=>true
 | .int _,.str _=>true | .str _,.int _=>true | .bl _,.str _=>true | .str _,.bl _=>true
 | _,_=>false
def rEq:R2:=fun x y H Q=>JsX x y=true∧Q (.bl (decide (x=y))) H
def rNe:R2:=fun x y H Q=>JsX x y=true∧Q (.bl (!decide (x=y))) H
theorem JfO {i j:Int}:decide (V.int i=V.int j)=(i == j):=by
 rw [Bool.eq_iff_iff];simp
theorem JpK {i j:Bool}:decide (V.bl i=V.bl j)=(i == j):=by
 rw [Bool.eq_iff_iff];simp
theorem JfN {i j:Str}:decide (V.str i=V.str j)=(i == j):=by
 rw [Bool.eq_iff_iff];simp
theorem JnI {i j:Array UInt8}:decide (V.byt i=V.byt j)=(i.toList == j.toList):=by
 rw [Bool.eq_iff_iff];cases i;cases j;simp
section
variable {X:Cx} {a b c:Expr} {ta tb tc:TE} {pos:Pos}
theorem Yo {pins:List (Addr×Obj)} {σ:St} {H:Hp} {s:Shared} {Q:VK} {k k':Bool} (I:Jn X pins σ H s) (q:Q (.bl k) H) (e:k=k'):EP X pins σ Q (.bool k') s:=by
 subst e;exact ⟨.bl k,H,I,rfl,q⟩
theorem Yl:Z7 X (compareOp .Eq) rEq:=by
 intro pins s σ H x y v u Q I rx ry h;obtain ⟨hs,q⟩:=h;cases x with
 | non =>
  cases rx;cases y with
  | non=>cases ry; exact PySem.EqNone.eq_none_none (Yo I q (by simp))
  | bl j=>cases ry; exact PySem.EqNone.eq_none_bool (Yo I q (by simp))
  | int j=>obtain ⟨t',rfl⟩:=ry; exact PySem.EqNone.eq_none_int (Yo I q (by simp))
  | str j=>obtain ⟨t',rfl⟩:=ry; exact PySem.EqNone.eq_none_str (Yo I q (by simp))
  | _=>exact absurd (show false=true from hs) Bool.false_ne_true
 | bl i =>
  cases rx;cases y with
  | non=>cases ry; exact PySem.EqNone.eq_bool_none (Yo I q (by simp))
  | bl j=>cases ry; exact eq_bool (Yo I q JpK)
  | str j=>obtain ⟨t',rfl⟩:=ry; exact PySem.EqMixed.eq_bool_str (Yo I q (by simp))
  | _=>exact absurd (show false=true from hs) Bool.false_ne_true
 | int i =>
  obtain ⟨t,rfl⟩:=rx;cases y with
  | non=>cases ry; exact PySem.EqNone.eq_int_none (Yo I q (by simp))
  | int j=>obtain ⟨t',rfl⟩:=ry; exact eq_int (Yo I q JfO)
  | str j=>obtain ⟨t',rfl⟩:=ry; exact PySem.EqMixed.eq_int_str (Yo I q (by simp))
  | _=>exact absurd (show false=true from hs) Bool.false_ne_true
 | str i =>
  obtain ⟨t,rfl⟩:=rx;cases y with
  | non=>cases ry; exact PySem.EqNone.eq_str_none (Yo I q (by simp))
  | bl j=>cases ry; exact PySem.EqMixed.eq_str_bool (Yo I q (by simp))
  | int j=>obtain ⟨t',rfl⟩:=ry; exact PySem.EqMixed.eq_str_int (Yo I q (by simp))
  | str j=>obtain ⟨t',rfl⟩:=ry; exact eq_str (Yo I q JfN)
  | _=>exact absurd (show false=true from hs) Bool.false_ne_true
 | byt i =>
  obtain ⟨t,rfl⟩:=rx;cases y with
  | byt j=>obtain ⟨t',rfl⟩:=ry; exact PySem.W.eq_bytes (Yo I q JnI)
  | _=>exact absurd (show false=true from hs) Bool.false_ne_true
 | _=>cases y <;> exact absurd (show false=true from hs) Bool.false_ne_true
theorem JdN:Z7 X (compareOp .NotEq) rNe:=by
 intro pins s σ H x y v u Q I rx ry h;obtain ⟨hs,q⟩:=h;cases x with
 | non =>
  cases rx;cases y with
  | non=>cases ry; exact PySem.EqNone.ne_none_none (Yo I q (by simp))
  | bl j=>cases ry; exact PySem.EqNone.ne_none_bool (Yo I q (by simp))
  | int j=>obtain ⟨t',rfl⟩:=ry; exact PySem.EqNone.ne_none_int (Yo I q (by simp))
  | str j=>obtain ⟨t',rfl⟩:=ry; exact PySem.EqNone.ne_none_str (Yo I q (by simp))
  | _=>exact absurd (show false=true from hs) Bool.false_ne_true
 | bl i =>
  cases rx;cases y with
  | non=>cases ry; exact PySem.EqNone.ne_bool_none (Yo I q (by simp))
  | bl j=>cases ry; exact ne_bool (Yo I q (congrArg not JpK))
  | str j=>obtain ⟨t',rfl⟩:=ry; exact PySem.EqMixed.ne_bool_str (Yo I q (by simp))
  | _=>exact absurd (show false=true from hs) Bool.false_ne_true
 | int i =>
  obtain ⟨t,rfl⟩:=rx;cases y with
  | non=>cases ry; exact PySem.EqNone.ne_int_none (Yo I q (by simp))
  | int j=>obtain ⟨t',rfl⟩:=ry; exact ne_int (Yo I q (congrArg not JfO))
  | str j=>obtain ⟨t',rfl⟩:=ry; exact PySem.EqMixed.ne_int_str (Yo I q (by simp))
  | _=>exact absurd (show false=true from hs) Bool.false_ne_true
 | str i =>
  obtain ⟨t,rfl⟩:=rx;cases y with
  | non=>cases ry; exact PySem.EqNone.ne_str_none (Yo I q (by simp))
  | bl j=>cases ry; exact PySem.EqMixed.ne_str_bool (Yo I q (by simp))
  | int j=>obtain ⟨t',rfl⟩:=ry; exact PySem.EqMixed.ne_str_int (Yo I q (by simp))
  | str j=>obtain ⟨t',rfl⟩:=ry; exact ne_str (Yo I q (congrArg not JfN))
  | _=>exact absurd (show false=true from hs) Bool.false_ne_true
 | byt i =>
  obtain ⟨t,rfl⟩:=rx;cases y with
  | byt j=>obtain ⟨t',rfl⟩:=ry; exact PySem.W.ne_bytes (Yo I q (congrArg not JnI))
  | _=>exact absurd (show false=true from hs) Bool.false_ne_true
 | _=>cases y <;> exact absurd (show false=true from hs) Bool.false_ne_true
theorem JaY:Z7 X (compareOp .Lt) (rI0 fun i j=>.bl (decide (i < j))):=Joh fun _ _ _ _ _ _ _ q=>lt_int q
theorem JrE:Z7 X (compareOp .LtE) (rI0 fun i j=>.bl (decide (i≤j))):=Joh fun _ _ _ _ _ _ _ q=>le_int q
theorem JbY:Z7 X (compareOp .Gt) (rI0 fun i j=>.bl (decide (j < i))):=Joh fun _ _ _ _ _ _ _ q=>gt_int q
theorem Jog:Z7 X (compareOp .GtE) (rI0 fun i j=>.bl (decide (j≤i))):=Joh fun _ _ _ _ _ _ _ q=>ge_int q
theorem Ju (b:Expr) {op:CmpOp} (h:op≠.In:=by decide) (h2:op≠.NotIn:=by decide):behindInMarks op b=false:=by
 have e1:(op == CmpOp.In)=false:=by cases op <;> first | rfl | exact absurd rfl h
 have e2:(op == CmpOp.NotIn)=false:=by cases op <;> first | rfl | exact absurd rfl h2
 cases b <;> simp [behindInMarks,e1,e2]
theorem ZF {op:CmpOp} {r:R2} (ho:Z7 X (compareOp op) r) (ha:PE X a ta) (hb:PE X b tb) (hm:behindInMarks op b=false):PE X (.Compare a [op] [b] pos) (tOp r ta tb):=by
 intro pins s σ H Q I h;exact wpAny_Compare1 (Jrg ha hb I h fun v u s2 x y H2 I2 rx ry q=>ho pins s2 σ H2 x y v u Q I2 rx ry q) hm
def JtJ (t:TE):TT:=fun σ H Q=>t σ H fun x H'=>∃ k,x=.bl k∧Q k H'
theorem Jq {op:CmpOp} {r:R2} (ho:Z7 X (compareOp op) r) (ha:PE X a ta) (hb:PE X b tb) (hm:behindInMarks op b=false):PT X (.Compare a [op] [b] pos) (JtJ (tOp r ta tb)):=by
 intro pins s σ H Q I h;refine wpAny_isTrue_Compare1 (JY (ha pins s σ H _ I h) fun v s1 ⟨x,H1,I1,r1,q1⟩=>JY (hb pins s1 σ H1 _ I1 q1) fun u s2 ⟨y,H2,I2,r2,q2⟩ =>
  JY (ho pins s2 σ H2 x y v u _ I2 r1 r2 q2) fun c s3 ⟨z,H3,I3,r3,k,e,q3⟩=>?_) hm
 subst e;cases r3;exact wpAny_truthy_bool ⟨H3,I3,q3⟩
def JsO (r r':R2) (ta tb tc:TE):TE:=fun σ H Q=>ta σ H fun x H1=>tb σ H1 fun y H2=>r x y H2 fun z H3=>∃ k,z=.bl k ∧
 (if k=true then tc σ H3 fun w' H4=>r' y w' H4 Q else Q (.bl false) H3)
theorem JqN {op op':CmpOp} {r r':R2} (ho:Z7 X (compareOp op) r) (ho':Z7 X (compareOp op') r') (ha:PE X a ta) (hb:PE X b tb) (hc:PE X c tc)
  (hm:lastMarks [op,op'] [b,c]=false:=by with_unfolding_all rfl):PE X (.Compare a [op,op'] [b,c] pos) (JsO r r' ta tb tc):=by
 intro pins s σ H Q I h;refine Compare_chain (JY (ha pins s σ H _ I h) fun v s1 ⟨x,H1,I1,r1,q1⟩=>chain_link (JY (hb pins s1 σ H1 _ I1 q1) fun u s2 ⟨y,H2,I2,r2,q2⟩ =>
  JY (ho pins s2 σ H2 x y v u _ I2 r1 r2 q2) fun d s3 ⟨z,H3,I3,r3,k,e,q3⟩=>?_)) hm
 subst e;cases r3;refine wpAny_truthy_bool ?_;cases k with
 | false=>exact ite_ff ⟨.bl false,H3,I3,rfl,q3⟩
 | true=>exact ite_tt (chain_last (JY (hc pins s3 σ H3 _ I3 q3) fun w' s4 ⟨z',H4,I4,r4,q4⟩=>ho' pins s4 σ H4 y z' u w' Q I4 r2 r4 q4))
theorem JfE:(sizeLine:Nat) < 2 ^ 63:=by rw [sizeLine_eq]; decide
theorem Ji7:Z7 X (binaryOp .Add) (fun x y H Q=>∃ i j,x=.str i∧y=.str j∧i.length + j.length≤sizeLine∧Q (.str (i ++ j)) H):=by
 intro pins s σ H x y v u Q I rx ry h;obtain ⟨i,j,rfl,rfl,hz,q⟩:=h;obtain ⟨t,rfl⟩:=rx;obtain ⟨t',rfl⟩:=ry;exact add_str (fun t' tk=>⟨.str (i ++ j),H,I.tok _,⟨_,rfl⟩,q⟩) hz
theorem JfS {x:V} {us:List Value} (r:JI [x] us):∃ u,us=[u]∧JR x u:=by
 cases r with
 | cons r1 r2=>cases r2; exact ⟨_,rfl,r1⟩
theorem Jrq {x y:V} {us:List Value} (r:JI [x,y] us):∃ u w',us=[u,w']∧JR x u∧JR y w':=by
 cases r with
 | cons r1 r2 =>
  cases r2 with
  | cons r3 r4=>cases r4; exact ⟨_,_,rfl,r1,r3⟩
theorem Jhm (hc:X.calm=true):Yv X (.builtin "max") (fun xs H Q=>∃ i j,xs=[.int i,.int j]∧Q (.int (if j > i then j else i)) H):=by
 intro pins s σ H xs us Q I r h;obtain ⟨i,j,rfl,q⟩:=h;obtain ⟨u,w',rfl,⟨t,rfl⟩,⟨t',rfl⟩⟩:=Jrq r;refine max_two_ints (I.ok.hd hc) fun h' tk k=>⟨_,H,I.kept k,?_,q⟩
 by_cases hj:j > i
 ·rw [if_pos hj,if_pos hj]; exact ⟨_,rfl⟩
 ·rw [if_neg hj,if_neg hj]; exact ⟨_,rfl⟩
theorem Jk5 (hc:X.calm=true):Yv X (.builtin "min") (fun xs H Q=>∃ i j,xs=[.int i,.int j]∧Q (.int (if j < i then j else i)) H):=by
 intro pins s σ H xs us Q I r h;obtain ⟨i,j,rfl,q⟩:=h;obtain ⟨u,w',rfl,⟨t,rfl⟩,⟨t',rfl⟩⟩:=Jrq r;refine min_two_ints (I.ok.hd hc) fun h' tk k=>⟨_,H,I.kept k,?_,q⟩
 by_cases hj:j < i
 ·rw [if_pos hj,if_pos hj]; exact ⟨_,rfl⟩
 ·rw [if_neg hj,if_neg hj]; exact ⟨_,rfl⟩
theorem JbL:Yv X (.type "int") (fun xs H Q=>(∃ i,xs=[.int i]∧Q (.int i) H)∨∃ k,xs=[.bl k]∧Q (.int (if k then 1 else 0)) H):=by
 intro pins s σ H xs us Q I r h;rcases h with ⟨i,rfl,q⟩ | ⟨k,rfl,q⟩
 ·obtain ⟨u,rfl,t,rfl⟩:=JfS r;exact call_int_int ⟨.int i,H,I,⟨_,rfl⟩,q⟩
 ·obtain ⟨u,rfl,r1⟩:=JfS r;cases r1;exact call_int_bool ⟨.int (if k then 1 else 0),H,I.tok _,⟨_,rfl⟩,q⟩
end
end L2
namespace L2
open PySem PySem.Spec PyProof.Rows
structure JiO (h:Heap) (x dx C:Addr) (mA:Str→Option Value):Prop where
 obj:h.get? x=some (PySem.W.instObj C dx)
 ns:h.Ns1 dx mA
 ne:dx≠x
theorem Jpq {h:Heap} {dx:Addr} {mA:Str→Option Value} (n:h.Ns1 dx mA):∃ od,h.get? dx=some od∧∀ name,PySem.W.lookIn name od=some (mA name):=by
 obtain ⟨o,es,ep,ho,hd,hk,_,hm⟩:=n;refine ⟨o,ho,fun name=>?_⟩;have e:=hm name;unfold nsFind findBy at e;rw [← Array.find?_toList] at e;unfold PySem.W.lookIn;rw [hd];dsimp only;split
 ·rename_i y q;rw [q] at e;exact congrArg some e
 ·rename_i q;rw [q] at e;have a:es.toList.any (·.refKey)=false:=by
   rw [List.any_eq_false];intro y hy;obtain ⟨z,t,hkey⟩:=hk y (Array.mem_toList_iff.mp hy);simp [DictEntry.refKey,hkey]
  have a':¬ es.toList.any (·.refKey)=true:=by rw [a]; exact Bool.false_ne_true
  rw [if_neg a'];exact congrArg some e
theorem JiO.look {h:Heap} {x dx C:Addr} {mA:Str→Option Value} (I:JiO h x dx C mA):∃ od,PySem.W.InstAt h x (PySem.W.instObj C dx) C (some od)∧∀ name,PySem.W.lookIn name od=some (mA name) :=
 let ⟨od,ho,hl⟩:=Jpq I.ns
 ⟨od,⟨I.obj,rfl,rfl,ho⟩,hl⟩
section
variable {prog:Program} {w:World} {A:Around} {E:Value→Shared→Prop} {s:Shared} {K:PySem.W.Frag} {x dx C f:Addr} {mA:Str→Option Value} {name:Str} {v:Value}
theorem Jsx {expr:Bool} {Q:Value→Shared→Prop} (X:K.In s.heap) (I:JiO s.heap x dx C mA) (hg:PySem.W.plainGet K C name=true) (hh:PySem.W.hasDictIn K C=true)
  (ha:PySem.W.findIn K (.ref C) name=some none) (hv:mA name=some v) (hv':PySem.W.handedIn v=true) (h:Q v { s with toks:=s.toks + 1 }) :
  wpAny (model prog w) A (getAttr (.ref x) name expr) Q E s:=by
 obtain ⟨od,J,hl⟩:=I.look;exact PySem.W.get_value X J (PySem.W.plainGet_of hg).1 (PySem.W.findObj_own hh ha rfl (by rw [hl,hv])) hv' h
theorem Jq6 {pl:Sem Bool} {Q:Value×List Value→Shared→Prop} (X:K.In s.heap) (I:JiO s.heap x dx C mA) (hg:PySem.W.plainGet K C name=true)
  (hf:PySem.W.findIn K (.ref C) name=some (some (.ref f))) (ht:PySem.W.isFn K (.ref f)=true) (hv:mA name=none) (h:Q (.ref f,[.ref x]) s) :
  wpAny (model prog w) A (getMethod (.ref x) name pl) Q E s:=by
 obtain ⟨od,J,hl⟩:=I.look;exact PySem.W.method_fn X J (PySem.W.plainGet_of hg).1 (PySem.W.plainGet_of hg).2 hf (beq_iff_eq.mp ht) (by show (PySem.W.lookIn name od).map (·.isSome)=some false; rw [hl,hv]; rfl) h
theorem Jr7 {ns:List Str} {Q:Unit→Shared→Prop} (X:K.In s.heap) (I:JiO s.heap x dx C mA)
  (hs:PySem.W.findIn K (.ref C) "__setattr__" = some (some (.builtin "object.__setattr__"))) (hp:PySem.W.plainOver K C=true) (ht:PySem.W.takerIn K C name=some none) (hh:PySem.W.hasDictIn K C=true)
  (hw:PySem.Within mA ns) (hsz:ns.length≤sizeLine)
  (h:∀ h',JiO h' x dx C (fun y=>if y=name then some v else mA y)→Heap.SameBut dx s.heap h'→Q () { s with heap:=h',toks:=s.toks + 2 }) :
  wpAny (model prog w) A (setAttr (.ref x) name v) Q E s:=by
 obtain ⟨od,J,hl⟩:=I.look;refine PySem.W.set_plain X J hs (PySem.W.osa_open (s:={ s with toks:=s.toks + 1 }) (r:=none) X J hp ht fun b=>?_);obtain ⟨cd,hc,hd'⟩:=PySem.W.any_some hh;have hx:s.heap.get? x=some ⟨.ref C,some dx,.plain,#[]⟩:=I.obj;refine wpAny_bind (wpAny_pure (wpAny_bind (wpAny_bind (wpAny_loadPart hx (wpAny_bind (PySem.W.Looks.here (s:={ s with toks:=s.toks + 1 }) (PySem.W.looks_clsIn X hc) ?_))))));rw [hd'];refine wpAny_pure (a:=some dx) (wpAny_bind (wpAny_pure (wpAny_bind ?_)));refine wpAny_nsSet1 (s:={ s with toks:=s.toks + 1 }) I.ns fun h' hn2 hs2=>?_
 obtain ⟨oD,esD,epD,hoD,hdD,hcD⟩:=hn2.count (PySem.Within.cons name v hw);refine wpAny_bind (wpAny_lookBehind hoD (by rw [hdD]; exact pastItsLine_dict (Nat.le_trans hcD (by rw [List.length_cons]; omega))) ?_);exact wpAny_pure (h _ ⟨(hs2.2 _ (Ne.symm I.ne)).trans I.obj,hn2,I.ne⟩ hs2)
theorem Jq1 {R:Result→Shared→Prop} {vs:List Value} {kw:List (Str×Value)} (X:K.In s.heap) (hm:PySem.W.makesIn K C=true)
  (hi:PySem.W.findIn K (.ref C) "__init__" = some (some (.ref f))) (hf:PySem.W.typeIn K (.ref f)=some (.type "function"))
  (h:codeAny (model prog w) (A.under (.builtin "type.__call__" ⟨.ref C :: vs,kw⟩)) (.call (.ref f) ⟨.ref (s.heap.objs.size + 1) :: vs,kw⟩) (PySem.W.InitBack (s.heap.objs.size + 1) R)
   { s with heap:=(s.heap.push PySem.W.emptyDict).push (PySem.W.instObj C s.heap.objs.size) }) :
  codeAny (model prog w) A (.call (.ref C) ⟨vs,kw⟩) R s:=by
 obtain ⟨hh,g,d,t,os⟩:=s;exact PySem.W.make_core (PySem.W.makes_of X hm) (PySem.W.looks_findIn X hi) (fun self=>PySem.W.bind_fn X self hf) (.inl rfl) h
end
def Yt (f:Str) (v:V):List (Str×V)→List (Str×V)
 | []=>[(f,v)]
 | (g,x) :: r=>if g=f then (g,v) :: r else (g,x) :: Yt f v r
theorem Jh6 (f g:Str) (v:V):∀ fs:List (Str×V),(Yt f v fs).lookup g=if g=f then some v else fs.lookup g
 | []=>by
  show List.lookup g [(f,v)]=_;by_cases h:g=f
  ·have hb:(g == f)=true:=beq_iff_eq.mpr h;simp only [List.lookup,hb,if_pos h]
  ·have hb:(g == f)=false:=beq_eq_false_iff_ne.mpr h;simp only [List.lookup,hb,if_neg h]
 | (k,x) :: r=>by
  have ih:=Jh6 f g v r;rw [show Yt f v ((k,x) :: r)=(if k=f then (k,v) :: r else (k,x) :: Yt f v r) from rfl];by_cases hk:k=f
  ·rw [if_pos hk];by_cases h:g=k
   ·have hb:(g == k)=true:=beq_iff_eq.mpr h;simp only [List.lookup,hb,if_pos (h.trans hk)]
   ·have hb:(g == k)=false:=beq_eq_false_iff_ne.mpr h;simp only [List.lookup,hb,if_neg (fun e:g=f=>h (e.trans hk.symm))]
  ·rw [if_neg hk];by_cases h:g=k
   ·have hb:(g == k)=true:=beq_iff_eq.mpr h;simp only [List.lookup,hb,if_neg (fun e:g=f=>hk (h.symm.trans e))]
   ·have hb:(g == k)=false:=beq_eq_false_iff_ne.mpr h;simp only [List.lookup,hb];exact ih
theorem Jg0 (f:Str) (v:V):∀ fs:List (Str×V),f∈(Yt f v fs).map (·.1)∧∀ g,g∈fs.map (·.1)→g∈(Yt f v fs).map (·.1)
 | []=>⟨by simp [Yt],fun g h=>by simp at h⟩
 | (k,x) :: r=>by
  obtain ⟨i1,i2⟩:=Jg0 f v r;rw [show Yt f v ((k,x) :: r)=(if k=f then (k,v) :: r else (k,x) :: Yt f v r) from rfl];by_cases hk:k=f
  ·rw [if_pos hk];subst hk;exact ⟨by simp,fun g h=>by simpa using h⟩
  ·rw [if_neg hk];refine ⟨?_,fun g h=>?_⟩
   ·rw [List.map_cons];exact List.mem_cons_of_mem _ i1
   ·rw [List.map_cons] at h ⊢;rcases List.mem_cons.mp h with e | e
    ·exact List.mem_cons.mpr (.inl e)
    ·exact List.mem_cons_of_mem _ (i2 g e)
theorem Jh8 (f:Str) (v:V):∀ fs:List (Str×V),(Yt f v fs).length≤fs.length + 1
 | []=>by simp [Yt]
 | (k,x) :: r=>by
  have ih:=Jh8 f v r;rw [show Yt f v ((k,x) :: r)=(if k=f then (k,v) :: r else (k,x) :: Yt f v r) from rfl];by_cases hk:k=f
  ·rw [if_pos hk,List.length_cons,List.length_cons]; omega
  ·rw [if_neg hk,List.length_cons,List.length_cons]; omega
theorem Jay.some_of {v:V} {o:Option Value} (r:Jay (some v) o):∃ u,o=some u∧JR v u:=by
 cases o with
 | none=>exact (show False from r).elim
 | some u=>exact ⟨u,rfl,r⟩
theorem Jay.none_of {o:Option Value} (r:Jay none o):o=none:=by
 cases o with
 | none=>rfl
 | some u=>exact (show False from r).elim
theorem JpD {v:V} {u:Value} (r:JR v u):PySem.W.handedIn u=true:=by
 cases v with
 | non=>cases (show u=Value.none from r); rfl
 | bl b=>cases (show u=Value.bool b from r); rfl
 | int i=>obtain ⟨t,e⟩:=(show ∃ t,u=Value.int i t from r); cases e; rfl
 | str x=>obtain ⟨t,e⟩:=(show ∃ t,u=Value.str x t from r); cases e; rfl
 | byt b=>obtain ⟨t,e⟩:=(show ∃ t,u=Value.bytes b t from r); cases e; rfl
 | flt b=>obtain ⟨t,e⟩:=(show ∃ t,u=Value.float b t from r); cases e; rfl
 | ref a=>cases (show u=Value.ref a from r); rfl
 | ty n=>cases (show u=Value.type n from r); rfl
section
variable {P:Program} {w:World} {H H':Hp} {h h':Heap} {a C dx:Addr} {fs fs':List (Str×V)}
theorem JhJ (hok:ZE P w H h) (e:H a=some (.ins C dx fs)):∃ mA,JiO h a dx C mA∧(∀ f,Jay (fs.lookup f) (mA f))∧PySem.Within mA (fs.map (·.1))∧fs.length≤1000∧H dx=some (.own a):=by
 obtain ⟨d,z,ne,ob,mA,n,r,q⟩:=(show YA P w H h a (.ins C dx fs) from hok a _ e)
 exact ⟨mA,⟨ob,n,ne⟩,r,q,z,d⟩
end
structure Cls (K:PySem.W.Frag) (C:Addr):Prop where
 pg:PySem.W.plainGet K C Str.empty=true
 hd:PySem.W.hasDictIn K C=true
 po:PySem.W.plainOver K C=true
 sa:PySem.W.findIn K (.ref C) "__setattr__" = some (some (.builtin "object.__setattr__"))
theorem Cls.get {K:PySem.W.Frag} {C:Addr} (c:Cls K C) (f:Str):PySem.W.plainGet K C f=true:=c.pg
def ZV (K:PySem.W.Frag) (C:Addr) (f:Str):Prop:=PySem.W.findIn K (.ref C) f=some none
theorem ZV.taker {K:PySem.W.Frag} {C:Addr} {f:Str} (n:ZV K C f):PySem.W.takerIn K C f=some none:=by
 unfold PySem.W.takerIn;rw [show PySem.W.findIn K (.ref C) f=some none from n];rfl
structure Jro (K:PySem.W.Frag) (C:Addr) (m:Str) (f:Addr):Prop where
 at_:PySem.W.findIn K (.ref C) m=some (some (.ref f))
 fn:PySem.W.isFn K (.ref f)=true
 kp:PySem.W.keepIn K (.ref f)=true
section
variable {X:Cx} {pins:List (Addr×Obj)} {σ:St} {H:Hp} {s:Shared} {a C dx:Addr} {fs:List (Str×V)} {f:Str} {v:V} {A:Around} {E:Value→Shared→Prop}
theorem Joq {b:Bool} {Q:Value→Shared→Prop} (I:Jn X pins σ H s) (e:H a=some (.ins C dx fs)) (c:Cls X.K C) (n:ZV X.K C f) (l:fs.lookup f=some v)
  (h:∀ u s',Jn X pins σ H s'→JR v u→Q u s'):wpAny (model X.prog X.w) A (getAttr (.ref a) f b) Q E s:=by
 obtain ⟨mA,O,r,_,_,_⟩:=JhJ I.hok e;obtain ⟨u,hu,ru⟩:=Jay.some_of (v:=v) (o:=mA f) (by rw [← l]; exact r f);exact Jsx I.kIn O (c.get f) c.hd n hu (JpD ru) (h u _ (I.tok _) ru)
theorem Jop {m:Str} {g:Addr} {pl:Sem Bool} {Q:Value×List Value→Shared→Prop} (I:Jn X pins σ H s) (e:H a=some (.ins C dx fs)) (c:Cls X.K C) (k:Jro X.K C m g) (l:fs.lookup m=none)
  (h:Q (.ref g,[.ref a]) s):wpAny (model X.prog X.w) A (getMethod (.ref a) m pl) Q E s:=by
 obtain ⟨mA,O,r,_,_,_⟩:=JhJ I.hok e;have hn:mA m=none:=Jay.none_of (by rw [← l]; exact r m);exact Jq6 I.kIn O (c.get m) k.at_ k.fn hn h
theorem Jn4 {y:V} {u:Value} {Q:Unit→Shared→Prop} (I:Jn X pins σ H s) (e:H a=some (.ins C dx fs)) (c:Cls X.K C) (n:ZV X.K C f) (hl:fs.length < 1000) (ry:JR y u)
  (h:∀ s',Jn X pins σ (upd H a (.ins C dx (Yt f y fs))) s'→Q () s'):wpAny (model X.prog X.w) A (setAttr (.ref a) f u) Q E s:=by
 obtain ⟨mA,O,r,wi,_,ho⟩:=JhJ I.hok e;have hz:(fs.map (·.1)).length≤sizeLine:=by rw [List.length_map,sizeLine_eq]; omega
 refine Jr7 I.kIn O c.sa c.po n.taker c.hd wi hz fun h' O' sb=>h _ ?_
 have hd:∃ o,h'.get? dx=some o:=let ⟨o,_,_,e',_⟩:=O'.ns; ⟨o,e'⟩;refine I.write (x:=a) (e:=dx) (by rw [e]; exact True.intro) (.inr ho) (fun b q hb z=>(sb.2 b hb).trans z) hd ?_;refine ⟨by rw [Jz O.ne]; exact ho,?_,O.ne,O'.obj,_,O'.ns,fun g=>?_,fun g hg=>?_⟩
 ·have:=Jh8 f y fs; omega
 ·show Jay ((Yt f y fs).lookup g) (if g=f then some u else mA g);rw [Jh6];by_cases q:g=f
  ·rw [if_pos q,if_pos q]; exact ry
  ·rw [if_neg q,if_neg q]; exact r g
 ·by_cases q:g=f
  ·rw [q]; exact (Jg0 f y fs).1
  ·refine (Jg0 f y fs).2 g (wi g fun z=>hg ?_);show (if g=f then some u else mA g)=none;rw [if_neg q]; exact z
theorem Jn.made (I:Jn X pins σ H s):Jn X pins σ (upd (upd H s.heap.objs.size (.own (s.heap.objs.size + 1))) (s.heap.objs.size + 1) (.ins C s.heap.objs.size []))
  { s with heap:=(s.heap.push PySem.W.emptyDict).push (PySem.W.instObj C s.heap.objs.size) }:=by
 have e1:(s.heap.push PySem.W.emptyDict).get? s.heap.objs.size=some PySem.W.emptyDict:=Heap.get?_push_size s.heap rfl;have e2:((s.heap.push PySem.W.emptyDict).push (PySem.W.instObj C s.heap.objs.size)).get? (s.heap.objs.size + 1)=some (PySem.W.instObj C s.heap.objs.size):=by
  have:=Heap.get?_push_size (s.heap.push PySem.W.emptyDict) (o:=PySem.W.instObj C s.heap.objs.size) rfl;rwa [Heap.size_push] at this
 have e3:(s.heap.push PySem.W.emptyDict).Ns s.heap.objs.size (fun _=>none):=⟨PySem.W.emptyDict,#[],_,e1,rfl,(fun e he=>absurd he (by simp)),fun _=>rfl⟩
 have I1:=I.laid (a:=s.heap.objs.size) (o:=.own (s.heap.objs.size + 1)) (h':=s.heap.push PySem.W.emptyDict) (t':=s.toks) (fun b u q=>Heap.get?_push_of_some _ q) (Nat.le_refl _) ⟨_,e1⟩;refine I1.laid (a:=s.heap.objs.size + 1) (o:=.ins C s.heap.objs.size []) (t':=s.toks) (fun b u q=>Heap.get?_push_of_some _ q) (Nat.le_of_eq (Heap.size_push _ _)) ?_;have ne:s.heap.objs.size≠s.heap.objs.size + 1:=Nat.ne_of_lt (Nat.lt_succ_self _);refine ⟨by rw [Jz ne,Jh],Nat.zero_le _,ne,e2,fun _=>none,(Heap.Ns1.of_empty e3).at fun o q=>Heap.get?_push_of_some _ q,fun _=>True.intro,fun y hy=>absurd rfl hy⟩
theorem JsB {prog:Program} {w:World} {env:Env} {e:Expr} {f:Str} {pos:Pos} {s:Shared} {Q:Value→Shared→Prop} (hb:attributeBase e f env (eval e env)=eval e env)
  (h:wpAny (model prog w) A (eval e env) (fun o s₁=>wpAny (model prog w) A (getAttr o f true) Q E s₁) E s):wpAny (model prog w) A (eval (.Attribute e f pos) env) Q E s :=
 Attribute_any_ h (by rw [arm_eval_Attribute,hb])
end
def JuC (K:PySem.W.Frag) (ta:TE) (f:Str):TE:=fun σ H Q=>ta σ H fun x H1=>∃ a C dx fs v,x=.ref a∧H1 a=some (.ins C dx fs)∧Cls K C∧ZV K C f∧fs.lookup f=some v∧Q v H1
def JuF (K:PySem.W.Frag) (ta tv:TE) (f:Str):TS:=fun D σ H=>tv σ H fun y H1=>ta σ H1 fun x H2=>∃ a C dx fs,x=.ref a∧H2 a=some (.ins C dx fs)∧Cls K C∧ZV K C f∧fs.length < 1000 ∧
 D.nx σ (upd H2 a (.ins C dx (Yt f y fs)))
section
variable {X:Cx} {o e value:Expr} {f:Str} {pos pos' tpos:Pos} {ta tv:TE}
theorem YY (he:PE X e ta) (hb:attributeBase e f X.env (eval e X.env)=eval e X.env):PE X (.Attribute e f pos) (JuC X.K ta f):=by
 intro pins s σ H Q I h;refine JsB hb (JY (he pins s σ H _ I h) fun u s1 ⟨x,H1,I1,rx,a,C,dx,fs,v,ex,ea,c,n,l,q⟩=>?_);subst ex;obtain rfl:u=Value.ref a:=rx;exact Joq I1 ea c n l fun u' s2 I2 ru=>⟨v,H1,I2,ru,q⟩
theorem JbV (ha:PE X o ta) (hv:PE X value tv) (hs:swapsWith value (some (.Attribute o f pos')) pos.line X.env=pure false):PS X (.Assign [.Attribute o f pos'] value pos) (JuF X.K ta tv f):=by
 intro pins s σ H D I h;refine plainObj_wpAny_Assign_Attribute (JY (hv pins s σ H _ I h) fun u s1 ⟨y,H1,I1,ry,q⟩=>JY (ha pins s1 σ H1 _ I1 q) fun ov s2 ⟨x,H2,I2,rx,a,C,dx,fs,ex,ea,c,n,l,q2⟩=>?_) hs;subst ex;obtain rfl:ov=Value.ref a:=rx;exact Jn4 I2 ea c n l ry fun s3 I3=>⟨σ,_,I3,q2⟩
end
section
variable {X:Cx} {pins:List (Addr×Obj)} {σ:St} {H:Hp} {s:Shared} {A:Around} {E:Value→Shared→Prop} {Q:Value→Shared→Prop} {c:Value} {b:Bool}
inductive JcJ (K:PySem.W.Frag) (H:Hp):V→Value→Prop where
 | non:JcJ K H .non (.type "NoneType")
 | bl (x:Bool):JcJ K H (.bl x) (.type "bool")
 | int (i:Int):JcJ K H (.int i) (.type "int")
 | str (x:Str):JcJ K H (.str x) (.type "str")
 | flt (x:UInt64):JcJ K H (.flt x) (.type "float")
 | lst {a:Addr} {xs:List V} (e:H a=some (.lst xs)):JcJ K H (.ref a) (.type "list")
 | frz {a:Addr} {o:Obj} {xs:List V} (e:H a=some (.frz o (.lst xs))):JcJ K H (.ref a) (.type "list")
 | tup {a:Addr} {xs:List V} (e:H a=some (.tup xs)):JcJ K H (.ref a) (.type "tuple")
 | dK {a:Addr} {kvs:List (JP×V)} (e:H a=some (.dK kvs)):JcJ K H (.ref a) (.type "dict")
 | dT {a:Addr} {kvs:List (List JP×V)} (e:H a=some (.dT kvs)):JcJ K H (.ref a) (.type "dict")
 | ins {a C dx:Addr} {fs:List (Str×V)} (e:H a=some (.ins C dx fs)) (cl:Cls K C) (ha:PySem.W.findIn K (.ref C) "__class__" = some (some (.builtin "object.__class__")))
   (hn:PySem.W.specialIn K (.builtin "object.__class__") "__get__" = some (some (.builtin "getset_descriptor.__get__"))) (htk:PySem.W.takesIn K (.builtin "object.__class__")=some true)
   (hm:PySem.W.mroIn K C (.type "object")=some true):JcJ K H (.ref a) (.ref C)
theorem Jpy {x:V} {u t:Value} (I:Jn X pins σ H s) (rx:JR x u) (ty:JcJ X.K H x t) (e:PySem.W.kitOne X.K t c=some b) (h:∀ tk,Q (.bool b) { s with toks:=tk }) :
  wpAny (model X.prog X.w) A (call (.builtin "isinstance") [u,c]) Q E s:=by
 cases ty with
 | non=>cases (show u=Value.none from rx); exact PySem.W.kia_one PySem.W.kitx_none I.kIn True.intro e (fun z=>nomatch z) h
 | bl y=>cases (show u=Value.bool y from rx); exact PySem.W.kia_one PySem.W.kitx_bool I.kIn True.intro e (fun z=>nomatch z) h
 | int i=>obtain ⟨t,q⟩:=(show ∃ t,u=Value.int i t from rx); cases q; exact PySem.W.kia_one PySem.W.kitx_int I.kIn True.intro e (fun z=>nomatch z) h
 | str y=>obtain ⟨t,q⟩:=(show ∃ t,u=Value.str y t from rx); cases q; exact PySem.W.kia_one PySem.W.kitx_str I.kIn True.intro e (fun z=>nomatch z) h
 | flt y=>obtain ⟨t,q⟩:=(show ∃ t,u=Value.float y t from rx); cases q; exact PySem.W.kia_one PySem.W.kitx_float I.kIn True.intro e (fun z=>nomatch z) h
 | @lst a xs ea =>
  cases (show u=Value.ref a from rx);obtain ⟨_,_,n,_,h1⟩:=(show YA X.prog X.w H s.heap a (.lst xs) from I.hok a _ ea)
  exact PySem.W.kia_one PySem.W.kitx_list I.kIn ⟨_,h1,rfl⟩ e (fun z=>nomatch z) h
 | @frz a ob xs ea =>
  cases (show u=Value.ref a from rx);obtain ⟨_,_,_,n,_,h1⟩:=(show YA X.prog X.w H s.heap a (.frz ob (.lst xs)) from I.hok a _ ea)
  exact PySem.W.kia_one PySem.W.kitx_list I.kIn ⟨_,h1,rfl⟩ e (fun z=>nomatch z) h
 | @tup a xs ea =>
  cases (show u=Value.ref a from rx);obtain ⟨_,_,_,p⟩:=(show YA X.prog X.w H s.heap a (.tup xs) from I.hok a _ ea)
  obtain ⟨o,h1,h2,_⟩:=p;exact PySem.W.kia_one PySem.W.kitx_tuple I.kIn ⟨o,h1,h2⟩ e (fun z=>nomatch z) h
 | @dK a kvs ea =>
  cases (show u=Value.ref a from rx);obtain ⟨_,_,vs,_,p⟩:=(show YA X.prog X.w H s.heap a (.dK kvs) from I.hok a _ ea)
  obtain ⟨o,es,ep,h1,h2,_⟩:=p;exact PySem.W.kia_one PySem.W.kitx_dict I.kIn ⟨o,h1,h2.1⟩ e (fun z=>nomatch z) h
 | @dT a kvs ea =>
  cases (show u=Value.ref a from rx);obtain ⟨_,_,xs,_,o,es,ep,h1,h2,_⟩:=(show YA X.prog X.w H s.heap a (.dT kvs) from I.hok a _ ea)
  exact PySem.W.kia_one PySem.W.kitx_dict I.kIn ⟨o,h1,h2.1⟩ e (fun z=>nomatch z) h
 | @ins a C dx fs ea cl ha hn htk hm =>
  cases (show u=Value.ref a from rx);obtain ⟨mA,O,_⟩:=JhJ I.hok ea;obtain ⟨od,J,_⟩:=O.look;exact PySem.W.kia_one (PySem.W.kitx_own (cl.get _) cl.hd ha hn htk hm) I.kIn J e (fun z=>nomatch z) h
end
end L2
namespace L2
open PySem PySem.Spec PyProof.Rows
structure Y1 (k:Nat) (A:Around):Prop where
 hd:A.handled=none
 dp:A.depth + 3 * k + 5 < recursionLimit
 un:A.units + 16 * k + 200 < cLine
theorem Y1.mono {j k:Nat} {A:Around} (r:Y1 k A) (h:j≤k):Y1 j A:=⟨r.hd,by have:=r.dp; omega,by have:=r.un; omega⟩
theorem Y1.deeper {k:Nat} {A:Around} (r:Y1 (k + 1) A) (env:Env):Y1 k (A.deeper env) :=
 ⟨r.hd,by have:=r.dp; show A.depth + 1 + 3 * k + 5 < _; omega,by have:=r.un; show A.units + 3 + 16 * k + 200 < _; omega⟩
theorem Y1.in1 {k:Nat} {A:Around} (r:Y1 (k + 1) A):Y1 k A.in1 :=
 ⟨r.hd,by have:=r.dp; show A.depth + 3 * k + 5 < _; omega,by have:=r.un; show A.units + 1 + 16 * k + 200 < _; omega⟩
theorem Jom {A:Around} {C:Addr} {us:List Value} {kw:List (Str×Value)}:(A.under (.builtin "type.__call__" ⟨.ref C :: us,kw⟩)).depth=A.depth + 1:=by
 first | rfl | simp [Around.under,Code.weight,Code.isCreation,Code.isGuard,Code.isCaller,Code.frames,Code.isFrame,guardIds]
theorem Jol {A:Around} {C:Addr} {us:List Value} {kw:List (Str×Value)}:(A.under (.builtin "type.__call__" ⟨.ref C :: us,kw⟩)).units=A.units + 1:=by
 first | rfl | simp [Around.under,Code.cUnits,Code.frames,Code.isFrame]
theorem Y1.make {k:Nat} {A:Around} (r:Y1 (k + 1) A) (C:Addr) (us:List Value) (kw:List (Str×Value)):Y1 k (A.under (.builtin "type.__call__" ⟨.ref C :: us,kw⟩)) :=
 ⟨r.hd,by have:=r.dp; rw [Jom]; omega,by have:=r.un; rw [Jol]; omega⟩
theorem Y1.depth {k:Nat} {A:Around} (r:Y1 k A):A.depth < recursionLimit:=by have:=r.dp; omega
theorem Y1.units {k:Nat} {A:Around} (r:Y1 k A):A.units + 64 < cLine:=by have:=r.un; omega
theorem Y1.units0 {k:Nat} {A:Around} (r:Y1 k A):A.units < cLine:=by have:=r.un; omega
def JsK:TA:=fun _ H Q=>Q [] H
def JtR (ta:TE) (tr:TA):TA:=fun σ H Q=>ta σ H fun x H1=>tr σ H1 fun xs H2=>Q (x :: xs) H2
section
variable {X:Cx} {e:Expr} {es:List Expr} {te:TE} {t:TA} {pos:Pos}
theorem Jc:PA X [] JsK:=fun _ _ _ _ H Q I h=>Calls.spliced_nil ⟨[],H,I,.nil,h⟩
theorem Ja (ha:PE X e te) (hr:PA X es t) (hs:starEach (e :: es) X.env=(false,eval e X.env) :: starEach es X.env:=by rfl):PA X (e :: es) (JtR te t):=by
 intro pos pins s σ H Q I h;rw [hs];show wpAny _ _ (spliced ((false,eval e X.env) :: backTo pos (starEach es X.env))) _ _ s;refine Calls.spliced_cons (JY (ha pins s σ H _ I h) fun u s1 ⟨x,H1,I1,r1,q1⟩=>?_);exact JY (hr pos pins s1 σ H1 _ I1 q1) fun us s2 ⟨xs,H2,I2,r2,q2⟩=>⟨x :: xs,H2,I2,.cons r1 r2,q2⟩
def Jur (t:TA):TE:=fun σ H Q=>t σ H fun xs H1=>xs.length≤sizeLine∧∀ p,H1 p=none→Q (.ref p) (upd H1 p (.tup xs))
def Juy (t:TA):TE:=fun σ H Q=>t σ H fun xs H1=>xs.length≤sizeLine∧∀ p,H1 p=none→Q (.ref p) (upd H1 p (.lst xs))
theorem Yz {x1} (h:PA X es t):PE X (.Tuple es x1 pos) (Jur t):=by
 intro pins s σ H Q I hq;refine wpAny_Tuple_spliced (JY (h pos pins s σ H _ I hq) fun us s1 ⟨xs,H1,I1,r,z,q⟩=>⟨by rw [← r.length]; exact z,?_⟩);have hf:H1 s1.heap.objs.size=none:=I1.hok.fresh (Nat.le_refl _);refine ⟨.ref s1.heap.objs.size,upd H1 s1.heap.objs.size (.tup xs),I1.laid (t':=s1.toks) (fun b u e=>Heap.get?_push_of_some _ e) (Nat.le_refl _) ?_,rfl,q _ hf⟩;exact ⟨z,us,r,⟨_,Heap.get?_push_size _ rfl,rfl,_,rfl⟩⟩
theorem J7 (h:PA X es t):PE X (.List es pos) (Juy t):=by
 intro pins s σ H Q I hq;refine wpAny_List_spliced (JY (h pos pins s σ H _ I hq) fun us s1 ⟨xs,H1,I1,r,z,q⟩=>⟨by rw [← r.length]; exact z,?_⟩);have hf:H1 s1.heap.objs.size=none:=I1.hok.fresh (Nat.le_refl _);refine ⟨.ref s1.heap.objs.size,upd H1 s1.heap.objs.size (.lst xs),I1.laid (t':=s1.toks) (fun b u e=>Heap.get?_push_of_some _ e) (Nat.le_refl _) ?_,rfl,q _ hf⟩;exact ⟨z,us,0,r,Heap.get?_push_size _ rfl⟩
end
abbrev Sp:=List V→Hp→VK→XK→Prop
abbrev CXT:=List Env→Hp→Shared→XK→Value→Shared→Prop
structure Jfm (P:Program) (w:World) (K:PySem.W.Frag) (mg:Str→Option Value) (base:Heap) (A:Around) (outer:List Env) (s:Shared) (H:Hp):Prop where
 frames:A.frames=some outer
 mod:Mod K mg base
 bs:∀ b o,base.get? b=some o→s.heap.get? b=some o∧H b=none
 bsz:base.objs.size≤s.heap.objs.size
 funs:s.heap.FunFrames base outer
 frf:∀ b∈ZU outer,H b=none
 hok:ZE P w H s.heap
 bare:AllBare s.gens
def CE (outer:List Env) (P:Program) (w:World) (H:Hp) (s:Shared) (Q:VK) (u:Value) (s':Shared):Prop :=
 ∃ v H',s'.os=s.os∧AllBare s'.gens∧Un (ZU outer) [] H H' s.heap s'.heap∧ZE P w H' s'.heap∧JR v u∧Q v H'
def CR (CX:CXT) (outer:List Env) (P:Program) (w:World) (H:Hp) (s:Shared) (Q:VK) (E:XK) (r:Result) (s':Shared):Prop :=
 match r with
 | .ok (.ret u)=>CE outer P w H s Q u s'
 | .ok _=>False
 | .error e=>CX outer H s E e s'
structure JL (P:Program) (w:World) (K:PySem.W.Frag) (mg:Str→Option Value) (base:Heap) (CX:CXT) (k:Nat) (f:Addr) (fd:FuncData) (ps:List Str) (sp:Sp):Prop where
 len:∀ vs H Q E,sp vs H Q E→vs.length=ps.length
 run:∀ (A:Around) (outer:List Env) (s:Shared) (H:Hp) (args:Args) (us:List Value) (vs:List V) (Q:VK) (E:XK),Y1 k A→Jfm P w K mg base A outer s H→BindsTo s fd args (ps.zip us)→JI vs us→sp vs H Q E →
  codeAny (model P w) A (.call (.ref f) args) (CR CX outer P w H s Q E) s
theorem JL.mono {P:Program} {w:World} {K:PySem.W.Frag} {mg:Str→Option Value} {base:Heap} {CX:CXT} {j k:Nat} {f:Addr} {fd:FuncData} {ps:List Str} {sp:Sp} (F:JL P w K mg base CX j f fd ps sp) (h:j≤k) :
  JL P w K mg base CX k f fd ps sp:=⟨F.len,fun A outer s H args us vs Q E hr=>F.run A outer s H args us vs Q E (hr.mono h)⟩
theorem JL.imp {P:Program} {w:World} {K:PySem.W.Frag} {mg:Str→Option Value} {base:Heap} {CX:CXT} {k:Nat} {f:Addr} {fd:FuncData} {ps:List Str} {sp sp':Sp} (F:JL P w K mg base CX k f fd ps sp)
  (h:∀ vs H Q E,sp' vs H Q E→sp vs H Q E):JL P w K mg base CX k f fd ps sp' :=
 ⟨fun vs H Q E q=>F.len vs H Q E (h _ _ _ _ q),fun A outer s H args us vs Q E hr he hb hv hs=>F.run A outer s H args us vs Q E hr he hb hv (h _ _ _ _ hs)⟩
theorem Jfm.make {P:Program} {w:World} {K:PySem.W.Frag} {mg:Str→Option Value} {base:Heap} {A:Around} {outer:List Env} {s:Shared} {H:Hp} (e:Jfm P w K mg base A outer s H) (C:Addr) (us:List Value) (kw:List (Str×Value)) :
  Jfm P w K mg base (A.under (.builtin "type.__call__" ⟨.ref C :: us,kw⟩)) outer s H:=⟨by first | exact e.frames | (simpa [Around.under,Code.envs,Code.isFrame,pushEnvs] using e.frames),e.mod,e.bs,e.bsz,e.funs,e.frf,e.hok,e.bare⟩
theorem Jfm.in1 {P:Program} {w:World} {K:PySem.W.Frag} {mg:Str→Option Value} {base:Heap} {A:Around} {outer:List Env} {s:Shared} {H:Hp} (e:Jfm P w K mg base A outer s H) :
  Jfm P w K mg base A.in1 outer s H:=⟨e.frames,e.mod,e.bs,e.bsz,e.funs,e.frf,e.hok,e.bare⟩
section
variable {X:Cx} {pins:List (Addr×Obj)} {σ:St} {H:Hp} {s s':Shared}
theorem Jn.env0 (I:Jn X pins σ H s):Jfm X.prog X.w X.K X.mg X.base X.A X.stack s H :=
 ⟨I.ok.frames,I.ok.mod,I.bs,Nat.le_trans I.ok.bsz I.sz,I.stack,I.stkFree,I.hok,I.bare⟩
theorem Jn.after {Q:VK} {u:Value} (I:Jn X pins σ H s) (h:CE X.stack X.prog X.w H s Q u s'):EP X pins σ Q u s':=by
 obtain ⟨v,H',os,bare,un,hok,r,q⟩:=h;obtain ⟨hh,g,d,t,os'⟩:=s';obtain rfl:os'=s.os:=os;exact ⟨v,H',I.call (h':=hh) (g':=g) (d':=d) (t':=t) (ch:=[]) un hok bare (fun b z=>absurd z (by simp)),r,q⟩
end
def Jrw (sp:Sp) (dvs:List V) (E:XK) (t:TA):TE:=fun σ H Q=>t σ H fun vs H1=>sp (vs ++ dvs) H1 Q E
def JtO (C:Addr) (m:Str) (sp:Sp) (dvs:List V) (E:XK) (ta:TE) (t:TA):TE:=fun σ H Q=>ta σ H fun x H1=>∃ a dx fs,x=.ref a∧H1 a=some (.ins C dx fs)∧fs.lookup m=none ∧
 t σ H1 fun vs H2=>sp (x :: (vs ++ dvs)) H2 Q E
def Jrv (C:Addr) (sp:Sp) (dvs:List V) (E:XK) (t:TA):TE:=fun σ H Q=>t σ H fun vs H1=>∀ x dx,H1 x=none→H1 dx=none→dx≠x →
 sp (.ref x :: (vs ++ dvs)) (upd (upd H1 dx (.own x)) x (.ins C dx [])) (fun v H2=>v=.non∧Q (.ref x) H2) E
def Jci (K:PySem.W.Frag) (fd:FuncData) (ps:List Str) (ds:List Value):Prop :=
 ∀ (s:Shared) (us:List Value),K.In s.heap→(us ++ ds).length=ps.length→BindsTo s fd ⟨us,[]⟩ (ps.zip (us ++ ds))
theorem Jci.all {K:PySem.W.Frag} {fd:FuncData} {ps:List Str} (h:∀ us:List Value,us.length=ps.length→bindArgs fd ⟨us,[]⟩=pure (ps.zip us)):Jci K fd ps []:=fun s us _ hl=>by
 rw [List.append_nil] at hl ⊢;exact .of_eq (h us hl)
def Jas (CX:CXT) (X:Cx) (E:XK):Prop:=∀ (pins:List (Addr×Obj)) (σ:St) (H:Hp) (s:Shared) (e:Value) (s':Shared),Jn X pins σ H s→CX X.stack H s E e s'→X.xe e s'
section
variable {X:Cx} {CX:CXT} {k:Nat} {f C:Addr} {fd:FuncData} {ps:List Str} {sp:Sp} {dvs:List V} {ds:List Value} {E:XK} {x m:Str} {p pos apos:Pos} {e o:Expr} {es:List Expr} {ta:TE} {t:TA}
theorem Jo9 {pins:List (Addr×Obj)} {σ:St} {H:Hp} {s:Shared} {Q:VK} {us:List Value} {vs:List V} (F:JL X.prog X.w X.K X.mg X.base CX k f fd ps sp) (hr:Y1 k X.A) (hb:Jci X.K fd ps ds) (hd:JI dvs ds) (hx:Jas CX X E)
  (I:Jn X pins σ H s) (r:JI vs us) (h:sp (vs ++ dvs) H Q E):wpAny (model X.prog X.w) X.A (call (.ref f) us) (EP X pins σ Q) X.xe s:=by
 have r2:JI (vs ++ dvs) (us ++ ds):=r.append hd;have hl:(us ++ ds).length=ps.length:=by rw [← r2.length]; exact F.len _ _ _ _ h
 refine wpAny_call (codeAny_mono (F.run X.A X.stack s H ⟨us,[]⟩ (us ++ ds) (vs ++ dvs) Q E hr I.env0 (hb s us I.kIn hl) r2 h) fun r s' hq=>?_);cases r with
 | error e=>exact hx pins σ H s e s' I hq
 | ok fl =>
  cases fl with
  | ret u=>exact I.after hq
  | next=>exact False.elim hq
  | brk=>exact False.elim hq
  | cont=>exact False.elim hq
theorem Jse (F:JL X.prog X.w X.K X.mg X.base CX k f fd ps sp) (hr:Y1 k X.A) (hg:Gl X x) (hm:X.mg x=some (.ref f)) (hk:PySem.W.keepIn X.K (.ref f)=true) (hb:Jci X.K fd ps ds) (hd:JI dvs ds) (hx:Jas CX X E)
  (ha:PA X (e :: es) t) (hdb:(x == ("__debug__" : Str))=false:=by decide) (he:starEach (e :: es) X.env=(false,eval e X.env) :: starEach es X.env:=by rfl) (hpl:(backTo pos (starEach es X.env)).any (·.1)=false:=by rfl) :
  PE X (.Call (.Name x p) (e :: es) [] pos) (Jrw sp dvs E t):=by
 intro pins s σ H Q I h;refine wpAny_Call_Name_kw (JdV I hg hm ?_ hdb);refine PySem.W.callWith_K (h₀:=X.base) I.ok.mod.kin hk (JY (ha pos pins s σ H _ I h) fun us s1 ⟨vs,H1,I1,r,q⟩=>⟨I1.kIn,?_⟩) he hpl;exact Jo9 F hr hb hd hx I1 r q
theorem YB {pl:Sem Bool} (he:PE X o ta) (c:Cls X.K C) (hm:Jro X.K C m f) (F:JL X.prog X.w X.K X.mg X.base CX k f fd ps sp) (hr:Y1 k X.A) (hb:Jci X.K fd ps ds) (hd:JI dvs ds) (hx:Jas CX X E) (ha:PA X (e :: es) t)
  (hst:starEach (e :: es) X.env=(false,eval e X.env) :: starEach es X.env:=by rfl) (hpl:(backTo pos (starEach es X.env)).any (·.1)=false:=by rfl)
  (ht:eval (.Call (.Attribute o m apos) (e :: es) [] pos) X.env=(do
   let ov ← eval o X.env
   standAt apos.atName
   let (f,first) ← holding [ov] (getMethod ov m pl)
   callWith pos f first (backTo pos (starEach (e :: es) X.env)) (backToKw pos (keywordEach [] X.env))):=by rfl) :
  PE X (.Call (.Attribute o m apos) (e :: es) [] pos) (JtO C m sp dvs E ta t):=by
 intro pins s σ H Q I h;refine PySem.W.methodCall_KW (pl:=pl) (JY (he pins s σ H _ I h) fun u s1 ⟨x,H1,I1,rx,a,dx,fs,ex,ea,l,q⟩=>?_) ht;subst ex;obtain rfl:u=Value.ref a:=rx;refine Jop I1 ea c hm l ?_;refine PySem.W.callWith_K (first:=[.ref a]) (h₀:=X.base) I.ok.mod.kin hm.kp (JY (ha pos pins s1 σ H1 _ I1 q) fun us s2 ⟨vs,H2,I2,r,q2⟩=>⟨I2.kIn,?_⟩) hst hpl;exact Jo9 (us:=.ref a :: us) (vs:=.ref a :: vs) F hr hb hd hx I2 (.cons rfl r) q2
structure Mk (K:PySem.W.Frag) (C f:Addr):Prop where
 makes:PySem.W.makesIn K C=true
 init:PySem.W.findIn K (.ref C) "__init__" = some (some (.ref f))
 fn:PySem.W.isFn K (.ref f)=true
 kp:PySem.W.keepIn K (.ref C)=true
theorem Jl1 {pins:List (Addr×Obj)} {σ:St} {H:Hp} {s:Shared} {Q:VK} {us:List Value} {vs:List V} (M:Mk X.K C f) (F:JL X.prog X.w X.K X.mg X.base CX k f fd ps sp) (hr:Y1 (k + 1) X.A) (hb:Jci X.K fd ps ds) (hd:JI dvs ds)
  (hx:Jas CX X E) (I:Jn X pins σ H s) (r:JI vs us)
  (h:∀ x dx,H x=none→H dx=none→dx≠x→sp (.ref x :: (vs ++ dvs)) (upd (upd H dx (.own x)) x (.ins C dx [])) (fun v H2=>v=.non∧Q (.ref x) H2) E) :
  wpAny (model X.prog X.w) X.A (call (.ref C) us) (EP X pins σ Q) X.xe s:=by
 have hq:=h (s.heap.objs.size + 1) s.heap.objs.size (I.hok.fresh (Nat.le_succ _)) (I.hok.fresh (Nat.le_refl _)) (Nat.ne_of_lt (Nat.lt_succ_self _));have I2:=Jn.made (C:=C) I;have r2:JI (V.ref (s.heap.objs.size + 1) :: (vs ++ dvs)) (Value.ref (s.heap.objs.size + 1) :: (us ++ ds)):=.cons rfl (r.append hd);have hl:(Value.ref (s.heap.objs.size + 1) :: us ++ ds).length=ps.length:=by
  have e:=r2.length;rw [F.len _ _ _ _ hq] at e;exact e.symm
 refine wpAny_call (Jq1 (f:=f) I.kIn M.makes M.init (beq_iff_eq.mp M.fn) (codeAny_mono (F.run _ X.stack _ _ ⟨Value.ref (s.heap.objs.size + 1) :: us,[]⟩ (Value.ref (s.heap.objs.size + 1) :: (us ++ ds)) _ _ E (hr.make C us [])
  (I2.env0.make C us []) (hb _ (Value.ref (s.heap.objs.size + 1) :: us) I2.kIn hl) r2 hq) fun r s' hq'=>?_))
 cases r with
 | error e=>exact hx pins σ _ _ e s' I2 hq'
 | ok fl =>
  cases fl with
  | ret u =>
   obtain ⟨v,H',I3,rv,ev,q3⟩:=I2.after hq';subst ev;exact ⟨rv,⟨V.ref (s.heap.objs.size + 1),H',I3,rfl,q3⟩⟩
  | next=>exact False.elim hq'
  | brk=>exact False.elim hq'
  | cont=>exact False.elim hq'
theorem Jj9 (M:Mk X.K C f) (F:JL X.prog X.w X.K X.mg X.base CX k f fd ps sp) (hr:Y1 (k + 1) X.A) (hg:Gl X x) (hm:X.mg x=some (.ref C)) (hb:Jci X.K fd ps ds) (hd:JI dvs ds) (hx:Jas CX X E)
  (ha:PA X (e :: es) t) (hdb:(x == ("__debug__" : Str))=false:=by decide) (he:starEach (e :: es) X.env=(false,eval e X.env) :: starEach es X.env:=by rfl) (hpl:(backTo pos (starEach es X.env)).any (·.1)=false:=by rfl) :
  PE X (.Call (.Name x p) (e :: es) [] pos) (Jrv C sp dvs E t):=by
 intro pins s σ H Q I h;refine wpAny_Call_Name_kw (JdV I hg hm ?_ hdb);refine PySem.W.callWith_K (h₀:=X.base) I.ok.mod.kin M.kp (JY (ha pos pins s σ H _ I h) fun us s1 ⟨vs,H1,I1,r,q⟩=>⟨I1.kIn,?_⟩) he hpl;exact Jl1 M F hr hb hd hx I1 r q
theorem JqM (M:Mk X.K C f) (F:JL X.prog X.w X.K X.mg X.base CX k f fd ps sp) (hr:Y1 (k + 1) X.A) (hg:Gl X x) (hm:X.mg x=some (.ref C)) (hb:Jci X.K fd ps ds) (hd:JI dvs ds) (hx:Jas CX X E)
  (hdb:(x == ("__debug__" : Str))=false:=by decide):PE X (.Call (.Name x p) [] [] pos) (Jrv C sp dvs E JsK):=by
 intro pins s σ H Q I h;refine wpAny_Call_Name_kw (JdV I hg hm ?_ hdb);exact PySem.W.callWith_K0 I.kIn M.kp (Jl1 (us:=[]) M F hr hb hd hx I .nil h)
end
structure JC (N P:List Str) (sc:Scope):Prop where
 kind:sc.kind=.function
 co:sc.isCoroutine=false
 gen:sc.isGenerator=false
 nd:N.Nodup
 pre:N.take P.length=P
 par:∀ x∈P,sc.names.lookup x=some .local∨sc.names.lookup x=some .cell
 nofree:∀ y∈sc.names,y.2≠.free
theorem Jk6 {kindOf:Str→Option NameKind} {x:Str}:∀ {binds:List (Str×Value)} {m:Str→Option Value},(∀ v,(x,v)∉binds)→bindL kindOf binds m x=m x
 | [],_,_=>rfl
 | (n,v) :: r,m,h=>by
  unfold bindL;rw [Jk6 fun w hw=>h w (List.mem_cons_of_mem _ hw)];split
  ·have:x≠n:=by rintro rfl; exact h v List.mem_cons_self
   simp [this]
  ·rfl
theorem Jk8 {kindOf:Str→Option NameKind} {x:Str}:∀ {binds:List (Str×Value)} {m:Str→Option Value},(∀ v,(x,v)∉binds)→bindC kindOf binds m x=m x
 | [],_,_=>rfl
 | (n,v) :: r,m,h=>by
  unfold bindC;rw [Jk8 fun w hw=>h w (List.mem_cons_of_mem _ hw)];split
  ·rfl
  ·have:x≠n:=by rintro rfl; exact h v List.mem_cons_self
   simp [this]
theorem Jk7 {kindOf:Str→Option NameKind} {x:Str} {v:Value}:∀ {P:List Str} {vs:List Value} {i:Nat} {m:Str→Option Value},P.Nodup→P[i]?=some x→vs[i]?=some v→kindOf x=some .local →
  bindL kindOf (P.zip vs) m x=some v
 | [],_,_,_,_,h,_,_=>by simp at h
 | _ :: _,[],_,_,_,_,h,_=>by simp at h
 | p :: P,w :: vs,0,m,nd,h1,h2,hk=>by
  simp at h1 h2; subst h1; subst h2;show bindL kindOf ((p,w) :: P.zip vs) m p=_;unfold bindL;rw [Jk6 fun v hv=>(List.nodup_cons.mp nd).1 (List.of_mem_zip hv).1,if_pos hk];simp
 | p :: P,w :: vs,i + 1,m,nd,h1,h2,hk=>by
  show bindL kindOf ((p,w) :: P.zip vs) m x=_;unfold bindL;exact Jk7 (i:=i) (List.nodup_cons.mp nd).2 (by simpa using h1) (by simpa using h2) hk
theorem Jk9 {kindOf:Str→Option NameKind} {x:Str} {v:Value}:∀ {P:List Str} {vs:List Value} {i:Nat} {m:Str→Option Value},P.Nodup→P[i]?=some x→vs[i]?=some v→kindOf x≠some .local →
  bindC kindOf (P.zip vs) m x=some v
 | [],_,_,_,_,h,_,_=>by simp at h
 | _ :: _,[],_,_,_,_,h,_=>by simp at h
 | p :: P,w :: vs,0,m,nd,h1,h2,hk=>by
  simp at h1 h2; subst h1; subst h2;show bindC kindOf ((p,w) :: P.zip vs) m p=_;unfold bindC;rw [Jk8 fun v hv=>(List.nodup_cons.mp nd).1 (List.of_mem_zip hv).1,if_neg hk];simp
 | p :: P,w :: vs,i + 1,m,nd,h1,h2,hk=>by
  show bindC kindOf ((p,w) :: P.zip vs) m x=_;unfold bindC;exact Jk9 (i:=i) (List.nodup_cons.mp nd).2 (by simpa using h1) (by simpa using h2) hk
def YI (N:List Str) (vs:List V):St:=vs.map some ++ List.replicate (N.length - vs.length) none
def Z9 (CX:CXT) (P:Program) (w:World) (K:PySem.W.Frag) (mg:Str→Option Value) (base:Heap) (N:List Str) (qual:Str) (scope:Scope) (f:Addr) (cd:Value) (A:Around) (outer:List Env) (s:Shared) (H:Hp) (E:XK):Cx where
 prog:=P
 w:=w
 K:=K
 mg:=mg
 base:=base
 A:=A.deeper (envOfC qual scope s.heap.objs.size f cd)
 N:=N
 s₀:=s
 H₀:=H
 env:=envOfC qual scope s.heap.objs.size f cd
 outer:=outer
 stack:=envOfC qual scope s.heap.objs.size f cd :: outer
 ex:=[]
 calm:=true
 fn:=fun _=>true
 pn:=[]
 xe:=fun e s'=>wpAny (model P w) (A.deeper (envOfC qual scope s.heap.objs.size f cd)) (leaving (envOfC qual scope s.heap.objs.size f cd) e) (fun _ s''=>CX outer H s E e s'') (fun e' s''=>CX outer H s E e' s'') s'
theorem JmK {sc:Scope} {n:Nat} {x:Str} (h:sc.names.lookup x=some .cell):∃ c,(cellsFrom n sc.names []).lookup x=some c:=by
 have q:=PySem.W.cellsFrom_some sc.names n [] (.inl h);exact Option.isSome_iff_exists.mp q
theorem Jpz {CX:CXT} {P:Program} {w:World} {K:PySem.W.Frag} {mg:Str→Option Value} {base:Heap} {N ps:List Str} {qual:Str} {scope:Scope} {f:Addr} {cd:Value} {A:Around} {outer:List Env} {s s1:Shared} {H:Hp} {E:XK} {us:List Value} {vs:List V}
  (S:JC N ps scope) (hd:A.handled=none) (e0:Jfm P w K mg base A outer s H) (hl:vs.length=ps.length) (r:JI vs us)
  (x:InCallC s s.heap.objs.size (bindL (envOfC qual scope s.heap.objs.size f cd).kindOf (ps.zip us) fun _=>none) (cellsFrom (s.heap.objs.size + 1) scope.names []) (bindC (envOfC qual scope s.heap.objs.size f cd).kindOf (ps.zip us) fun _=>none) s1) :
  Jn (Z9 CX P w K mg base N qual scope f cd A outer s H E) [] (YI N vs) H s1:=by
 have hpl:ps.length≤N.length:=by have:=congrArg List.length S.pre; rw [List.length_take] at this; omega
 obtain ⟨h1,tk,rfl,hk⟩:=x.done;have noA:∀ b:Addr,b∉(Z9 CX P w K mg base N qual scope f cd A outer s H E).ex:=fun b z=>absurd (show b∈([]:List Addr) from z) (by simp)
 refine ⟨⟨e0.mod,S.kind,rfl,rfl,Nat.le_refl _,fun y z c h1 h2=>?_,fun y hy=>?_,fun y c _ h=>?_,fun _=>hd,Around.frames_deeper e0.frames,.inr ⟨rfl,rfl⟩,fun b z=>absurd z (noA b),e0.bs,e0.bsz,fun b _ _=>noA b,fun b z=>absurd z (noA b),e0.funs,e0.frf⟩,
  rfl,e0.bare,Un.kept hk,⟨_,x.toInCall.ns,fun i y v h1 h2 h3=>?_⟩,fun y c h=>⟨_,x.cell y c h⟩,e0.hok.fresh (Nat.le_refl _),fun y c h=>?_,fun p hp=>absurd (show p∈([]:List (Addr×Obj)) from hp) (by simp),e0.hok.kept hk,?_⟩
 ·exact name_of_addr x.apart (PySem.mem_of_lookup h1) (PySem.mem_of_lookup h2)
 ·have hy:scope.names.lookup y=some .cell∨scope.names.lookup y=some .free:=hy;rcases hy with hy | hy
  ·exact JmK hy
  ·exact absurd rfl (S.nofree _ (PySem.mem_of_lookup hy))
 ·exact Nat.le_of_lt (x.above y c (PySem.mem_of_lookup h))
 ·have hi:i < vs.length:=by
   unfold YI at h2;by_cases hi:i < vs.length
   ·exact hi
   ·rw [List.getElem?_append_right (by simpa using hi)] at h2;rw [List.getElem?_replicate] at h2;split at h2 <;> cases h2
  have ha:vs[i]?=some v:=by
   unfold YI at h2;rw [List.getElem?_append_left (by simpa using hi),List.getElem?_map] at h2;cases e:vs[i]? with
   | none=>rw [e] at h2; cases h2
   | some a=>rw [e] at h2; cases h2; rfl
  obtain ⟨u,hu,rv⟩:=r.get ha;have hp:ps[i]?=some y:=by
   rw [← S.pre,List.getElem?_take_of_lt (by omega)]; exact h1
  have ndP:ps.Nodup:=by rw [← S.pre]; exact S.nd.sublist (List.take_sublist _ _)
  refine ⟨u,rv,?_⟩;rcases S.par y (List.mem_of_getElem? hp) with k | k
  ·exact .inl ⟨k,Jk7 ndP hp hu k⟩
  ·obtain ⟨c,e⟩:=JmK (n:=s.heap.objs.size + 1) k;refine .inr ⟨.inl k,c,e,?_⟩;have q:=x.cell y c e;rw [Jk9 ndP hp hu (by show scope.names.lookup y≠_; rw [k]; decide)] at q;exact q
 ·exact e0.hok.fresh (Nat.le_of_lt (x.above y c (PySem.mem_of_lookup h)))
 ·unfold YI;show _=N.length;rw [List.length_append,List.length_map,List.length_replicate];omega
theorem JrJ {CX:CXT} {P:Program} {w:World} {K:PySem.W.Frag} {mg:Str→Option Value} {base:Heap} {k:Nat} {f:Addr} {name qual:Str} {params:Arguments} {body:List Stmt} {scope:Scope} {dV kV doc pm cdv ct oc:Value} {an od:Option Addr}
  {osl:Array (Option Value)} {N ps:List Str} {sp:Sp} (lk:K.lookup f=some ⟨oc,od,.func (PySem.W.fnOf name qual params body scope dV kV doc pm an cdv ct),osl⟩) (hcd:PySem.W.codeIn K cdv qual=true) (S:JC N ps scope)
  (len:∀ vs H Q E,sp vs H Q E→vs.length=ps.length)
  (hbody:∀ (A:Around) (outer:List Env) (s:Shared) (H:Hp) (vs:List V) (Q:VK) (E:XK),Y1 k (A.deeper (envOfC qual scope s.heap.objs.size f cdv))→sp vs H Q E →
   ∃ t,PSs (Z9 CX P w K mg base N qual scope f cdv A outer s H E) body t∧t { nx:=fun _ H'=>Q .non H',rt:=Q } (YI N vs) H) :
  JL P w K mg base CX (k + 1) f (PySem.W.fnOf name qual params body scope dV kV doc pm an cdv ct) ps sp:=by
 refine ⟨len,fun A outer s H args us vs Q E hr e0 hb r hsp=>?_⟩;have hl:=len _ _ _ _ hsp;have KX:K.In s.heap:=e0.mod.kin.keeps fun b o e=>(e0.bs b o e).1
 have lim:s.heap.NoLimit:=e0.mod.nolimit.keeps fun b o e=>(e0.bs b o e).1
 have hkind:∀ y∈ps.zip us,scope.names.lookup y.1=some .local∨(scope.names.lookup y.1=some .cell∧((cellsFrom (s.heap.objs.size + 1) scope.names []).lookup y.1).isSome=true):=fun ⟨n,v⟩ hy=>by
  rcases S.par n (List.of_mem_zip hy).1 with q | q
  ·exact .inl q
  ·exact .inr ⟨q,PySem.W.cellsFrom_some _ _ _ (.inl q)⟩
 refine codeAny_call_function hr.depth (KX _ _ lk) rfl S.co S.gen rfl (PySem.W.codeRec_of KX hcd) (hb _ _ _ _ ?_);refine wpAny_newFunctionEnv_cells S.kind hkind fun env he s1 x=>?_
 subst he;refine ⟨lim.keeps x.toInCall.keep,codeAny_func ?_⟩;obtain ⟨t,ht,hq⟩:=hbody A outer s H vs Q E (hr.deeper _) hsp;have I:Jn (Z9 CX P w K mg base N qual scope f cdv A outer s H E) [] (YI N vs) H s1:=Jpz S hr.hd e0 hl r x;refine wpAny_mono (ht [] s1 (YI N vs) H _ I hq) (fun fl s' hs=>?_) fun e s' hs=>hs
 have fin:∀ {σ':St} {H':Hp} {v:V} {u:Value},Jn (Z9 CX P w K mg base N qual scope f cdv A outer s H E) [] σ' H' s'→JR v u→Q v H'→CE outer P w H s Q u s' :=
  fun {σ' H' v u} J rv q=>⟨v,H',J.os,J.bare,J.base,J.hok,rv,q⟩
 cases fl with
 | ret u =>
  obtain ⟨v,σ',H',J,rv,q⟩:=hs;exact fin J rv q
 | next =>
  obtain ⟨σ',H',J,q⟩:=hs;exact fin (v:=V.non) (u:=Value.none) J rfl q
 | brk =>
  obtain ⟨_,_,_,q⟩:=hs;exact False.elim q
 | cont =>
  obtain ⟨_,_,_,q⟩:=hs;exact False.elim q
end L2
namespace L2
open PySem PySem.Spec PyProof.Rows
section
variable {X:Cx} {x:Str} {p pos:Pos} {e:Expr} {es:List Expr} {t:TA} {id T:String} {r:List V→Hp→VK→Prop}
def tCB (r:List V→Hp→VK→Prop) (t:TA):TE:=fun σ H Q=>t σ H fun vs H1=>r vs H1 Q
theorem JH (hc:Yv X (.builtin id) r) (hg:Gl X x) (hm:X.mg x=none) (hv:bootBuiltins x=some (.builtin id)) (ha:PA X (e :: es) t) (hn:x ≠ "__name__":=by decide) (hdb:(x == ("__debug__" : Str))=false:=by decide)
  (he:starEach (e :: es) X.env=(false,eval e X.env) :: starEach es X.env:=by rfl) (hpl:(backTo pos (starEach es X.env)).any (·.1)=false:=by rfl):PE X (.Call (.Name x p) (e :: es) [] pos) (tCB r t):=by
 intro pins s σ H Q I h;refine wpAny_Call_Name_kw (JgY I hg hm hv ?_ hn hdb);exact PyProof.Rows.callWith_builtin1 (JY (ha pos pins s σ H _ I h) fun us s1 ⟨vs,H1,I1,r1,q1⟩=>hc pins s1 σ H1 vs us Q I1 r1 q1) he hpl
theorem Y2 (hc:Yv X (.type T) r) (hg:Gl X x) (hm:X.mg x=none) (hv:bootBuiltins x=some (.type T)) (ha:PA X (e :: es) t) (hn:x ≠ "__name__":=by decide) (hdb:(x == ("__debug__" : Str))=false:=by decide)
  (he:starEach (e :: es) X.env=(false,eval e X.env) :: starEach es X.env:=by rfl) (hpl:(backTo pos (starEach es X.env)).any (·.1)=false:=by rfl):PE X (.Call (.Name x p) (e :: es) [] pos) (tCB r t):=by
 intro pins s σ H Q I h;refine wpAny_Call_Name_kw (JgY I hg hm hv ?_ hn hdb);exact PyProof.Rows.callWith_type1 (JY (ha pos pins s σ H _ I h) fun us s1 ⟨vs,H1,I1,r1,q1⟩=>hc pins s1 σ H1 vs us Q I1 r1 q1) he hpl
end
end L2
namespace HT
open PySem PyProof.Rows
section
variable {prog:Program} {w:World} {A:Around} {E:Value→Shared→Prop} {s:Shared}
def sIx (n d:Nat):Option Int→Nat
 | none=>d
 | some v=>if v < 0 then (v + (n:Int)).toNat else min v.toNat n
theorem JqI (n d:Nat):sIx n d none=d:=rfl
theorem Jnr (n d k:Nat):sIx n d (some (k:Int))=min k n:=by
 show (if (k:Int) < 0 then ((k:Int) + (n:Int)).toNat else min (k:Int).toNat n)=min k n;rw [if_neg (by omega),Int.toNat_natCast]
end
end HT
namespace L2
open PySem PySem.Spec PyProof.Rows
abbrev TO:=St→Hp→(Option Int→Hp→Prop)→Prop
def PO (X:Cx) (e:Option Expr) (t:TO):Prop :=
 ∀ (pins:List (Addr×Obj)) (s:Shared) (σ:St) (H:Hp) (Q:Option Int→Hp→Prop),Jn X pins σ H s→t σ H Q →
  wpAny (model X.prog X.w) X.A (evalPart e X.env) (fun u s'=>∃ o H',Jn X pins σ H' s'∧IsPart u o∧Q o H') X.xe s
def JrQ:TO:=fun _ H Q=>Q none H
def JtK (t:TE):TO:=fun σ H Q=>t σ H fun x H1=>∃ i,x=.int i∧Q (some i) H1
section
variable {X:Cx} {e:Expr} {te:TE} {lo hi:Option Expr} {tl th:TO} {pos p2:Pos}
theorem Jnv:PO X none JrQ:=by
 intro pins s σ H Q I h;rw [evalPart_none];exact wpAny_pure ⟨none,H,I,.none,h⟩
theorem JhG (h:PE X e te):PO X (some e) (JtK te):=by
 intro pins s σ H Q I hw;rw [evalPart_some];refine JY (h pins s σ H _ I hw) fun u s1 ⟨x,H1,I1,r1,q1⟩=>?_
 obtain ⟨i,rfl,q⟩:=q1;obtain ⟨t,rfl⟩:=r1;exact ⟨some i,H1,I1,.int i t,q⟩
def SlR (X:Cx) (r:V→Option Int→Option Int→Hp→VK→Prop):Prop :=
 ∀ (pins:List (Addr×Obj)) (s:Shared) (σ:St) (H:Hp) (x:V) (v vl vu:Value) (lo hi:Option Int) (sl:Addr) (Q:VK),Jn X pins σ H s→JR x v→s.heap.IsSliceOf sl vl vu .none→IsPart vl lo→IsPart vu hi→r x lo hi H Q →
  ∃ T id,typeLookup (.type T) "__getitem__" = pure (some (.builtin id))∧s.TypeIs v T∧wpAny (model X.prog X.w) X.A (getItem v (.ref sl)) (EP X pins σ Q) X.xe s
def tSl (r:V→Option Int→Option Int→Hp→VK→Prop) (te:TE) (tl th:TO):TE:=fun σ H Q=>te σ H fun x H1=>tl σ H1 fun l H2=>th σ H2 fun u H3=>r x l u H3 Q
theorem Jit {r:V→Option Int→Option Int→Hp→VK→Prop} (hr:SlR X r) (he:PE X e te) (hl:PO X lo tl) (hu:PO X hi th):PE X (.Subscript e (.Slice lo hi none p2) pos) (tSl r te tl th):=by
 intro pins s σ H Q I h;refine Subscript_ (JY (he pins s σ H _ I h) fun v s1 ⟨x,H1,I1,r1,q1⟩=>?_);refine wpAny_Slice (JY (hl pins s1 σ H1 _ I1 q1) fun vl s2 ⟨l,H2,I2,pl,q2⟩=>JY (hu pins s2 σ H2 _ I2 q2) fun vu s3 ⟨u,H3,I3,pu,q3⟩=>?_);rw [evalPart_none];refine wpAny_pure ?_;have I4:Jn X pins σ H3 { s3 with heap:=s3.heap.push { cls:=.type "slice",data:=.fields #[vl,vu,.none] } }:=I3.kept (t':=s3.toks) fun b ob q=>Heap.get?_push_of_some _ q
 obtain ⟨T,id,hT,ht,hg⟩:=hr pins { s3 with heap:=s3.heap.push { cls:=.type "slice",data:=.fields #[vl,vu,.none] } } σ H3 x v vl vu l u s3.heap.objs.size Q I4 r1 (Heap.IsSliceOf.new ..) pl pu q3;show wpAny (model X.prog X.w) X.A (subscriptTail e (.Slice lo hi none p2) v (.ref s3.heap.objs.size)) (EP X pins σ Q) X.xe { s3 with heap:=s3.heap.push { cls:=.type "slice",data:=.fields #[vl,vu,.none] } };exact tail_any (ops:=[.ref s3.heap.objs.size,v]) ht hT hg (by with_unfolding_all rfl)
def Jbe (xs:List V) (lo hi:Option Int):List V:=(xs.drop (HT.sIx xs.length 0 lo)).take (HT.sIx xs.length xs.length hi - HT.sIx xs.length 0 lo)
theorem Jne (xs:List V) (lo hi:Option Int):(Jbe xs lo hi).length≤xs.length:=by
 unfold Jbe;rw [List.length_take,List.length_drop];omega
end
end L2
namespace L2
open PySem PySem.Spec PyProof.Rows
def ixN (n:Nat) (i:Int):Option Nat:=if 0≤i then (if i < n then some i.toNat else none) else if -(n:Int)≤i then some (i + n).toNat else none
def atI {α:Type} (xs:List α) (i:Int):Option α:=(ixN xs.length i).bind fun j=>xs[j]?
theorem JnA {n:Nat} {i:Int} {j:Nat} (h:ixN n i=some j):seqIndex? i n=some j∧j < n∧-(n:Int)≤i∧i < n:=by
 unfold ixN at h;by_cases h0:0≤i
 ·rw [if_pos h0] at h;by_cases h1:i < n
  ·rw [if_pos h1] at h;have e:i.toNat=j:=Option.some.inj h;exact ⟨by rw [seqIndex_of h0 h1,e],by omega,by omega,h1⟩
  ·rw [if_neg h1] at h; cases h
 ·rw [if_neg h0] at h;by_cases h1:-(n:Int)≤i
  ·rw [if_pos h1] at h;have e:(i + n).toNat=j:=Option.some.inj h;exact ⟨by rw [seqIndex_neg (by omega) h1,e],by omega,h1,by omega⟩
  ·rw [if_neg h1] at h; cases h
theorem JkB {α:Type} {xs:List α} {i:Int} {v:α} (h:atI xs i=some v):∃ j,seqIndex? i xs.length=some j∧xs[j]?=some v∧j < xs.length∧-(xs.length:Int)≤i∧i < xs.length:=by
 unfold atI at h;cases e:ixN xs.length i with
 | none=>rw [e] at h; cases h
 | some j =>
  rw [e] at h;obtain ⟨h1,h2,h3,h4⟩:=JnA e;exact ⟨j,h1,h,h2,h3,h4⟩
theorem YD {α:Type} {xs:List α} {j:Nat} {v:α} (h:xs[j]?=some v):atI xs (j:Int)=some v:=by
 have hj:j < xs.length:=(List.getElem?_eq_some_iff.mp h).1;have e:ixN xs.length (j:Int)=some j:=by
  unfold ixN;rw [if_pos (by omega),if_pos (by omega)]; simp
 unfold atI; rw [e]; exact h
def JsE (b:Expr):Prop:=∀ o i,subscripted b false o i=operate [o,i] (getItem o i)
def IxR (X:Cx) (r:R2):Prop :=
 ∀ (value slice:Expr) (pins:List (Addr×Obj)) (s:Shared) (σ:St) (H:Hp) (x y:V) (v u:Value) (Q:VK),Jn X pins σ H s→JR x v→JR y u→r x y H Q →
  subscripted slice false v u=operate [v,u] (getItem v u)→wpAny (model X.prog X.w) X.A (subscriptTail value slice v u) (EP X pins σ Q) X.xe s
def MtR (X:Cx) (id:String) (r:V→List V→Hp→VK→Prop):Prop :=
 ∀ (pins:List (Addr×Obj)) (s:Shared) (σ:St) (H:Hp) (x:V) (xs:List V) (v:Value) (us:List Value) (Q:VK),Jn X pins σ H s→JR x v→JI xs us→r x xs H Q →
  wpAny (model X.prog X.w) X.A (call (.builtin id) (v :: us)) (EP X pins σ Q) X.xe s
section
variable {X:Cx} {a b:Expr} {ta tb:TE} {pos:Pos}
theorem Jr {r:R2} (hr:IxR X r) (ha:PE X a ta) (hb:PE X b tb) (hs:JsE b):PE X (.Subscript a b pos) (tOp r ta tb):=by
 intro pins s σ H Q I h;exact Subscript_ (Jrg ha hb I h fun v u s2 x y H2 I2 rx ry q=>hr a b pins s2 σ H2 x y v u Q I2 rx ry q (hs _ _))
def JgF (K:PySem.W.Frag):R2:=fun x y H Q=>∃ p xs i v,x=.ref p∧y=.int i∧Jp K H p xs∧atI xs i=some v∧Q v H
def Jir (K:PySem.W.Frag):R2:=fun x y H Q=>∃ p xs i v,x=.ref p∧y=.int i∧JX K H p xs∧atI xs i=some v∧Q v H
def JuI:R2:=fun x y H Q=>∃ z i c,x=.str z∧y=.int i∧z.length≤sizeLine∧atI z.cps.toList i=some c∧Q (.str ⟨#[c]⟩) H
theorem JE:IxR X (JgF X.K):=by
 intro value slice pins s σ H x y v u Q I rx ry h hs;obtain ⟨p,xs,i,z,rfl,rfl,hq,he,q⟩:=h;cases rx;obtain ⟨t,rfl⟩:=ry;obtain ⟨its,r,pl,hz⟩:=I.list hq;obtain ⟨j,h1,h2,h3,h4,h5⟩:=JkB he;obtain ⟨w,ew,rw'⟩:=r.get h2;have hl:=r.length;have hn:=JfE;have fin:EP X pins σ Q w s:=⟨z,H,I,rw',q⟩
 by_cases h0:0≤i
 ·have hj:i.toNat=j:=by
   rw [seqIndex_of h0 h5] at h1;exact Option.some.inj h1
  exact item_listR pl.isList h0 (by omega) (by rw [hj]; simpa using ew) fin hs
 ·have hj:(i + (its.toArray.size:Int)).toNat=j:=by
   rw [seqIndex_neg (by omega) h4] at h1;rw [List.size_toArray,← hl];exact Option.some.inj h1
  exact subscriptTail_builtinR (x:=w) pl.isList.typeIs slot_list_getitem.lookup
   (wpAny_getItem_list_neg (Q:=fun r s'=>r=w∧EP X pins σ Q r s') pl.isList (by omega) (by rw [List.size_toArray] <;> omega) (by omega) (by rw [hj]; simpa using ew) ⟨rfl,fin⟩) hs
theorem Yg:IxR X (Jir X.K):=by
 intro value slice pins s σ H x y v u Q I rx ry h hs;obtain ⟨p,xs,i,z,rfl,rfl,hq,he,q⟩:=h;cases rx;obtain ⟨t,rfl⟩:=ry;obtain ⟨its,r,pl,hz⟩:=I.tuple hq;obtain ⟨j,h1,h2,h3,h4,h5⟩:=JkB he;obtain ⟨w,ew,rw'⟩:=r.get h2;have hl:=r.length;have hn:=JfE;have fin:EP X pins σ Q w s:=⟨z,H,I,rw',q⟩
 exact subscriptTail_builtinR (x:=w) pl.typeIs slot_tuple_getitem.lookup
  (getItem_tuple (j:=j) (Q:=fun r s'=>r=w∧EP X pins σ Q r s') pl (by omega) (by omega) (by rw [List.size_toArray,← hl]; exact h1) (by simpa using ew) ⟨rfl,fin⟩) hs
theorem Jpx:IxR X JuI:=by
 intro value slice pins s σ H x y v u Q I rx ry h hs;obtain ⟨z,i,c,rfl,rfl,hz,he,q⟩:=h;obtain ⟨t,rfl⟩:=rx;obtain ⟨t',rfl⟩:=ry;obtain ⟨j,h1,h2,h3,h4,h5⟩:=JkB he;have hl:z.cps.toList.length=z.length:=by simp [Str.length]
 rw [hl] at h1 h4 h5;have hn:=JfE;exact tail_any (typeIs_str s z t) slot_str_getitem.lookup (getItem_str (c:=c) (by
  have e1:decide (i < -(2 ^ 63:Int))=false:=decide_eq_false (by omega);have e2:decide (i≥2 ^ 63)=false:=decide_eq_false (by omega);rw [e1,e2,Bool.or_false]) (by rw [h1]; simpa using h2) ⟨.str ⟨#[c]⟩,H,I.tok _,⟨_,rfl⟩,q⟩) hs
theorem Jok (its:List Value) (n j:Nat) (u:Value):Obj.mapSeq (·.setIfInBounds j u) { cls:=.type "list",data:=.seq its.toArray n }={ cls:=.type "list",data:=.seq (its.set j u).toArray n }:=by
 simp [Obj.mapSeq]
theorem Jn.lst {pins:List (Addr×Obj)} {σ:St} {H:Hp} {s:Shared} {p:Addr} {xs:List V} (I:Jn X pins σ H s) (h:H p=some (.lst xs)) :
  ∃ (its:List Value) (n:Nat),JI xs its∧s.heap.get? p=some { cls:=.type "list",data:=.seq its.toArray n }∧xs.length≤sizeLine:=by
 obtain ⟨z,its,n,r,e⟩:=I.hok p _ h;exact ⟨its,n,r,e,z⟩
theorem Jn.lstUpd {pins:List (Addr×Obj)} {σ:St} {H:Hp} {s:Shared} {p:Addr} {xs ys:List V} {its its':List Value} {n n':Nat} {f:Obj→Obj} (I:Jn X pins σ H s) (h:H p=some (.lst xs))
  (ho:s.heap.get? p=some { cls:=.type "list",data:=.seq its.toArray n }) (hf:f { cls:=.type "list",data:=.seq its.toArray n }={ cls:=.type "list",data:=.seq its'.toArray n' }) (r:JI ys its') (hz:ys.length≤sizeLine) (t:Nat) :
  Jn X pins σ (upd H p (.lst ys)) { s with heap:=s.heap.update p f,toks:=t }:=by
 have e:(s.heap.update p f).get? p=some { cls:=.type "list",data:=.seq its'.toArray n' }:=by
  rw [Heap.get?_update_self f ho (by rw [hf] <;> rfl),hf]
 refine I.write (x:=p) (e:=p) (by rw [h]; trivial) (.inl rfl) (fun b u hb q=>(Heap.get?_update_other _ _ (Ne.symm hb)).trans q) ⟨_,e⟩ ?_;exact ⟨hz,its',n',r,e⟩
def JtX:V→V→V→Hp→(Hp→Prop)→Prop:=fun o i v H Q=>∃ p xs k j,o=.ref p∧i=.int k∧H p=some (.lst xs)∧ixN xs.length k=some j∧Q (upd H p (.lst (xs.set j v)))
theorem Jqv:JtD X JtX:=by
 intro pins s σ H o i v ov iv u Q I ro ri rv h;obtain ⟨p,xs,k,j,rfl,rfl,hp,hj,q⟩:=h;cases ro;obtain ⟨t,rfl⟩:=ri;obtain ⟨its,n,r,ho,hz⟩:=I.lst hp;obtain ⟨h1,h2,h3,h4⟩:=JnA hj;have hl:=r.length;have hn:=JfE;have I':Jn X pins σ (upd H p (.lst (xs.set j v))) { s with heap:=s.heap.update p (Obj.mapSeq (·.setIfInBounds j u)) } :=
  I.lstUpd hp ho (Jok its n j u) (r.set rv j) (by rw [List.length_set]; exact hz) s.toks
 by_cases h0:0≤k
 ·have hk:k.toNat=j:=by
   rw [seqIndex_of h0 h4] at h1;exact Option.some.inj h1
  exact PySem.W.ki_setAt ho h0 (by omega) (by rw [List.size_toArray,← hl]; exact h4) (by rw [hk]; exact ⟨_,I',q⟩)
 ·have hk:(k + (its.toArray.size:Int)).toNat=j:=by
   rw [seqIndex_neg (by omega) h3] at h1;rw [List.size_toArray,← hl];exact Option.some.inj h1
  exact PySem.W.ki_setBack ho (by omega) (by rw [List.size_toArray,← hl]; exact h3) (by omega) (by rw [hk]; exact ⟨_,I',q⟩)
theorem JlQ (lo hi:Option Int) (n:Nat):(sliceBounds lo hi none n).1=((HT.sIx n 0 lo:Nat):Int)∧(sliceBounds lo hi none n).2.1=((HT.sIx n n hi:Nat):Int)∧(sliceBounds lo hi none n).2.2=1:=by
 refine ⟨?_,?_,rfl⟩
 ·cases lo with
  | none=>simp [sliceBounds,HT.sIx]
  | some i =>
   simp only [sliceBounds,HT.sIx,Option.getD_none,show (1:Int) > 0 by decide,if_true];by_cases h:i < 0
   ·simp only [h,if_true] <;> omega
   ·simp only [h,if_false] <;> omega
 ·cases hi with
  | none=>simp [sliceBounds,HT.sIx]
  | some i =>
   simp only [sliceBounds,HT.sIx,Option.getD_none,show (1:Int) > 0 by decide,if_true];by_cases h:i < 0
   ·simp only [h,if_true] <;> omega
   ·simp only [h,if_false] <;> omega
theorem Jle (its:List Value) (lo hi:Option Int):slicePick its.toArray lo hi none=((its.drop (HT.sIx its.length 0 lo)).take (HT.sIx its.length its.length hi - HT.sIx its.length 0 lo)).toArray:=by
 obtain ⟨h1,h2,h3⟩:=JlQ lo hi its.toArray.size;unfold slicePick;rw [h1,h2,h3];simp only [sliceRange_one,pick_run,List.size_toArray] <;> rfl
def JuG (K:PySem.W.Frag):V→Option Int→Option Int→Hp→VK→Prop:=fun x lo hi H Q=>∃ a xs,x=.ref a∧Jp K H a xs∧∀ p,H p=none→Q (.ref p) (upd H p (.lst (Jbe xs lo hi)))
theorem JjU:SlR X (JuG X.K):=by
 intro pins s σ H x v vl vu lo hi sl Q I rx hs pl pu h;obtain ⟨a,xs,rfl,hx,q⟩:=h;cases rx;obtain ⟨its,r,ht,hz⟩:=I.list hx;have hlen:=r.length;refine ⟨"list",_,slot_list_getitem.lookup,ht.isList.typeIs,?_⟩;refine wpAny_getItem_list_slice ht.isList hs pl pu .none (by simp) ?_ (by rw [List.size_toArray] <;> omega);rw [Jle,← hlen];refine ⟨.ref s.heap.objs.size,_,I.laid (t':=s.toks) (o:=.lst (Jbe xs lo hi)) (fun b ob q=>Heap.get?_push_of_some _ q) (Nat.le_refl _) ?_,rfl,q _ (I.hok.fresh (Nat.le_refl _))⟩;exact ⟨Nat.le_trans (Jne xs lo hi) hz,_,0,(r.drop (HT.sIx xs.length 0 lo)).take (HT.sIx xs.length xs.length hi - HT.sIx xs.length 0 lo),Heap.get?_push_size _ rfl⟩
def JdQ:V→Bool
 | .non=>true
 | .bl _=>true
 | .int _=>true
 | .str _=>true
 | _=>false
def eqV:V→V→Bool
 | .non,.non=>true
 | .bl a,.bl b=>a == b
 | .bl a,.int b=>(if a then 1 else 0) == b
 | .int a,.bl b=>a == (if b then 1 else 0)
 | .int a,.int b=>a == b
 | .str a,.str b=>a == b
 | _,_=>false
theorem Jtw {A:Around} {s:Shared} {y x:V} {u v:Value} (ry:JR y u) (rx:JR x v) (fy:JdQ y=true) (fx:JdQ x=true):SeqAt.EqAt A s u v (eqV y x):=by
 cases y with
 | non =>
  cases ry;cases x with
  | non=>cases rx; exact SeqAt.EqAt.same _
  | bl b=>cases rx; exact SeqAt.EqAt.none_bool b
  | int b=>obtain ⟨t,rfl⟩:=rx; exact SeqAt.EqAt.none_int b t
  | str b=>obtain ⟨t,rfl⟩:=rx; exact SeqAt.EqAt.none_str b t
  | _=>exact absurd (show false=true from fx) Bool.false_ne_true
 | bl a =>
  cases ry;cases x with
  | non=>cases rx; exact SeqAt.EqAt.bool_none a
  | bl b=>cases rx; exact SeqAt.EqAt.bool_bool a b
  | int b=>obtain ⟨t,rfl⟩:=rx; exact SeqAt.EqAt.bool_int a b t
  | str b=>obtain ⟨t,rfl⟩:=rx; exact SeqAt.EqAt.bool_str a b t
  | _=>exact absurd (show false=true from fx) Bool.false_ne_true
 | int a =>
  obtain ⟨t',rfl⟩:=ry;cases x with
  | non=>cases rx; exact SeqAt.EqAt.int_none a t'
  | bl b=>cases rx; exact SeqAt.EqAt.int_bool a t' b
  | int b=>obtain ⟨t,rfl⟩:=rx; exact SeqAt.EqAt.int_int a t' b t
  | str b=>obtain ⟨t,rfl⟩:=rx; exact SeqAt.EqAt.int_str a t' b t
  | _=>exact absurd (show false=true from fx) Bool.false_ne_true
 | str a =>
  obtain ⟨t',rfl⟩:=ry;cases x with
  | non=>cases rx; exact SeqAt.EqAt.str_none a t'
  | bl b=>cases rx; exact SeqAt.EqAt.str_bool a t' b
  | int b=>obtain ⟨t,rfl⟩:=rx; exact SeqAt.EqAt.str_int a t' b t
  | str b=>obtain ⟨t,rfl⟩:=rx; exact SeqAt.EqAt.str_str a t' b t
  | _=>exact absurd (show false=true from fx) Bool.false_ne_true
 | _=>exact absurd (show false=true from fy) Bool.false_ne_true
def eqU (x:V) (u:Value):Bool:=match u with
 | .none=>eqV .non x
 | .bool b=>eqV (.bl b) x
 | .int i _=>eqV (.int i) x
 | .str z _=>eqV (.str z) x
 | _=>false
theorem JpI {x y:V} {u:Value} (r:JR y u) (f:JdQ y=true):eqU x u=eqV y x:=by
 cases y with
 | non=>cases r; rfl
 | bl b=>cases r; rfl
 | int i=>obtain ⟨t,rfl⟩:=r; rfl
 | str z=>obtain ⟨t,rfl⟩:=r; rfl
 | _=>exact absurd (show false=true from f) Bool.false_ne_true
theorem JfP {x:V}:∀ {xs:List V} {us:List Value},JI xs us→xs.all JdQ=true→us.any (eqU x)=xs.any fun y=>eqV y x
 | _,_,.nil,_=>rfl
 | y :: xs,u :: us,.cons r t,f=>by
  rw [List.all_cons,Bool.and_eq_true] at f;rw [List.any_cons,List.any_cons,JpI r f.1,JfP t f.2]
theorem Jek {A:Around} {s:Shared} {x:V} {v:Value} (rx:JR x v) (fx:JdQ x=true):∀ {xs:List V} {us:List Value},JI xs us→xs.all JdQ=true→∀ u∈us,SeqAt.EqAt A s u v (eqU x u)
 | _,_,.nil,_=>fun u hu=>by cases hu
 | y :: xs,u :: us,.cons r t,f=>fun u' hu=>by
  rw [List.all_cons,Bool.and_eq_true] at f;rcases List.mem_cons.mp hu with rfl | hu
  ·rw [JpI r f.1]; exact Jtw r rx f.1 fx
  ·exact Jek rx fx t f.2 u' hu
def inV (x:V) (xs:List V):Bool:=xs.any fun y=>eqV y x
def rIn (K:PySem.W.Frag) (neg:Bool):R2:=fun x y H Q=>∃ p xs,y=.ref p∧(Jp K H p xs∨JX K H p xs)∧JdQ x=true∧xs.all JdQ=true∧Q (.bl (if neg then !inV x xs else inV x xs)) H
theorem JgO:Z7 X (compareOp .In) (rIn X.K false):=by
 intro pins s σ H x y v u Q I rx ry h;obtain ⟨p,xs,rfl,hq,fx,fs,q⟩:=h;cases ry;rcases hq with hq | hq
 ·obtain ⟨its,r,pl,hz⟩:=I.list hq;refine SeqAt.in_listAt (eqU x) pl.isList (fun w hw=>Jek rx fx r fs w (by simpa using hw)) ⟨.bl _,H,I,rfl,?_⟩;rw [show its.toArray.any (eqU x)=its.any (eqU x) by simp,JfP r fs];exact q
 ·obtain ⟨its,r,pl,hz⟩:=I.tuple hq;refine SeqAt.in_tupleAt (eqU x) pl (fun w hw=>Jek rx fx r fs w (by simpa using hw)) ⟨.bl _,H,I,rfl,?_⟩;rw [show its.toArray.any (eqU x)=its.any (eqU x) by simp,JfP r fs];exact q
theorem JbX:Z7 X (compareOp .NotIn) (rIn X.K true):=by
 intro pins s σ H x y v u Q I rx ry h;obtain ⟨p,xs,rfl,hq,fx,fs,q⟩:=h;cases ry;rcases hq with hq | hq
 ·obtain ⟨its,r,pl,hz⟩:=I.list hq;refine SeqAt.notIn_listAt (eqU x) pl.isList (fun w hw=>Jek rx fx r fs w (by simpa using hw)) ⟨.bl _,H,I,rfl,?_⟩;rw [show its.toArray.any (eqU x)=its.any (eqU x) by simp,JfP r fs];exact q
 ·obtain ⟨its,r,pl,hz⟩:=I.tuple hq;refine SeqAt.notIn_tupleAt (eqU x) pl (fun w hw=>Jek rx fx r fs w (by simpa using hw)) ⟨.bl _,H,I,rfl,?_⟩;rw [show its.toArray.any (eqU x)=its.any (eqU x) by simp,JfP r fs];exact q
theorem Yr:Yv X (.builtin "len") (fun xs H Q=>∃ p ys,xs=[.ref p]∧(Jp X.K H p ys∨JX X.K H p ys)∧Q (.int ys.length) H):=by
 intro pins s σ H xs us Q I r h;obtain ⟨p,ys,rfl,hq,q⟩:=h;obtain ⟨u,rfl,rx⟩:=JfS r;cases rx;have hn:=JfE;rcases hq with hq | hq
 ·obtain ⟨its,r',pl,hz⟩:=I.list hq;have hlen:=r'.length;exact Calls.call_len_list pl.isList (by simp only [List.size_toArray] <;> omega) ⟨.int ys.length,H,I.tok _,⟨s.toks + 1,by rw [List.size_toArray,hlen]⟩,q⟩
 ·obtain ⟨its,r',pl,hz⟩:=I.tuple hq;have hlen:=r'.length;exact len_tuple pl (by simp only [List.size_toArray] <;> omega) ⟨.int ys.length,H,I.tok _,⟨s.toks + 1,by rw [List.size_toArray,hlen]⟩,q⟩
theorem Jhn:Yv X (.builtin "len") (fun xs H Q=>∃ z,xs=[.str z]∧z.length≤sizeLine∧Q (.int z.length) H):=by
 intro pins s σ H xs us Q I r h;obtain ⟨z,rfl,hz,q⟩:=h;obtain ⟨u,rfl,t,rfl⟩:=JfS r;have hn:=JfE;exact len_str (by omega) ⟨.int z.length,H,I.tok _,⟨_,rfl⟩,q⟩
theorem JeK:Yv X (.type "list") (fun xs H Q=>∃ p ys,xs=[.ref p]∧(Jp X.K H p ys∨JX X.K H p ys)∧∀ l,H l=none→Q (.ref l) (upd H l (.lst ys))):=by
 intro pins s σ H xs us Q I r h;obtain ⟨p,ys,rfl,hq,q⟩:=h;obtain ⟨u,rfl,rx⟩:=JfS r;cases rx;have fin:∀ (its:List Value),JI ys its→ys.length≤sizeLine→∀ (h':Heap) (c':Nat),(∀ b o',s.heap.get? b=some o'→h'.get? b=some o') →
   h'.get? s.heap.objs.size=some { cls:=.type "list",dict:=none,data:=.seq its.toArray c',slots:=#[] }→EP X pins σ Q (.ref s.heap.objs.size) { s with heap:=h' }:=fun its r' hz h' c' kp e =>
  ⟨.ref s.heap.objs.size,_,I.laid (t':=s.toks) kp (Nat.le_refl _) (show YA X.prog X.w _ h' _ (.lst ys) from ⟨hz,its,c',r',e⟩),rfl,q _ (I.hok.fresh (Nat.le_refl _))⟩
 rcases hq with hq | hq
 ·obtain ⟨its,r',pl,hz⟩:=I.list hq;have hlen:=r'.length;obtain ⟨o,ho,hc,n,hd⟩:=pl.isList;exact call_list_seq p (.inl rfl) ho hc hd (fun h' c' kp e=>fin its r' hz h' c' kp e) (by simp only [List.size_toArray] <;> omega)
 ·obtain ⟨its,r',pl,hz⟩:=I.tuple hq;have hlen:=r'.length;obtain ⟨o,ho,hc,n,hd⟩:=pl;exact call_list_seq p (.inr rfl) ho hc hd (fun h' c' kp e=>fin its r' hz h' c' kp e) (by simp only [List.size_toArray] <;> omega)
theorem Jbo:Yv X (.type "tuple") (fun xs H Q=>∃ p ys,xs=[.ref p]∧((Jp X.K H p ys∧∀ l,H l=none→Q (.ref l) (upd H l (.tup ys)))∨(JX X.K H p ys∧Q (.ref p) H))):=by
 intro pins s σ H xs us Q I r h;obtain ⟨p,ys,rfl,h⟩:=h;obtain ⟨u,rfl,rx⟩:=JfS r;cases rx;rcases h with ⟨hq,q⟩ | ⟨hq,q⟩
 ·obtain ⟨its,r',pl,hz⟩:=I.list hq;have hlen:=r'.length;refine call_tuple_list pl.isList (fun h' kp=>?_) (by simp only [List.size_toArray] <;> omega);have I1:Jn X pins σ H { s with heap:=h' }:=I.kept (t':=s.toks) kp;have I2:Jn X pins σ (upd H h'.objs.size (.tup ys)) { s with heap:=h'.push { cls:=.type "tuple",data:=.seq its.toArray } } :=
   I1.laid (t':=s.toks) (fun b o e=>Heap.get?_push_of_some _ e) (Nat.le_refl _) (show YA X.prog X.w _ _ _ (.tup ys) from ⟨hz,its,r',IsTup.new _ _⟩)
  exact ⟨.ref h'.objs.size,_,I2,rfl,q _ (I1.hok.fresh (Nat.le_refl _))⟩
 ·obtain ⟨its,r',pl,hz⟩:=I.tuple hq;exact call_tuple_same pl ⟨.ref p,H,I,rfl,q⟩
def tyV (K:PySem.W.Frag) (T:String) (x:V) (H:Hp):Prop:=match x with
 | .str _=>T = "str"
 | .int _=>T = "int"
 | .ref p=>(T = "list"∧∃ xs,Jp K H p xs)∨(T = "tuple"∧∃ o,K.lookup p=some o∧o.cls=.type "tuple"∧o.dict=none) ∨
   (T = "dict"∧((∃ kvs,H p=some (.dK kvs))∨∃ kvs,H p=some (.dT kvs)))∨(T = "set"∧∃ S n,H p=some (.set S n))
 | _=>False
theorem JsH {pins:List (Addr×Obj)} {σ:St} {H:Hp} {s:Shared} {T:String} {x:V} {v:Value} (I:Jn X pins σ H s) (r:JR x v) (ty:tyV X.K T x H) :
  s.TypeIs v T∧∀ a,v=.ref a→∃ ob,s.heap.get? a=some ob∧ob.dict=none:=by
 cases x with
 | str z =>
  obtain ⟨t,rfl⟩:=r;cases (show T = "str" from ty);exact ⟨typeIs_str s z t,fun _ e=>nomatch e⟩
 | int i =>
  obtain ⟨t,rfl⟩:=r;cases (show T = "int" from ty);exact ⟨typeIs_int s i t,fun _ e=>nomatch e⟩
 | ref p =>
  cases r;rcases ty with ⟨rfl,xs,hq⟩ | ⟨rfl,o,hk,hc,hd⟩ | ⟨rfl,hk⟩ | ⟨rfl,S,n,hk⟩
  ·obtain ⟨its,_,pl,_⟩:=I.list hq;refine ⟨pl.isList.typeIs,fun a e=>?_⟩;cases e;obtain ⟨o,n,e,c,hd,_⟩:=pl;exact ⟨o,e,hd⟩
  ·refine ⟨⟨o,I.kIn p o hk,hc⟩,fun a e=>?_⟩;cases e;exact ⟨o,I.kIn _ o hk,hd⟩
  ·have z:∃ o,s.heap.get? p=some o∧o.ExactDict:=by
    rcases hk with ⟨kvs,hk⟩ | ⟨kvs,hk⟩
    ·obtain ⟨_,_,_,_,o,_,_,e,ex,_⟩:=I.hok p _ hk;exact ⟨o,e,ex⟩
    ·obtain ⟨_,_,_,_,o,_,_,e,ex,_⟩:=I.hok p _ hk;exact ⟨o,e,ex⟩
   obtain ⟨o,e,ex⟩:=z;refine ⟨⟨o,e,ex.1⟩,fun a e2=>?_⟩;cases e2;exact ⟨o,e,ex.2.1⟩
  ·obtain ⟨o,_,_,_,e,ex,_⟩:=I.hok p _ hk;refine ⟨⟨o,e,ex.1⟩,fun a e2=>?_⟩;cases e2;exact ⟨o,e,ex.2.1⟩
 | _=>exact False.elim ty
def tBM (K:PySem.W.Frag) (T:String) (r:V→List V→Hp→VK→Prop) (to:TE) (t:TA):TE:=fun σ H Q=>to σ H fun x H1=>tyV K T x H1∧t σ H1 fun xs H2=>r x xs H2 Q
variable {o e:Expr} {es:List Expr} {to:TE} {t:TA} {name:Str} {apos cpos:Pos} {T id:String} {r:V→List V→Hp→VK→Prop}
theorem Jbl (pa:PlainAttrs T) (slot:Slot T name id) (hty:typeOf (.builtin id)=pure (.type "method_descriptor")) (hm:MtR X id r) (ho:PE X o to) (ha:PA X (e :: es) t)
  (hbase:attributeBase o name X.env (eval o X.env)=eval o X.env:=by rfl)
  (hfew:((backTo cpos (starEach (e :: es) X.env)).all (fun x=>!x.1) && (backToKw cpos (keywordEach [] X.env)).all (fun x=>x.1.isSome)
   && decide ((e :: es).length + ([]:List Keyword).length + (if ([]:List Keyword).isEmpty then 0 else 1) < 30))=true:=by rfl)
  (hline:(apos.endLine == cpos.line)=true:=by rfl) (hs:starEach (e :: es) X.env=(false,eval e X.env) :: starEach es X.env:=by rfl) (hplain:(backTo cpos (starEach es X.env)).any (·.1)=false:=by rfl) :
  PE X (.Call (.Attribute o name apos) (e :: es) [] cpos) (tBM X.K T r to t):=by
 intro pins s σ H Q I h;refine wpAny_Call_method_late hbase hfew hline rfl (JY (ho pins s σ H _ I h) fun v s1 ⟨x,H1,I1,r1,ty,q1⟩=>?_);obtain ⟨h1,h2⟩:=JsH I1 r1 ty;refine ⟨T,id,pa,slot,hty,h1,h2,?_⟩;have hA:=ha cpos pins s1 σ H1 _ I1 q1;rw [hs] at hA ⊢;refine Calls.callWith_builtin (by show (false || (backTo cpos (starEach es X.env)).any (·.1))=false; rw [hplain] <;> rfl) (Calls.evalArgs_plain ?_);exact JY hA fun us s2 ⟨vs,H2,I2,r2,q2⟩=>hm pins s2 σ H2 x vs v us Q I2 r1 r2 q2
end
end L2
namespace L2
open PySem PySem.Spec PyProof.Rows
def MtM (X:Cx) (id:String) (r:V→List V→Hp→VK→Prop):Prop :=
 ∀ (pins:List (Addr×Obj)) (s:Shared) (σ:St) (H:Hp) (x:V) (xs:List V) (v:Value) (us:List Value) (Q:VK),Jn X pins σ H s→JR x v→JI xs us→r x xs H Q →
  wpAny (model X.prog X.w) X.A (call (.builtin id) (v :: us)) (EP X pins σ Q) X.xe s
theorem JI.one:∀ {x:V} {us:List Value},JI [x] us→∃ u,us=[u]∧JR x u
 | _,_,.cons r .nil=>⟨_,rfl,r⟩
theorem JI.two:∀ {x y:V} {us:List Value},JI [x,y] us→∃ u v,us=[u,v]∧JR x u∧JR y v
 | _,_,_,.cons r (.cons q .nil)=>⟨_,_,rfl,r,q⟩
theorem JI.zero:∀ {us:List Value},JI [] us→us=[]
 | _,.nil=>rfl
theorem JI.rep {xs:List V} {us:List Value} (h:JI xs us):∀ k:Nat,JI (List.replicate k xs).flatten (List.replicate k us).flatten
 | 0=>.nil
 | k + 1=>by
  rw [List.replicate_succ,List.replicate_succ,List.flatten_cons,List.flatten_cons];exact JI.append h (JI.rep h k)
theorem Jk1 (its:List Value):∀ (k:Nat) (acc:List Value),
  List.foldl (fun x1 x2=>x1 ++ x2) acc.toArray (List.replicate k its.toArray)=(acc ++ (List.replicate k its).flatten).toArray
 | 0,acc=>by simp
 | k + 1,acc=>by
  have e:acc.toArray ++ its.toArray=(acc ++ its).toArray:=by simp
  have e2:(acc ++ its) ++ (List.replicate k its).flatten=acc ++ (List.replicate (k + 1) its).flatten:=by
   rw [List.replicate_succ,List.flatten_cons,List.append_assoc]
  rw [← e2,← Jk1 its k (acc ++ its),← e,List.replicate_succ,List.foldl_cons]
section
variable {X:Cx} {pins:List (Addr×Obj)} {σ:St} {H:Hp} {s:Shared} {l b:Addr} {xs ys zs:List V}
theorem Jn.lset {its its':List Value} {n:Nat} {f:Array Value→Array Value} {t':Nat} (I:Jn X pins σ H s) (hH:H l=some (.lst xs))
  (e:s.heap.get? l=some { cls:=.type "list",data:=.seq its.toArray n }) (hf:f its.toArray=its'.toArray) (hv:JI ys its') (hz:ys.length≤sizeLine) :
  Jn X pins σ (upd H l (.lst ys)) { s with heap:=s.heap.update l (Obj.mapSeq f),toks:=t' }:=by
 have q:=PySem.IsL.update e f;rw [hf] at q;refine I.write (x:=l) (e:=l) (by rw [hH]; exact trivial) (.inl rfl) (fun b' u hb hu=>(Heap.get?_update_other s.heap (Obj.mapSeq f) (Ne.symm hb)).trans hu) ⟨_,q⟩ ?_;exact ⟨hz,its',_,hv,q⟩
theorem Jn.lnew {its:List Value} {t':Nat} (I:Jn X pins σ H s) (hv:JI ys its) (hz:ys.length≤sizeLine) :
  Jn X pins σ (upd H s.heap.objs.size (.lst ys)) { s with heap:=s.heap.push { cls:=.type "list",data:=.seq its.toArray },toks:=t' } :=
 I.laid (fun _ _ q=>Heap.get?_push_of_some _ q) (Nat.le_refl _) ⟨hz,its,0,hv,Heap.get?_push_size _ rfl⟩
theorem Jn.fresh (I:Jn X pins σ H s):H s.heap.objs.size=none:=I.hok.fresh (Nat.le_refl _)
theorem Jn.lstM (I:Jn X pins σ H s) (hH:H l=some (.lst xs)):xs.length≤sizeLine∧∃ (its:List Value) (n:Nat),JI xs its∧xs.length=its.length∧s.heap.get? l=some { cls:=.type "list",data:=.seq its.toArray n }:=by
 obtain ⟨z,its,n,r,e⟩:=I.hok l _ hH;exact ⟨z,its,n,r,r.length,e⟩
theorem JqX {n:Nat} (h:n≤sizeLine):Builtin.List.listTooLong n=false:=by
 unfold Builtin.List.listTooLong;exact decide_eq_false (by omega)
end
section
variable {X:Cx}
def Jsc:V→List V→Hp→VK→Prop:=fun x vs H Q=>∃ l xs y,x=.ref l∧vs=[y]∧H l=some (.lst xs)∧xs.length < sizeLine∧Q .non (upd H l (.lst (xs ++ [y])))
theorem Zg:MtM X "list.append" Jsc:=by
 intro pins s σ H x vs v us Q I rx rv h;obtain ⟨l,xs,y,rfl,rfl,hH,hz,q⟩:=h;cases rx;obtain ⟨u,rfl,ru⟩:=rv.one;obtain ⟨z,its,n,r,hl,e⟩:=I.lstM hH;refine call_meets F.slot_list_append ⟨_,e,rfl⟩ F.entry_list_append (F.args_list_append_2 _ _) (PySem.list_append l its.toArray n u (by rw [List.size_toArray]; omega)) ⟨e,?_⟩;refine ⟨.non,_,I.lset (its':=its ++ [u]) hH e (by simp) (r.append (.cons ru .nil)) ?_,rfl,q⟩;rw [List.length_append,List.length_singleton];omega
def JuK:R2:=fun x y H Q=>∃ l b xs zs,x=.ref l∧y=.ref b∧H l=some (.lst xs)∧H b=some (.lst zs)∧xs.length + zs.length≤sizeLine∧∀ p,H p=none→Q (.ref p) (upd H p (.lst (xs ++ zs)))
theorem Jtg:Z7 X (binaryOp .Add) JuK:=by
 intro pins s σ H x y v u Q I rx ry h;obtain ⟨l,b,xs,zs,rfl,rfl,hH,hB,hz,q⟩:=h;cases rx;cases ry;obtain ⟨z,its,n,r,hl,e⟩:=I.lstM hH;obtain ⟨z2,its2,n2,r2,hl2,e2⟩:=I.lstM hB;refine PySem.P.add_list e e2 ?_ (by rw [List.size_toArray,List.size_toArray]; omega);have ea:its.toArray ++ its2.toArray=(its ++ its2).toArray:=by simp
 rw [ea];exact ⟨.ref _,_,I.lnew (t':=s.toks) (r.append r2) (by rw [List.length_append]; omega),rfl,q _ I.fresh⟩
def JuH:R2:=fun x y H Q=>∃ l k xs,x=.ref l∧y=.int k∧H l=some (.lst xs)∧-(2 ^ 63)≤k∧k < 2 ^ 63∧xs.length * k.toNat≤sizeLine ∧
 ∀ p,H p=none→Q (.ref p) (upd H p (.lst (List.replicate k.toNat xs).flatten))
theorem Jst {α:Type} (xs:List α) (k:Nat):(List.replicate k xs).flatten.length=k * xs.length:=by
 induction k with
 | zero=>simp
 | succ k ih=>rw [List.replicate_succ,List.flatten_cons,List.length_append,ih,Nat.succ_mul,Nat.add_comm]
theorem Jte:Z7 X (binaryOp .Mult) JuH:=by
 intro pins s σ H x y v u Q I rx ry h;obtain ⟨l,k,xs,rfl,rfl,hH,h1,h2,hz,q⟩:=h;cases rx;obtain ⟨t,rfl⟩:=ry;obtain ⟨z,its,n,r,hl,e⟩:=I.lstM hH;have hlen:its.toArray.size * k.toNat≤sizeLine:=by rw [List.size_toArray,← hl]; exact hz
 have hcap:¬ its.toArray.size * k.toNat > (2 ^ 63 - 1) / 8:=by
  have:(sizeLine:Nat)≤(2 ^ 63 - 1) / 8:=by decide
  omega
 have hfit:¬ (!Builtin.List.listFitsIndex k)=true:=by
  rw [fitsIndex_both h1 h2];exact Bool.false_ne_true
 have hlong:¬ Builtin.List.listTooLong (its.toArray.size * k.toNat)=true:=by
  rw [JqX hlen];exact Bool.false_ne_true
 have hnew:List.foldl (fun x1 x2=>x1 ++ x2) #[] (List.replicate (if its.toArray.isEmpty=true then 0 else k.toNat) its.toArray)=(List.replicate k.toNat its).flatten.toArray:=by
  have f0:∀ m:Nat,List.foldl (fun x1 x2=>x1 ++ x2) #[] (List.replicate m its.toArray)=(List.replicate m its).flatten.toArray:=fun m=>by
   have:=Jk1 its m [];rw [List.nil_append] at this;exact this
  rw [f0];cases its with
  | nil=>simp
  | cons a r'=>rw [if_neg (by simp)]
 refine wpAny_binaryOp_repeat_ref (T := "list") (U := "int") (by decide) ⟨_,e,rfl⟩ (fun s'=>typeIs_int s' k t) noFill_list_mul F.fills_int_mul F.slot_int_rmul repeat_list F.slot_int_index.lookup
  (call_meets F.slot_int_rmul (typeIs_int s k t) F.entry_int_rmul (F.args_int_rmul_2 _ _) (int___rmul___int_list k t l its.toArray n)
   ⟨e,rfl,⟨_,e,rfl⟩,call_meets F.slot_list_mul ⟨_,e,rfl⟩ F.entry_list_mul (F.args_list_mul_2 _ _) (AutoListH.list___mul___list_int_3 l its.toArray n k t hfit hcap hlong) ⟨e,?_⟩⟩)
 rw [hnew];exact ⟨.ref _,_,I.lnew (t':=s.toks) (r.rep k.toNat) (by rw [Jst,Nat.mul_comm]; exact hz),rfl,q _ I.fresh⟩
end
end L2
namespace L2
open PySem PySem.Spec PyProof.Rows
section
variable {κ:Type} [DecidableEq κ]
def Yd (kvs:List (κ×V)) (k:κ):Option V:=(kvs.find? fun kv=>decide (kv.1=k)).map (·.2)
def Zi (kvs:List (κ×V)) (k:κ) (v:V):List (κ×V) :=
 if (kvs.any fun kv=>decide (kv.1=k))=true then kvs.map (fun kv=>if kv.1=k then (kv.1,v) else kv) else kvs ++ [(k,v)]
def JrK (kvs:List (κ×V)) (k:κ):List (κ×V):=kvs.filter fun kv=>decide (kv.1≠k)
theorem ZJ {p:κ×V} {r:List (κ×V)} {k:κ} (e:p.1=k):Yd (p :: r) k=some p.2:=by simp [Yd,List.find?_cons,e]
theorem ZK {p:κ×V} {r:List (κ×V)} {k:κ} (e:¬ p.1=k):Yd (p :: r) k=Yd r k:=by simp [Yd,List.find?_cons,e]
theorem Jcn (k:κ):∀ kvs:List (κ×V),(kvs.any fun kv=>decide (kv.1=k))=(Yd kvs k).isSome
 | []=>rfl
 | p :: r=>by
  rw [List.any_cons];by_cases e:p.1=k
  ·simp only [ZJ e,decide_eq_true e,Bool.true_or,Option.isSome_some]
  ·rw [ZK e,decide_eq_false e,Bool.false_or]; exact Jcn k r
theorem JlF (k j:κ) (y:V):∀ kvs:List (κ×V),Yd (kvs.map fun kv=>if kv.1=k then (kv.1,y) else kv) j=(Yd kvs j).map fun x=>if j=k then y else x
 | []=>rfl
 | p :: r=>by
  have ih:=JlF k j y r;rw [List.map_cons];by_cases h:p.1=k
  ·rw [if_pos h];by_cases e:p.1=j
   ·rw [ZJ (p:=(p.1,y)) e,ZJ e,Option.map_some,if_pos (e.symm.trans h)]
   ·rw [ZK (p:=(p.1,y)) e,ZK e,ih]
  ·rw [if_neg h];by_cases e:p.1=j
   ·rw [ZJ (p:=p) e,ZJ e,Option.map_some,if_neg (fun z=>h (e.trans z))]
   ·rw [ZK (p:=p) e,ZK e,ih]
theorem JcS (k j:κ) (y:V):∀ kvs:List (κ×V),Yd kvs k=none→Yd (kvs ++ [(k,y)]) j=if j=k then some y else Yd kvs j
 | [],_=>by
  by_cases e:k=j
  ·rw [if_pos e.symm]; exact ZJ (p:=(k,y)) e
  ·rw [if_neg (fun z=>e z.symm)]; exact ZK (p:=(k,y)) e
 | p :: r,hn=>by
  rw [List.cons_append];have hk:¬ p.1=k:=fun z=>by rw [ZJ z] at hn; cases hn
  rw [ZK hk] at hn;have ih:=JcS k j y r hn;by_cases e:p.1=j
  ·rw [ZJ e,ZJ e,if_neg (fun z=>hk (e.trans z))]
  ·rw [ZK e,ZK e,ih]
theorem JaF (kvs:List (κ×V)) (k j:κ) (y:V):Yd (Zi kvs k y) j=if j=k then some y else Yd kvs j:=by
 unfold Zi;by_cases a:(kvs.any fun kv=>decide (kv.1=k))=true
 ·rw [if_pos a,JlF];rw [Jcn] at a;by_cases e:j=k
  ·obtain ⟨x,hx⟩:=Option.isSome_iff_exists.mp a;rw [if_pos e,e,hx,Option.map_some,if_pos rfl]
  ·rw [if_neg e];cases Yd kvs j with
   | none=>rfl
   | some x=>rw [Option.map_some,if_neg e]
 ·rw [if_neg a];refine JcS k j y kvs ?_;rw [Jcn] at a;cases q:Yd kvs k with
  | none=>rfl
  | some x=>rw [q] at a; exact (a rfl).elim
theorem Jh7 (kvs:List (κ×V)) (k:κ) (v:V):(Zi kvs k v).length≤kvs.length + 1:=by
 unfold Zi;split
 ·rw [List.length_map]; omega
 ·rw [List.length_append,List.length_cons,List.length_nil]; omega
theorem JqJ {kvs:List (κ×V)} {k:κ} (v:V) (h:Yd kvs k=none):Zi kvs k v=kvs ++ [(k,v)]:=by
 unfold Zi;rw [Jcn,h];exact if_neg (by decide)
theorem Jay.isSome_eq {o:Option V} {u:Option Value} (r:Jay o u):o.isSome=u.isSome:=by
 cases o with
 | none=>cases u with
  | none=>rfl
  | some _=>exact (show False from r).elim
 | some _=>cases u with
  | none=>exact (show False from r).elim
  | some _=>rfl
theorem Jay.getD {o:Option V} {u:Option Value} {d:V} {d':Value} (r:Jay o u) (rd:JR d d'):JR (o.getD d) (u.getD d'):=by
 cases o with
 | none=>cases u with
  | none=>exact rd
  | some _=>exact (show False from r).elim
 | some _=>cases u with
  | none=>exact (show False from r).elim
  | some _=>exact r
theorem KV.val {kvs:List (κ×V)} {vs:List (κ×Value)} (r:KV kvs vs) (k:κ):Jay (Yd kvs k) (valueAt vs k):=by
 unfold KV at r
 induction r with
 | nil=>exact True.intro
 | @cons p q ps qs h t ih =>
  obtain ⟨h1,h2⟩:=h;by_cases e:p.1=k
  ·have e':q.1=k:=h1.symm.trans e;have b:valueAt (q :: qs) k=some q.2:=by simp [valueAt,List.find?_cons,e']
   rw [ZJ e,b]; exact h2
  ·have e':¬ q.1=k:=fun z=>e (h1.trans z)
   have b:valueAt (q :: qs) k=valueAt qs k:=by simp [valueAt,List.find?_cons,e']
   rw [ZK e,b]; exact ih
theorem KV.any {kvs:List (κ×V)} {vs:List (κ×Value)} (r:KV kvs vs) (k:κ):(kvs.any fun kv=>decide (kv.1=k))=vs.any fun kv=>decide (kv.1=k):=by
 unfold KV at r
 induction r with
 | nil=>rfl
 | cons h t ih=>rw [List.any_cons,List.any_cons,ih,h.1]
theorem KV.repl {kvs:List (κ×V)} {vs:List (κ×Value)} (r:KV kvs vs) (k:κ) {y:V} {u:Value} (ry:JR y u) :
  KV (kvs.map fun kv=>if kv.1=k then (kv.1,y) else kv) (vs.map fun kv=>if kv.1=k then (kv.1,u) else kv):=by
 unfold KV at r ⊢
 induction r with
 | nil=>exact .nil
 | @cons p q ps qs h t ih =>
  rw [List.map_cons,List.map_cons];refine .cons ?_ ih;obtain ⟨h1,h2⟩:=h;by_cases e:p.1=k
  ·rw [if_pos e,if_pos (h1.symm.trans e)]; exact ⟨h1,ry⟩
  ·rw [if_neg e,if_neg (fun z=>e (h1.trans z))]; exact ⟨h1,h2⟩
theorem KV.put {kvs:List (κ×V)} {vs:List (κ×Value)} (r:KV kvs vs) (k:κ) {y:V} {u:Value} (ry:JR y u):KV (Zi kvs k y) (stored vs k u):=by
 unfold Zi stored;rw [r.any k];by_cases e:(vs.any fun kv=>decide (kv.1=k))=true
 ·rw [if_pos e,if_pos e]; exact r.repl k ry
 ·rw [if_neg e,if_neg e]; exact Paired.snoc r ⟨rfl,ry⟩
theorem KV.drop {kvs:List (κ×V)} {vs:List (κ×Value)} (r:KV kvs vs) (k:κ):KV (JrK kvs k) (without vs k):=by
 unfold KV at r ⊢;unfold JrK without
 induction r with
 | nil=>exact .nil
 | @cons p q ps qs h t ih =>
  obtain ⟨h1,h2⟩:=h;rw [List.filter_cons,List.filter_cons];by_cases e:p.1=k
  ·have a:¬ decide (p.1≠k)=true:=by simp [e]
   have b:¬ decide (q.1≠k)=true:=by simp [h1.symm.trans e]
   rw [if_neg a,if_neg b]; exact ih
  ·have e':¬ q.1=k:=fun z=>e (h1.trans z)
   have a:decide (p.1≠k)=true:=by simp [e]
   have b:decide (q.1≠k)=true:=by simp [e']
   rw [if_pos a,if_pos b]; exact .cons ⟨h1,h2⟩ ih
theorem KV.length {kvs:List (κ×V)} {vs:List (κ×Value)} (r:KV kvs vs):kvs.length=vs.length:=Paired.length r
end
theorem JhI {P:Program} {w:World} {k:JP} {u:Value} (r:JR (kV k) u):(YC P w).is k u=true:=by
 cases k with
 | inl i=>obtain ⟨t,e⟩:=(show ∃ t,u=Value.int i t from r); subst e; exact Jm9 P w i t
 | inr x=>obtain ⟨t,e⟩:=(show ∃ t,u=Value.str x t from r); subst e; exact Jbg P w x t
theorem JkW {P:Program} {w:World}:∀ {ks:List JP} {us:List Value},JI (ks.map kV) us→ItemsAre (YC P w) ks us
 | [],_,r=>by rw [List.map_nil] at r; cases r; exact .nil
 | k :: ks,_,r=>by
  rw [List.map_cons] at r;cases r with
  | cons h t=>exact .cons (JhI h) (JkW t)
abbrev KT (H:Hp):List (List JP×V)→List (List JP×Addr×Value)→Prop:=Paired fun p q=>p.1=q.1∧H q.2.1=some (.tup (p.1.map kV))∧JR p.2 q.2.2
theorem KT.val {H:Hp} {kvs:List (List JP×V)} {xs:List (List JP×Addr×Value)} (r:KT H kvs xs) (k:List JP):Jay (Yd kvs k) ((atKey xs k).map (·.2)):=by
 induction r with
 | nil=>exact True.intro
 | @cons p q ps qs h t ih =>
  obtain ⟨h1,_,h2⟩:=h;by_cases e:p.1=k
  ·have e':q.1=k:=h1.symm.trans e;have b:atKey (q :: qs) k=some q.2:=by simp [atKey,List.find?_cons,e']
   rw [ZJ e,b]; exact h2
  ·have e':¬ q.1=k:=fun z=>e (h1.trans z)
   have b:atKey (q :: qs) k=atKey qs k:=by simp [atKey,List.find?_cons,e']
   rw [ZK e,b]; exact ih
theorem KT.repl {H:Hp} {kvs:List (List JP×V)} {xs:List (List JP×Addr×Value)} (r:KT H kvs xs) (k:List JP) {y:V} {u:Value} (ry:JR y u) :
  KT H (kvs.map fun kv=>if kv.1=k then (kv.1,y) else kv) (xs.map (putAt k u)):=by
 induction r with
 | nil=>exact .nil
 | @cons p q ps qs h t ih =>
  rw [List.map_cons,List.map_cons];refine .cons ?_ ih;obtain ⟨h1,h2,h3⟩:=h;unfold putAt;by_cases e:p.1=k
  ·rw [if_pos e,if_pos (h1.symm.trans e)]; exact ⟨h1,h2,ry⟩
  ·rw [if_neg e,if_neg (fun z=>e (h1.trans z))]; exact ⟨h1,h2,h3⟩
theorem KT.put {H:Hp} {kvs:List (List JP×V)} {xs:List (List JP×Addr×Value)} (r:KT H kvs xs) (k:List JP) {b:Addr} {y:V} {u:Value} (hb:H b=some (.tup (k.map kV))) (ry:JR y u) :
  KT H (Zi kvs k y) (storedH xs k b u):=by
 have e:(kvs.any fun kv=>decide (kv.1=k))=(atKey xs k).isSome:=by
  rw [Jcn,(r.val k).isSome_eq,Option.isSome_map]
 unfold Zi storedH;rw [e];by_cases q:(atKey xs k).isSome=true
 ·rw [if_pos q,if_pos q]; exact r.repl k ry
 ·rw [if_neg q,if_neg q]; exact Paired.snoc r ⟨rfl,hb,ry⟩
theorem KT.keeps {H H':Hp} {kvs:List (List JP×V)} {xs:List (List JP×Addr×Value)} (r:KT H kvs xs) (ht:∀ b ys,H b=some (.tup ys)→H' b=some (.tup ys)):KT H' kvs xs :=
 Paired.mapP r fun _ _ z=>⟨z.1,ht _ _ z.2.1,z.2.2⟩
section
variable {P:Program} {w:World} {H:Hp} {h:Heap} {a:Addr}
theorem JrB {u:HO} (ok:ZE P w H h) (e:Rd H a u):YA P w H h a u:=e.ok ok
theorem JhL {kvs:List (JP×V)} (ok:ZE P w H h) (e:Rd H a (.dK kvs)):kvs.length≤sizeLine∧(a == sysModules)=false∧∃ vs,KV kvs vs∧h.DictOf (YC P w) a vs :=
 show YA P w H h a (.dK kvs) from JrB ok e
theorem Jt9 {kvs:List (JP×V)} (ok:ZE P w H h) (e:H a=some (.dK kvs)):kvs.length≤sizeLine∧(a == sysModules)=false∧∃ vs,KV kvs vs∧h.DictOf (YC P w) a vs:=JhL ok (.inl e)
theorem Jg1 {ks:List JP} (ok:ZE P w H h) (e:H a=some (.tup (ks.map kV))):(tupleKind (YC P w)).is h ks a:=by
 obtain ⟨_,its,r,o,h1,h2,n,h3⟩:=(show YA P w H h a (.tup (ks.map kV)) from ok a _ e)
 exact ⟨o,its.toArray,n,h1,h2,h3,by simpa using JkW r⟩
theorem Jjv {kvs:List (List JP×V)} (ok:ZE P w H h) (e:Rd H a (.dT kvs)):kvs.length≤sizeLine∧(a == sysModules)=false ∧
  ∃ xs,KT H kvs xs∧h.DictOfH (tupleKind (YC P w)) a xs:=by
 obtain ⟨z,y,xs,r,o,es,ep,h1,h2,h3,h4,h5⟩:=(show YA P w H h a (.dT kvs) from JrB ok e)
 refine ⟨z,y,xs,r,o,es,ep,h1,h2,h3,h4,fun x hx=>?_,h5⟩;have all:∀ {l:List (List JP×V)} {m:List (List JP×Addr×Value)},KT H l m→∀ x∈m,(tupleKind (YC P w)).is h x.1 x.2.1:=by
  intro l m q
  induction q with
  | nil=>intro x hx; exact nomatch hx
  | @cons p q ps qs hq t ih =>
   intro x hx;rcases List.mem_cons.mp hx with e | hx
   ·subst e;exact Jg1 ok (by rw [← hq.1]; exact hq.2.1)
   ·exact ih x hx
 exact all r x hx
theorem Jt8 {kvs:List (List JP×V)} (ok:ZE P w H h) (e:H a=some (.dT kvs)):kvs.length≤sizeLine∧(a == sysModules)=false ∧
  ∃ xs,KT H kvs xs∧h.DictOfH (tupleKind (YC P w)) a xs:=Jjv ok (.inl e)
end
def ZB (H:Hp) (a:Addr) (y:V) (r:Option V):Prop :=
 (∃ kvs k,Rd H a (.dK kvs)∧y=kV k∧r=Yd kvs k)∨∃ kvs k b,Rd H a (.dT kvs)∧y=.ref b∧H b=some (.tup (k.map kV))∧r=Yd kvs k
def Jfs (H:Hp) (a:Addr) (y v:V) (H':Hp):Prop :=
 (∃ kvs k,H a=some (.dK kvs)∧y=kV k∧kvs.length < sizeLine∧H'=upd H a (.dK (Zi kvs k v))) ∨
 ∃ kvs k b,H a=some (.dT kvs)∧y=.ref b∧H b=some (.tup (k.map kV))∧kvs.length < sizeLine∧H'=upd H a (.dT (Zi kvs k v))
theorem ZB.k {H:Hp} {a:Addr} {kvs:List (JP×V)} {k:JP} (e:H a=some (.dK kvs)):ZB H a (kV k) (Yd kvs k):=.inl ⟨kvs,k,.inl e,rfl,rfl⟩
theorem ZB.t {H:Hp} {a b:Addr} {kvs:List (List JP×V)} {k:List JP} (e:H a=some (.dT kvs)) (eb:H b=some (.tup (k.map kV))):ZB H a (.ref b) (Yd kvs k):=.inr ⟨kvs,k,b,.inl e,rfl,eb,rfl⟩
theorem Jfs.k {H:Hp} {a:Addr} {kvs:List (JP×V)} {k:JP} {v:V} (e:H a=some (.dK kvs)) (hl:kvs.length < sizeLine):Jfs H a (kV k) v (upd H a (.dK (Zi kvs k v))):=.inl ⟨kvs,k,e,rfl,hl,rfl⟩
theorem Jfs.t {H:Hp} {a b:Addr} {kvs:List (List JP×V)} {k:List JP} {v:V} (e:H a=some (.dT kvs)) (eb:H b=some (.tup (k.map kV))) (hl:kvs.length < sizeLine) :
  Jfs H a (.ref b) v (upd H a (.dT (Zi kvs k v))):=.inr ⟨kvs,k,b,e,rfl,eb,hl,rfl⟩
section
variable {X:Cx} {pins:List (Addr×Obj)} {σ:St} {H:Hp} {s:Shared} {a:Addr} {y v:V} {u r:Value} {o:Option V} {A:Around} {E:Value→Shared→Prop}
theorem Jn.big (I:Jn X pins σ H s):sysModules < s.heap.objs.size:=by
 have h:mainGlobals < s.heap.objs.size:=(I.mod.glob.keeps I.bk).lt;exact Nat.lt_trans (by decide) h
theorem JpM {Q:Value→Shared→Prop} (hu:A.units + 1 < cLine) (I:Jn X pins σ H s) (g:ZB H a y (some v)) (ry:JR y u) (h:∀ w' s',Jn X pins σ H s'→JR v w'→Q w' s') :
  wpAny (model X.prog X.w) A (getItem (.ref a) u) Q E s:=by
 rcases g with ⟨kvs,k,e,ey,l⟩ | ⟨kvs,k,b,e,ey,eb,l⟩
 ·subst ey;obtain ⟨z,hd,vs,rel,dd⟩:=JhL I.hok e;obtain ⟨w',hw,rw'⟩:=Jay.some_of (v:=v) (o:=valueAt vs k) (by rw [l]; exact rel.val k);exact wpAny_getItem_of (JhI ry) dd.mapOf hw (h w' _ (I.tok _) rw')
 ·subst ey;cases (show u=Value.ref b from ry);obtain ⟨z,hd,xs,rel,dd⟩:=Jjv I.hok e;obtain ⟨w',hw,rw'⟩:=Jay.some_of (v:=v) (o:=(atKey xs k).map (·.2)) (by rw [l]; exact rel.val k);obtain ⟨p,hp,hp2⟩:=Option.map_eq_some_iff.mp hw;refine wpAny_getItem_heap (tupleKind_room_in1 hu) (Jg1 I.hok eb) dd hp ?_;rw [hp2];exact h w' _ (I.tok _) rw'
theorem JuQ {Q:Value→Shared→Prop} (hu:A.units + 1 < cLine) (I:Jn X pins σ H s) (g:ZB H a y o) (ry:JR y u) (h:∀ s',Jn X pins σ H s'→Q (.bool o.isSome) s') :
  wpAny (model X.prog X.w) A (compareOp .In u (.ref a)) Q E s:=by
 rcases g with ⟨kvs,k,e,ey,l⟩ | ⟨kvs,k,b,e,ey,eb,l⟩
 ·subst ey;obtain ⟨z,hd,vs,rel,dd⟩:=JhL I.hok e;refine wpAny_in_of (JhI ry) hd dd.mapOf ?_;rw [← (rel.val k).isSome_eq,← l];exact h _ (I.tok _)
 ·subst ey;cases (show u=Value.ref b from ry);obtain ⟨z,hd,xs,rel,dd⟩:=Jjv I.hok e;refine wpAny_in_heap (tupleKind_room_in1 hu) (Jg1 I.hok eb) hd dd ?_;have q:=(rel.val k).isSome_eq;rw [Option.isSome_map] at q;rw [← q,← l];exact h _ (I.tok _)
theorem Jsz {Q:Value→Shared→Prop} (hu:A.units + 1 < cLine) (I:Jn X pins σ H s) (g:ZB H a y o) (ry:JR y u) (h:∀ s',Jn X pins σ H s'→Q (.bool (!o.isSome)) s') :
  wpAny (model X.prog X.w) A (compareOp .NotIn u (.ref a)) Q E s:=by
 rcases g with ⟨kvs,k,e,ey,l⟩ | ⟨kvs,k,b,e,ey,eb,l⟩
 ·subst ey;obtain ⟨z,hd,vs,rel,dd⟩:=JhL I.hok e;refine wpAny_notIn_of (JhI ry) hd dd.mapOf ?_;rw [← (rel.val k).isSome_eq,← l];exact h _ (I.tok _)
 ·subst ey;cases (show u=Value.ref b from ry);obtain ⟨z,hd,xs,rel,dd⟩:=Jjv I.hok e;refine wpAny_notIn_heap (tupleKind_room_in1 hu) (Jg1 I.hok eb) hd dd ?_;have q:=(rel.val k).isSome_eq;rw [Option.isSome_map] at q;rw [← q,← l];exact h _ (I.tok _)
theorem JnJ {h':Heap} {t':Nat} {ob:HO} (I:Jn X pins σ H s) (mu:Mut (H a)) (hs:Heap.SameBut a s.heap h') (he:∃ q,h'.get? a=some q) (new:YA X.prog X.w (upd H a ob) h' a ob) :
  Jn X pins σ (upd H a ob) { s with heap:=h',toks:=t' } :=
 I.write (x:=a) (e:=a) mu (.inl rfl) (fun b q hb z=>(hs.2 b hb).trans z) he new
theorem Jtx {P:Program} {w:World} {H':Hp} {h':Heap} {kvs:List (JP×V)} {vs:List (JP×Value)} (z:kvs.length≤sizeLine) (hd:(a == sysModules)=false) (rel:KV kvs vs) (dd:h'.DictOf (YC P w) a vs) :
  YA P w H' h' a (.dK kvs):=⟨z,hd,vs,rel,dd⟩
theorem JpL {H':Hp} {Q:Unit→Shared→Prop} (hu:A.units + 1 < cLine) (I:Jn X pins σ H s) (g:Jfs H a y v H') (ry:JR y u) (rv:JR v r) (h:∀ s',Jn X pins σ H' s'→Q () s') :
  wpAny (model X.prog X.w) A (setItem (.ref a) u r) Q E s:=by
 rcases g with ⟨kvs,k,e,ey,l,eH⟩ | ⟨kvs,k,b,e,ey,eb,l,eH⟩
 ·subst ey eH;obtain ⟨z,hd,vs,rel,dd⟩:=Jt9 I.hok e;have hz:vs.length≤sizeLine:=by rw [← rel.length]; exact z
  have hl:(Zi kvs k v).length≤sizeLine:=by have:=Jh7 kvs k v; omega
  refine wpAny_setItem_pairs (hsz:=hz) (JhI ry) dd fun h' dd' hs=>h _ ?_
  have he:∃ q,h'.get? a=some q:=let ⟨q,_,_,hq,_⟩:=dd'; ⟨q,hq⟩;exact JnJ I (by rw [e]; exact True.intro) hs he (Jtx hl hd (rel.put k rv) dd')
 ·subst ey eH;cases (show u=Value.ref b from ry);obtain ⟨z,hd,xs,rel,dd⟩:=Jt8 I.hok e;have hz:xs.length≤sizeLine:=by rw [← Paired.length rel]; exact z
  have hl:(Zi kvs k v).length≤sizeLine:=by have:=Jh7 kvs k v; omega
  refine wpAny_setItem_heap (hsz:=hz) (tupleKind_room_in1 hu) (Jg1 I.hok eb) dd fun h' dd' hs=>h _ ?_
  obtain ⟨q,es,ep,hq,h2,h3,h4,_,h5⟩:=dd';refine JnJ I (by rw [e]; exact True.intro) hs ⟨q,hq⟩ ⟨hl,hd,_,(rel.put k eb rv).keeps fun c ys ec=>?_,q,es,ep,hq,h2,h3,h4,h5⟩;rw [Jz (Jaj ec e (fun z=>nomatch z))];exact ec
end
section
variable {X:Cx} {pins:List (Addr×Obj)} {σ:St} {H:Hp} {s:Shared} {a:Addr} {kvs:List (JP×V)} {k:JP} {u:Value} {A:Around} {E:Value→Shared→Prop}
theorem Jua {Q:Value→Shared→Prop} (I:Jn X pins σ H s) (e:Rd H a (.dK kvs)) (h:∀ t s',Jn X pins σ H s'→Q (.int kvs.length t) s'):wpAny (model X.prog X.w) A (call (.builtin "len") [.ref a]) Q E s:=by
 obtain ⟨z,hd,vs,rel,dd⟩:=JhL I.hok e;refine call_len_dict hd dd (by rw [← rel.length]; rw [sizeLine_eq] at z; omega) ?_;rw [← rel.length];exact h _ _ (I.tok _)
end
def JtE (i:Expr):Prop:=∀ ov iv,subscripted i false ov iv=operate [ov,iv] (getItem ov iv)
theorem JrS {prog:Program} {w:World} {A:Around} {E:Value→Shared→Prop} {s:Shared} {env:Env} {value slice:Expr} {pos:Pos} {T id:String} {Q:Value→Shared→Prop}
  (hl:typeLookup (.type T) "__getitem__" = pure (some (.builtin id))) (hs:JtE slice)
  (h:wpAny (model prog w) A (eval value env) (fun o s₁=>wpAny (model prog w) A (eval slice env) (fun i s₂=>s₂.TypeIs o T∧wpAny (model prog w) A (getItem o i) Q E s₂) E s₁) E s) :
  wpAny (model prog w) A (eval (.Subscript value slice pos) env) Q E s:=by
 refine Subscript_ (wpAny_mono h (fun o s₁ h₁=>wpAny_mono h₁ (fun i s₂ h₂=>?_) fun _ _ x=>x) fun _ _ x=>x);obtain ⟨hT,h₂⟩:=h₂;unfold subscriptTail;refine wpAny_bind ?_;rw [getitemInPython_of_ne hT.not_modules];refine wpAny_bind (wpAny_specialOf hT hl ?_);have fin:wpAny (model prog w) A (subscripted slice false o i) (fun r s₃=>wpAny (model prog w) A (letTemporaryGo value o r >>= fun _=>pure r) Q E s₃) E s₂:=by
  rw [hs o i];exact wpAny_operating (wpAny_mono h₂ (fun r s₃ h₃=>wpAny_bind (wpAny_letTemporaryGo (wpAny_pure h₃))) fun _ _ x=>x)
 first
  | exact wpAny_pure (wpAny_bind fin)
  | exact wpAny_bind (wpAny_pure (wpAny_bind fin))
  | exact wpAny_bind fin
theorem Jnd {X:Cx} {pins:List (Addr×Obj)} {σ:St} {H:Hp} {s:Shared} {a:Addr} {y:V} {o:Option V} (I:Jn X pins σ H s) (g:ZB H a y o):s.TypeIs (.ref a) "dict":=by
 rcases g with ⟨kvs,k,e,_,_⟩ | ⟨kvs,k,b,e,_,_,_⟩
 ·obtain ⟨_,_,vs,_,dd⟩:=JhL I.hok e;exact dd.typeIs
 ·obtain ⟨_,_,xs,_,dd⟩:=Jjv I.hok e;exact dd.typeIs
def JtQ (td ty:TE):TE:=fun σ H Q=>td σ H fun x H1=>ty σ H1 fun y H2=>∃ a v,x=.ref a∧ZB H2 a y (some v)∧Q v H2
def JuD (ty td:TE):TE:=fun σ H Q=>ty σ H fun y H1=>td σ H1 fun x H2=>∃ a o,x=.ref a∧ZB H2 a y o∧Q (.bl o.isSome) H2
def JrR (ty td:TE):TE:=fun σ H Q=>ty σ H fun y H1=>td σ H1 fun x H2=>∃ a o,x=.ref a∧ZB H2 a y o∧Q (.bl (!o.isSome)) H2
def JtV (td ty tv:TE):TS:=fun D σ H=>tv σ H fun v H1=>td σ H1 fun x H2=>ty σ H2 fun y H3=>∃ a H4,x=.ref a∧Jfs H3 a y v H4∧D.nx σ H4
section
variable {X:Cx} {o i e value:Expr} {pos pos' tpos:Pos} {td ty tv:TE}
theorem Jac (hu:X.A.units + 1 < cLine) (ho:PE X o td) (hi:PE X i ty) (hs:JtE i):PE X (.Subscript o i pos) (JtQ td ty):=by
 intro pins s σ H Q I h;refine JrS PySem.F.slot_dict_getitem.lookup hs (JY (ho pins s σ H _ I h) fun u s1 ⟨x,H1,I1,rx,q1⟩=>JY (hi pins s1 σ H1 _ I1 q1) fun iv s2 ⟨y,H2,I2,ry,a,v,ex,g,q2⟩=>?_);subst ex;obtain rfl:u=Value.ref a:=rx;exact ⟨Jnd I2 g,JpM hu I2 g ry fun w' s3 I3 rw'=>⟨v,H2,I3,rw',q2⟩⟩
theorem Jtd (hu:X.A.units + 1 < cLine) (hi:PE X i ty) (ho:PE X o td):PC X .In i o (JuD ty td):=by
 intro pins s σ H Q I h;refine JY (hi pins s σ H _ I h) fun iv s1 ⟨y,H1,I1,ry,q1⟩=>JY (ho pins s1 σ H1 _ I1 q1) fun u s2 ⟨x,H2,I2,rx,a,ov,ex,g,q2⟩=>?_
 subst ex;obtain rfl:u=Value.ref a:=rx;exact JuQ hu I2 g ry fun s3 I3=>⟨.bl ov.isSome,H2,I3,rfl,q2⟩
theorem Jpe (hu:X.A.units + 1 < cLine) (hi:PE X i ty) (ho:PE X o td):PC X .NotIn i o (JrR ty td):=by
 intro pins s σ H Q I h;refine JY (hi pins s σ H _ I h) fun iv s1 ⟨y,H1,I1,ry,q1⟩=>JY (ho pins s1 σ H1 _ I1 q1) fun u s2 ⟨x,H2,I2,rx,a,ov,ex,g,q2⟩=>?_
 subst ex;obtain rfl:u=Value.ref a:=rx;exact Jsz hu I2 g ry fun s3 I3=>⟨.bl (!ov.isSome),H2,I3,rfl,q2⟩
theorem JhF (hu:X.A.units + 1 < cLine) (ho:PE X o td) (hi:PE X i ty) (hv:PE X value tv) (hs:swapsWith value (some (.Subscript o i pos')) pos.line X.env=pure false) :
  PS X (.Assign [.Subscript o i pos'] value pos) (JtV td ty tv):=by
 intro pins s σ H D I h;refine wpAny_Assign_Subscript (JY (hv pins s σ H _ I h) fun r s1 ⟨v,H1,I1,rv,q1⟩=>JY (ho pins s1 σ H1 _ I1 q1) fun u s2 ⟨x,H2,I2,rx,q2⟩=>JY (hi pins s2 σ H2 _ I2 q2) fun iv s3 ⟨y,H3,I3,ry,a,H4,ex,g,q3⟩=>?_) hs;subst ex;obtain rfl:u=Value.ref a:=rx;exact JpL hu I3 g ry rv fun s4 I4=>⟨σ,H4,I4,q3⟩
end
theorem Jrd {P:Program} {w:World} {H:Hp} (h:Heap) (hb:sysModules < h.objs.size):YA P w H (h.push { cls:=.type "dict",data:=.dict #[] }) h.objs.size (.dK []) :=
 ⟨Nat.zero_le _,beq_eq_false_iff_ne.mpr (Ne.symm (Nat.ne_of_lt hb)),[],.nil,Heap.DictOf.new h⟩
theorem Jrc {P:Program} {w:World} {H:Hp} (h:Heap) (hb:sysModules < h.objs.size):YA P w H (h.push { cls:=.type "dict",data:=.dict #[] }) h.objs.size (.dT []) :=
 ⟨Nat.zero_le _,beq_eq_false_iff_ne.mpr (Ne.symm (Nat.ne_of_lt hb)),[],.nil,_,#[],0,Heap.get?_push_size _ rfl,⟨rfl,rfl,rfl⟩,rfl,rfl,List.nodup_nil⟩
def JsN:TE:=fun _ H Q=>∀ p,H p=none→Q (.ref p) (upd H p (.dK []))
def JsM:TE:=fun _ H Q=>∀ p,H p=none→Q (.ref p) (upd H p (.dT []))
section
variable {X:Cx} {pos:Pos}
theorem Jl8:PE X (.Dict [] [] pos) JsN:=fun pins s σ H Q I h =>
 wpAny_Dict_empty ⟨.ref s.heap.objs.size,_,I.laid (a:=s.heap.objs.size) (o:=.dK []) (t':=s.toks) (fun _ _ q=>Heap.get?_push_of_some _ q) (Nat.le_refl _) (Jrd s.heap I.big),rfl,h _ (I.hok.fresh (Nat.le_refl _))⟩
theorem Jl7:PE X (.Dict [] [] pos) JsM:=fun pins s σ H Q I h =>
 wpAny_Dict_empty ⟨.ref s.heap.objs.size,_,I.laid (a:=s.heap.objs.size) (o:=.dT []) (t':=s.toks) (fun _ _ q=>Heap.get?_push_of_some _ q) (Nat.le_refl _) (Jrc s.heap I.big),rfl,h _ (I.hok.fresh (Nat.le_refl _))⟩
end
end L2
namespace Att
open PySem PySem.W PySem.Calls PyProof.Rows
theorem Jjn {P:Params} {h:Heap}:∀ (ns:List Int) (vs:List Value),WellAll P h vs (ns.map WData.int)→IntsAre vs ns:=by
 intro ns
 induction ns with
 | nil =>
  intro vs w;rw [List.map_nil] at w;cases w;exact .nil
 | cons n ns ih =>
  intro vs w;rw [List.map_cons] at w;cases w with
  | cons a b =>
   cases a;exact .cons _ _ (ih _ b)
theorem Jo6 {l:OpenLaw} {n:Nat} (hn:l.most=some n) {P:Params} {h:Heap} {args:List WData} {vals:List Value}
  (hpre:l.row.toRowW.claim.pre args=true) (hwl:WellAll P h vals args) :
  ∃ a vs ns,vals=[Value.ref a]∧args=[WData.list (ns.map WData.int)]∧h.get? a=some { cls:=.type "list",data:=.seq vs.toArray }∧IntsAre vs ns∧ns.length≤n:=by
 have hsh:WShape.hasAll [] args [.list .int]=true:=(pre_splitW hpre).1;have hc:l.pre.holds [] { args:=args }=true:=(pre_splitW hpre).2;obtain ⟨d,r,rfl,h1,h2⟩:=hasAllW_cons hsh;obtain rfl:=hasAllW_nil h2;obtain ⟨xs,rfl,h3⟩:=hasW_list h1;obtain ⟨ns,rfl⟩:=items_int h3;have hlen:ns.length≤n:=by
  unfold OpenLaw.pre at hc;have h4:(WTm.not (.lt (.lit (.int (n:Int))) (.len (.arg 0)))).holds [] { args:=[.list (ns.map .int)] }=true:=by
   have h4:=(holds_andW hc).1;rw [hn] at h4;exact h4
  have h5:=condW_of h4 (w_not (w_lt w_lit (w_len_list (w_arg rfl))));rw [List.length_map] at h5;refine Nat.le_of_not_lt fun q=>?_
  have q':(n:Int) < ((ns.length:Nat):Int):=by omega
  first
   | (rw [decide_eq_true q'] at h5; exact absurd h5 (by decide))
   | (simp at h5; omega)
 cases hwl with
 | cons w1 w2 =>
  cases w2;cases w1 with
  | list ho hall=>exact ⟨_,_,ns,rfl,rfl,ho,Jjn ns _ hall,hlen⟩
theorem Jpa (l:OpenLaw) (args:List WData):l.row.toRowW.claim.post args (.bool true) args=true :=
 postW_of (r:=l.row.toRowW) (X:=(true == true))
  (show WShape.has [] (.bool true) .bool=true by first | rfl | decide | simp [WShape.has,WShape.arms,WShape.armsAll])
  (show (WTm.eq .res (.lit (.bool true))).value [] { args:=args,res:=some (.bool true),after:=args }=some (.bool (true == true)) from w_eq_bool (w_res rfl) w_lit) rfl
theorem Jng {l:OpenLaw} {n:Nat} {q:Program} {loose:List Str} {XP:(Str→Option Value)→Heap→Prop} {YP:World→Heap→Prop} {d:DefRec}
  (hn:l.most=some n) (hdf:d.params.defaults=[])
  (call:∀ (w:World) (s₀ s₁:Shared) (mg mb:Str→Option Value) (fa:Addr) (o:Obj) (pm cd doc:Value) (a:Addr) (vs:List Value) (ns:List Int),
   Ground q loose [] XP w s₀ mg mb s₁.heap→YP w s₁.heap →
   s₁.heap.get? fa=some o→o.data=.func (docDef d.name d.params d.body d.scope pm cd doc)→s₁.heap.CodeRec cd d.name→mg d.name=some (.ref fa) →
   s₁.heap.get? a=some { cls:=.type "list",data:=.seq vs.toArray }→IntsAre vs ns→ns.length≤n→s₁.gens=#[] →
   codeAny (model l.prog w) callerA (.call (.ref fa) ⟨[.ref a],[]⟩) (fun r s'=>r=.ok (.ret (.bool true))∧OldK s₁.heap s'.heap∧s'.os=s₁.os∧AllBare s'.gens) s₁) :
  WalkO q loose XP YP l.row.toRowW d [] (fun f vs=>PySem.call f vs):=by
 intro w s₀ s₁ mg mb G Y fa o pm cd doc dV kV ho hd hcd hD hmg hg args vals as hpre hlay hrd hwl hlo;obtain rfl:dV=.none:=Dflts.none hD hdf;obtain rfl:kV=.none:=Dflts.noKw hD;obtain ⟨a,vs,ns,rfl,rfl,hobj,hints,hlen⟩:=Jo6 hn hpre hwl;refine enter_call (codeAny_mono (call w s₀ s₁ mg mb fa o pm cd doc a vs ns G Y ho (fd_plain hd) hcd hmg hobj hints hlen hg) fun r s' hq=>?_);obtain ⟨rfl,h2,h3,h4⟩:=hq;exact ⟨.inl ⟨.bool true,.bool true,[],rfl,fun _=>rfl,.bool true,Jpa l _,fun _=>⟨List.Pairwise.nil,fun _ hm=>(nomatch hm)⟩⟩,h2,h3,h4⟩
end Att
namespace L2
open PySem PySem.Spec PyProof.Rows
theorem JkN:∀ {vs:List Value} {ns:List Int},IntsAre vs ns→JI (ns.map V.int) vs
 | _,_,.nil=>.nil
 | _,_,.cons n t h=>.cons ⟨t,rfl⟩ (JkN h)
def Jrn (H:Hp):Prop:=∀ b,H b=none∨∃ o xs,H b=some (.frz o (.lst xs))
theorem Jq2 {P:Program} {w:World} {K:PySem.W.Frag} {mg mb:Str→Option Value} {CX:CXT} {k:Nat} {fa a:Addr} {fd:FuncData} {x:Str} {sp:Sp} {s₁:Shared} {vs:List Value} {ns:List Int}
  (KX:K.In s₁.heap) (hns:s₁.heap.Ns mainGlobals mg) (hb:s₁.heap.Ns builtinsNs mb) (hbb:∀ x:Str,x ≠ "__name__"→mb x=bootBuiltins x) (hlim:s₁.heap.NoLimit) (hg:s₁.gens=#[])
  (ha:s₁.heap.get? a=some { cls:=.type "list",data:=.seq vs.toArray }) (hi:IntsAre vs ns) (hl:ns.length≤sizeLine) (hr:Y1 k callerA)
  (F:∀ base:Heap,K.In base→base.Ns mainGlobals mg→JL P w K mg base CX k fa fd [x] sp) (hbind:∀ (s:Shared) (u:Value),BindsTo s fd ⟨[u],[]⟩ [(x,u)])
  (hsp:∀ H:Hp,Jrn H→Jp K H a (ns.map V.int)→sp [.ref a] H (fun v _=>v=.bl true) fun _ _ _=>False)
  (hCX:∀ H e s',CX [] H s₁ (fun _ _ _=>False) e s'→False) :
  codeAny (model P w) callerA (.call (.ref fa) ⟨[.ref a],[]⟩) (fun r s'=>r=.ok (.ret (.bool true))∧OldK s₁.heap s'.heap∧s'.os=s₁.os∧AllBare s'.gens) s₁:=by
 have rv:=JkN hi;have lenV:=hi.length;have core:∀ H:Hp,Jrn H→Jp K H a (ns.map V.int)→ZE P w H s₁.heap→(∀ b,H b≠none→b=a)→(H a≠none→K.lookup a=none) →
   codeAny (model P w) callerA (.call (.ref fa) ⟨[.ref a],[]⟩) (fun r s'=>r=.ok (.ret (.bool true))∧OldK s₁.heap s'.heap∧s'.os=s₁.os∧AllBare s'.gens) s₁:=by
  intro H hO hS hok hA hK;have base_of:∀ {b:Addr} {o:Obj},s₁.heap.get? b=some o→H b=none→(Jf1 s₁.heap H).get? b=some o:=fun e n=>Jq5 e n
  have noA:∀ {b:Addr} {o:Obj} {es:Array DictEntry} {ep:Nat},s₁.heap.get? b=some o→o.data=.dict es ep→H b=none:=fun {b o es ep} e d=>by
   cases q:H b with
   | none=>rfl
   | some u =>
    have e':b=a:=hA b (by rw [q]; simp);subst e';rw [ha] at e; cases e;have d':Data.seq vs.toArray _=Data.dict es ep:=d;cases d'
  have nsK:∀ {b:Addr} {m:Str→Option Value},s₁.heap.Ns b m→(Jf1 s₁.heap H).Ns b m:=fun {b m} ⟨o,es,ep,e,d,r⟩=>⟨o,es,ep,base_of e (noA e d),d,r⟩
  have hKb:K.In (Jf1 s₁.heap H):=fun b o e=>base_of (KX b o e) (by
   cases q:H b with
   | none=>rfl
   | some u =>
    have e':b=a:=hA b (by rw [q]; simp);subst e';rw [hK (by rw [q]; simp)] at e; cases e)
  have hM:Mod K mg (Jf1 s₁.heap H):=⟨hKb,nsK hns,⟨mb,nsK hb,hbb⟩,let ⟨mc,h1,h2⟩:=hlim; ⟨mc,nsK h1,h2⟩⟩
  have e0:Jfm P w K mg (Jf1 s₁.heap H) callerA [] s₁ H:=⟨rfl,hM,fun b o e=>Jsl e,Nat.le_of_eq (JpB _ _),trivial,fun b hb=>absurd (show b∈([]:List Addr) from hb) (by simp),hok,.of_eq hg⟩
  refine codeAny_mono ((F _ hKb (nsK hns)).run callerA [] s₁ H ⟨[.ref a],[]⟩ [.ref a] [.ref a] _ _ hr e0 (hbind s₁ (.ref a)) (.cons rfl .nil) (hsp H hO hS)) fun r s' h=>?_
  cases r with
  | error e=>exact (hCX H e s' h).elim
  | ok fl =>
   cases fl with
   | next=>exact False.elim h
   | brk=>exact False.elim h
   | cont=>exact False.elim h
   | ret u =>
    obtain ⟨v,H',os,bare,un,hok',r',q⟩:=h;have q':v=.bl true:=q;subst q';obtain rfl:u=Value.bool true:=r';refine ⟨rfl,OldK.of_keep fun b o e=>?_,os,bare⟩;cases q:H b with
    | none=>exact un.keep b o e q (by intro z; exact absurd (show b∈([]:List Addr) from z) (by simp)) (by simp)
    | some u =>
     rcases hO b with z | ⟨ob,xs,z⟩
     ·rw [q] at z; cases z
     ·have z2:=un.frzs b ob _ z;obtain ⟨e1,_⟩:=hok b _ z;obtain ⟨e2,_⟩:=hok' b _ z2;rw [e] at e1; cases e1;exact e2
 cases hk:K.lookup a with
 | some o =>
  have e:=KX a o hk;rw [ha] at e;cases e;refine core (fun _=>none) (fun _=>.inl rfl) (.inr ⟨_,vs.toArray,_,hk,rfl,rfl,rfl,by rw [List.size_toArray,lenV]; exact hl,by simpa using rv⟩) (fun b u z=>by have z':(none:Option HO)=some u:=z; cases z') (fun b z=>absurd rfl z) fun z=>absurd rfl z
 | none =>
  refine core (fun b=>if b=a then some (.frz { cls:=.type "list",data:=.seq vs.toArray } (.lst (ns.map V.int))) else none) (fun b=>?_) (.inl (.inr ⟨{ cls:=.type "list",data:=.seq vs.toArray },if_pos rfl⟩)) (fun b u z=>?_) (fun b z=>?_) fun _=>hk
  ·by_cases hb:b=a
   ·exact .inr ⟨_,_,if_pos hb⟩
   ·exact .inl (if_neg hb)
  ·by_cases hb:b=a
   ·have z':=(if_pos hb).symm.trans z;cases z';subst hb;exact ⟨ha,by rw [List.length_map]; exact hl,vs,_,rv,ha⟩
   ·have z':=(if_neg hb).symm.trans z;cases z'
  ·by_cases hb:b=a
   ·exact hb
   ·exact absurd (if_neg hb) z
end L2
namespace L2
open PySem PySem.Spec PyProof.Rows
abbrev YK:CXT:=fun _ _ _ _ _ _=>False
abbrev E0:XK:=fun _ _ _=>False
theorem JG {X:Cx}:Jas YK X E0:=fun _ _ _ _ _ _ _ h=>h.elim
structure Fun (K:PySem.W.Frag) (x qual:Str) (st:Stmt) (f:Addr) (fd:FuncData):Prop where
 ex:∃ (oc:Value) (od:Option Addr) (kV doc pm:Value) (an:Option Addr) (cdv ct:Value) (osl:Array (Option Value)),
  fd=PySem.W.fnOf x qual (Jd0 st) (Ja2 st) (Jm st) .none kV doc pm an cdv ct∧K.lookup f=some ⟨oc,od,.func fd,osl⟩∧PySem.W.codeIn K cdv qual=true
 kp:PySem.W.keepIn K (.ref f)=true
section
variable {P:Program} {w:World} {K:PySem.W.Frag} {mg:Str→Option Value} {base:Heap}
theorem Fun.ok {x qual:Str} {st:Stmt} {f:Addr} {fd:FuncData} {N ps:List Str} {k:Nat} {sp:Sp} (F:Fun K x qual st f fd) (S:JC N ps (Jm st)) (len:∀ vs H Q E,sp vs H Q E→vs.length=ps.length)
  (hbody:∀ (cdv:Value) (A:Around) (outer:List Env) (s:Shared) (H:Hp) (vs:List V) (Q:VK) (E:XK),Y1 k (A.deeper (envOfC qual (Jm st) s.heap.objs.size f cdv))→sp vs H Q E →
   ∃ t,PSs (Z9 YK P w K mg base N qual (Jm st) f cdv A outer s H E).nox (Ja2 st) t∧t { nx:=fun _ H'=>Q .non H',rt:=Q } (YI N vs) H):JL P w K mg base YK (k + 1) f fd ps sp:=by
 obtain ⟨oc,od,kV,doc,pm,an,cdv,ct,osl,rfl,lk,hcd⟩:=F.ex;refine JrJ lk hcd S len fun A outer s H vs Q E hr hsp=>?_
 obtain ⟨t,h,q⟩:=hbody cdv A outer s H vs Q E hr hsp;exact ⟨t,h.nox,q⟩
theorem Fun.binds {x qual:Str} {st:Stmt} {f:Addr} {fd:FuncData} {ps:List Str} (F:Fun K x qual st f fd)
  (h:∀ (kV doc pm:Value) (an:Option Addr) (cdv ct:Value) (us:List Value),us.length=ps.length→bindArgs (PySem.W.fnOf x qual (Jd0 st) (Ja2 st) (Jm st) .none kV doc pm an cdv ct) ⟨us,[]⟩=pure (ps.zip us)):Jci K fd ps []:=by
 obtain ⟨oc,od,kV,doc,pm,an,cdv,ct,osl,rfl,lk,hcd⟩:=F.ex;exact .all (h kV doc pm an cdv ct)
end
theorem Ja1 {A:Around} {k:Nat} (hr:Y1 k A):A.units + 1 < cLine:=Nat.lt_of_le_of_lt (Nat.add_le_add_left (by decide:1≤64) _) hr.units
section
variable {X:Cx}
theorem pv (i:Nat) {x:Str} {pos:Pos} (hN:X.N[i]?=some x:=by rfl) (hv:Vis X.env.scope x:=by first | exact Or.inl rfl | exact Or.inr (Or.inl rfl) | exact Or.inr (Or.inr rfl)) (hd:(x == ("__debug__" : Str))=false:=by decide)
  (hcd:(x == ("__classdict__" : Str))=false:=by decide):PE X (.Name x pos) (JnW i):=Jl5 hN hv hd hcd
end
theorem Y5 {A B:Prop} (h:B):if false=true then A else B:=by
 rw [if_neg Bool.false_ne_true];exact h
theorem Y0 {A B:Prop} (h:A):if true=true then A else B:=by
 rw [if_pos rfl];exact h
theorem Yp {c A B:Prop} [Decidable c] (h1:c→A) (h2:¬ c→B):if c then A else B:=by
 by_cases h:c
 ·rw [if_pos h];exact h1 h
 ·rw [if_neg h];exact h2 h
def Jf (H H':Hp):Prop:=∀ b o,H b=some o→H' b=some o
theorem Jf.refl (H:Hp):Jf H H:=fun _ _ h=>h
theorem Jf.trans {H H1 H2:Hp} (a:Jf H H1) (b:Jf H1 H2):Jf H H2:=fun c o h=>b c o (a c o h)
theorem Jf.free {H H':Hp} (e:Jf H H') {l:Addr} (h:H' l=Option.none):H l=Option.none:=by
 cases q:H l with
 | none=>rfl
 | some o =>
  rw [e l o q] at h;cases h
theorem Jf.seq {K:PySem.W.Frag} {H H':Hp} {a:Addr} {xs:List V} (e:Jf H H') (h:Jp K H a xs):Jp K H' a xs:=by
 rcases h with (h | ⟨o,h⟩) | h
 ·exact .inl (.inl (e _ _ h))
 ·exact .inl (.inr ⟨o,e _ _ h⟩)
 ·exact .inr h
end L2
namespace L2
open PySem PySem.Spec PyProof.Rows
section
variable {X:Cx}
theorem JpT:Yv X (.builtin "len") (fun xs H Q=>∃ a kvs,xs=[V.ref a]∧H a=some (.dK kvs)∧Q (.int kvs.length) H):=by
 intro pins s σ H xs us Q I r h;obtain ⟨a,kvs,rfl,ha,q⟩:=h;obtain ⟨u,rfl,ru⟩:=JfS r;cases ru;exact Jua I (.inl ha) fun t s' I'=>⟨.int kvs.length,H,I',⟨t,rfl⟩,q⟩
end
end L2
namespace L2
open PySem PySem.Spec PyProof.Rows
structure Df (K:PySem.W.Frag) (mg:Str→Option Value) (x:Str) (st:Stmt) (ps:List Str) (f:Addr) (fd:FuncData):Prop where
 F:Fun K x x st f fd
 b:Jci K fd ps []
 m:mg x=some (.ref f)
section
variable {X:Cx} {CX:CXT} {k:Nat} {f C:Addr} {fd:FuncData} {ps:List Str} {sp:Sp} {E:XK} {x m:Str} {p pos apos:Pos} {st:Stmt} {e o:Expr} {es:List Expr} {te ta:TE} {t:TA}
theorem Jl (D:Df X.K X.mg x st ps f fd) (G:JL X.prog X.w X.K X.mg X.base CX k f fd ps sp) (hr:Y1 k X.A) (hx:Jas CX X E) (ha:PA X (e :: es) t)
  (hg:Gl X x:=by rfl) (hdb:(x == ("__debug__" : Str))=false:=by decide) (he:starEach (e :: es) X.env=(false,eval e X.env) :: starEach es X.env:=by rfl) (hpl:(backTo pos (starEach es X.env)).any (·.1)=false:=by rfl) :
  PE X (.Call (.Name x p) (e :: es) [] pos) (Jrw sp [] E t):=Jse G hr hg D.m D.F.kp D.b .nil hx ha hdb he hpl
def JoC:V→Value
 | .ty n=>.type n
 | .ref a=>.ref a
 | _=>.none
theorem Jau:Yv X (.builtin "isinstance") (fun xs H Q=>∃ x c t b,xs=[x,c]∧(∃ n,c=.ty n∨∃ a,c=.ref a)∧JcJ X.K H x t∧PySem.W.kitOne X.K t (JoC c)=some b∧Q (.bl b) H):=by
 intro pins s σ H xs us Q I r h;obtain ⟨x,c,t,b,rfl,hc,ty,e,q⟩:=h;cases r with
 | cons r rr =>
  cases rr with
  | cons r' rr =>
   cases rr;rename_i u u';have e':u'=JoC c:=by
    obtain ⟨n,rfl | ⟨a,rfl⟩⟩:=hc
    ·exact r'
    ·exact r'
   subst e';exact Jpy I r ty e fun tk=>⟨.bl b,H,I.tok _,rfl,q⟩
def Jt2 (S C:String):Option Bool:=if (Value.type S == Value.type C)=true then some true else if PySem.W.kitMeta C=true then (fastBuiltinMro S).map (·.contains (Value.type C)) else none
theorem JgZ {K:PySem.W.Frag} {S C:String} {b:Bool} (h:Jt2 S C=some b):PySem.W.kitOne K (.type S) (.type C)=some b:=h
theorem Jtp {K:PySem.W.Frag}:PySem.W.kitOne K (.type "int") (.type "int")=some true:=JgZ (by decide +kernel)
theorem Jtq {K:PySem.W.Frag}:PySem.W.kitOne K (.type "int") (.type "bool")=some false:=JgZ (by decide +kernel)
theorem Jto {K:PySem.W.Frag}:PySem.W.kitOne K (.type "int") (.type "str")=some false:=JgZ (by decide +kernel)
theorem Jmr {K:PySem.W.Frag}:PySem.W.kitOne K (.type "str") (.type "str")=some true:=JgZ (by decide +kernel)
theorem Jtn {K:PySem.W.Frag}:PySem.W.kitOne K (.type "tuple") (.type "tuple")=some true:=JgZ (by decide +kernel)
end
def Jux (t:TS):TS:=fun D σ H=>∃ R:St→Hp→Prop,t { D with nx:=R } σ H∧∀ σ' H',R σ' H'→D.nx σ' H'
theorem Yj {X:Cx} {st:Stmt} {t:TS} (h:PS X st t):PS X st (Jux t):=by
 intro pins s σ H D I ⟨R,q,n⟩;refine JY (h pins s σ H _ I q) fun f s1 z=>?_
 cases f with
 | next =>
  obtain ⟨σ',H',I',r⟩:=z;exact ⟨σ',H',I',n _ _ r⟩
 | brk=>exact z
 | cont=>exact z
 | ret u=>exact z
theorem Jf.upd {H:Hp} {p:Addr} {o:HO} (h:H p=none):Jf H (upd H p o):=fun b u e=>by
 rw [Jz (JA e h)];exact e
theorem Jf.tup {K:PySem.W.Frag} {H H':Hp} {a:Addr} {xs:List V} (e:Jf H H') (h:JX K H a xs):JX K H' a xs:=by
 rcases h with (h | ⟨o,h⟩) | h
 ·exact .inl (.inl (e _ _ h))
 ·exact .inl (.inr ⟨o,e _ _ h⟩)
 ·exact .inr h
theorem Zc {c:Bool} {A B:Prop} (hc:c=true) (h:A):if c=true then A else B:=by rw [if_pos hc]; exact h
theorem Yq {c:Bool} {A B:Prop} (hc:c=false) (h:B):if c=true then A else B:=by rw [hc,if_neg Bool.false_ne_true]; exact h
section
variable {X:Cx} {x:Str} {pos:Pos}
theorem Jee {S:String} (hg:Gl X x) (hm:X.mg x=none) (hv:bootBuiltins x=some (.type S)) (hn:x ≠ "__name__":=by decide) (hd:(x == ("__debug__" : Str))=false:=by decide):PE X (.Name x pos) (tC (.ty S)):=Jsf hg hm hv rfl hn hd
theorem Zt {a:Addr} (hg:Gl X x) (hm:X.mg x=some (.ref a)) (hd:(x == ("__debug__" : Str))=false:=by decide):PE X (.Name x pos) (tC (.ref a)):=ZY hg hm rfl hd
end
end L2
namespace L2
open PySem PySem.Spec PyProof.Rows
structure ExC (K:PySem.W.Frag) (C:Addr):Prop where
 ex:PySem.W.excIn K C [.type "ValueError",.type "Exception",.type "BaseException",.type "object"] "ValueError.__new__" = true
 ga:PySem.W.findIn K (.ref C) "__getattribute__" = some (some (.builtin "BaseException.__getattribute__"))
 gt:PySem.W.findIn K (.ref C) "__getattr__" = some none
 cl:PySem.W.findIn K (.ref C) "__class__" = some (some (.builtin "object.__class__"))
 sp:PySem.W.specialIn K (.builtin "object.__class__") "__get__" = some (some (.builtin "getset_descriptor.__get__"))
 tk:PySem.W.takesIn K (.builtin "object.__class__")=some true
 mo:PySem.W.mroIn K C (.type "object")=some true
 mb:PySem.W.mroIn K C (.type "BaseException")=some true
 ci:(PySem.W.clsIn K C).isSome=true
section
variable {prog:Program} {w:World} {A:Around} {E:Value→Shared→Prop} {s:Shared} {K:PySem.W.Frag} {e C:Addr} {oe:Obj}
def JiP (h:Heap) (e C:Addr):Prop:=∃ oe,h.get? e=some oe∧oe.cls=.ref C
theorem JiP.type {h:Heap} {M:Model} (I:JiP h e C):PySem.W.Looks M h (typeOf (.ref e)) (.ref C):=by
 obtain ⟨oe,h1,h2⟩:=I;exact h2 ▸ (PySem.W.Looks.ld h1).andThen .now
theorem Jra {M:Model} {h:Heap} (XC:ExC K C) (X:K.In h):PySem.W.Looks M h (Builtin.ObjectAttr.find (.ref e) (.ref C) "__class__") (.bind (.builtin "getset_descriptor.__get__") (.builtin "object.__class__")):=by
 have L1:=PySem.W.looks_findIn (M:=M) X XC.cl;have L2:=PySem.W.looks_specialIn (M:=M) X XC.sp;have L3:=PySem.W.looks_takesIn (M:=M) X XC.tk;unfold Builtin.ObjectAttr.find;refine L1.andThen (L2.andThen ?_);exact (show PySem.W.Looks M h (Builtin.ObjectAttr.dataDescriptor? (some (.builtin "object.__class__")) (some (.builtin "getset_descriptor.__get__"))) (some (.builtin "getset_descriptor.__get__",.builtin "object.__class__")) from L3.andThen .now).andThen (PySem.W.Looks.tag .now)
theorem Jrb {tp:Value} {R:Result→Shared→Prop} (XC:ExC K C) (X:K.In s.heap) (I:JiP s.heap e C)
  (h:R (.ok (.ret (.ref C))) s):codeAny (model prog w) A (.call (.builtin "getset_descriptor.__get__") ⟨[.builtin "object.__class__",.ref e,tp],[]⟩) R s:=by
 obtain ⟨hh,g,dr,t,os⟩:=s;have L0:=I.type (M:=model prog w);have L1:=PySem.W.looks_mroIn (M:=model prog w) X XC.mo;refine codeAny_call_builtin PySem.W.KF.slot_gs.plain PySem.W.KF.entry_gs (PySem.W.KF.slot_gs.check _ _ _ _ _ _ _ _ PySem.W.KF.type_class (PySem.W.KF.args_gs _ _ _) ?_);unfold Builtin.«getset_descriptor.__get__» Builtin.Getset_descriptor.descrGet;rw [PySem.W.dga_obj];refine wpAny_bind (wpAny_pure ?_);unfold Builtin.Getset_descriptor.descrGetter Builtin.Getset_descriptor.descrCheckInstance Builtin.Getset_descriptor.descrNameAndClass isInstance;simp only [PySem.W.KF.owner_class]
 repeat lk
 refine ⟨Code.quiet_builtin _ (by decide +kernel),codeAny_builtin PySem.W.KF.entry_class ?_⟩;unfold Builtin.«object.__class__» shownTypeOf
 repeat lk
 exact h
theorem Jnc {tk:Tok} {R:Result→Shared→Prop} (XC:ExC K C) (X:K.In s.heap) (I:JiP s.heap e C) (h:R (.ok (.ret (.ref C))) s) :
  codeAny (model prog w) A (.call (.builtin "BaseException.__getattribute__") ⟨[.ref e,.str "__class__" tk],[]⟩) R s:=by
 obtain ⟨hh,g,d,t,os⟩:=s;have L0:=I.type (M:=model prog w);have LB:=PySem.W.looks_mroIn (M:=model prog w) X XC.mb;have L1:=Jra (M:=model prog w) (e:=e) XC X;have hk:builtinKind "BaseException.__getattribute__" = some .slot:=by decide +kernel
 have hsplit:splitId "BaseException.__getattribute__" = some ("BaseException", "__getattribute__"):=by decide +kernel
 have ha:=F.args_bexc_ga (.ref e) (.str "__class__" tk);refine codeAny_call_builtin F.attr_ValueError.ga.plain F.entry_bexc_ga ?_;simp only [checkBuiltinCall,hk,hsplit];refine wpAny_bind ?_;unfold isInstance;refine wpAny_bind (L0.at (LB.at ?_));simp only [Bool.not_true,Bool.false_eq_true,if_false];have hc:wpAny (model prog w) A.in1 (Builtin.«object.__getattribute__» ⟨[.ref e,.str "__class__" tk],[]⟩) (fun fin s'=>match fin with | .done f=>R (.ok f) s' | .again c'=>c'.quiet=true∧codeAny (model prog w) A c' R s') (fun e s'=>R (.error e) s') ⟨hh,g,d,t,os⟩:=by
  unfold Builtin.«object.__getattribute__»;refine wpAny_bind (m:=slotArgs _ _ _) (wpAny_pure ?_);refine wpAny_bind (m:=Builtin.ObjectAttr.attrName _) (wpAny_pure ?_);refine wpAny_bind (L0.at (wpAny_bind (L1.at ?_)));show wpAny _ _ (holding [.builtin "object.__class__"] (call (.builtin "getset_descriptor.__get__") [.builtin "object.__class__",.ref e,.ref C]) >>= ret) _ _ _;refine wpAny_bind (wpAny_holding (wpAny_call (Jrb (s:=⟨hh,g,d,t,os⟩) XC X I ?_)));exact wpAny_pure h
 repeat (any_goals (first | assumption | wp_step))
theorem JpH {Q:Option Value→Shared→Prop} (XC:ExC K C) (X:K.In s.heap) (I:JiP s.heap e C) (h:Q (some (.ref C)) { s with toks:=s.toks + 1 }):wpAny (model prog w) A (getAttr? (.ref e) "__class__") Q E s:=by
 obtain ⟨hh,g,d,t,os⟩:=s;have L0:=I.type (M:=model prog w);have L1:=PySem.W.looks_findIn (M:=model prog w) X XC.ga;have L2:=PySem.W.looks_findIn (M:=model prog w) X XC.gt;have f3:=F.attr_ValueError.ga.bind (.ref e);unfold getAttr? getAttrBy? getAttrBy;refine wpAny_bind (wpAny_mkText (wpAny_bind (wpAny_attempt (wpAny_holding (wpAny_bind (L0.at (wpAny_bind (L1.at ?_))))))));have hx2:(onTheHeap (Value.ref C) && Value.builtin "BaseException.__getattribute__" == Value.builtin "object.__getattribute__")=false:=by
  rw [show (Value.builtin "BaseException.__getattribute__" == Value.builtin "object.__getattribute__")=false by decide +kernel,Bool.and_false]
 dsimp only;rw [hx2,if_neg Bool.false_ne_true];unfold getAttrByItsOwn hookBefore;rw [if_pos (show onTheHeap (Value.ref C)=true from rfl)];refine wpAny_bind (L2.at ?_);refine wpAny_bind (wpAny_attempt (wpAny_holding ?_));unfold callGetattribute boundAndCalled;rw [Bool.false_and,if_neg Bool.false_ne_true];refine wpAny_bind (wpAny_of_eq f3 ?_);refine wpAny_call (Jnc (s:=⟨hh,g,d,t + 1,os⟩) XC X I ?_);exact PySem.W.handed_on rfl (wpAny_pure h)
theorem Jq3 (XC:ExC K C):PySem.W.KitX K (.ref e) (.ref C) (fun h=>JiP h e C) where
 ty:=fun _ _ _ I=>I.type
 it:=fun _ _ X _=>by
  obtain ⟨cd,hc⟩:=Option.isSome_iff_exists.mp XC.ci;unfold PySem.W.clsIn at hc;split at hc
  ·rename_i c' d' cd' sl' ho;intro A' Q' E' s' k q;unfold isType loadHead;exact wpAny_bind (wpAny_loadPart (k _ _ (X _ _ ho)) (wpAny_pure q))
  ·cases hc
 ne:=fun h tp dd its n sl X htp=>by
  obtain ⟨cd,hc⟩:=Option.isSome_iff_exists.mp XC.ci;refine Bool.eq_false_iff.mpr fun q=>?_
  have e:C=tp:=Value.ref.inj (beq_iff_eq.mp q);subst e;unfold PySem.W.clsIn at hc;split at hc
  ·rename_i c' d' cd' sl' ho;have z:=(X _ _ ho).symm.trans htp;cases z
  ·cases hc
 ca:=fun X I k=>JpH XC X I k
end
structure JoH (P:Program) (w:World) (outer:List Env) (H:Hp) (h:Heap) (ea C:Addr) (B:Heap) (H':Hp) (h':Heap):Prop where
 fly:∃ a0,Heap.FlyingW B outer ea (.ref C) a0 h'
 hok:ZE P w H' B
 keep:∀ b o,h.get? b=some o→H b=none→b∉ZU outer→B.get? b=some o
 there:∀ b o,h.get? b=some o→b∉ZU outer→∃ o',B.get? b=some o'
 slot:∀ b o,h.get? b=some o→b∈ZU outer→∃ sl,h'.get? b=some { o with slots:=sl }
 free:∀ b o,h.get? b=some o→H b=none→H' b=none
 tups:∀ b xs,H b=some (.tup xs)→H' b=some (.tup xs)
 frzs:∀ b o u,H b=some (.frz o u)→H' b=some (.frz o u)
 tbls:∀ b ps,H b=some (.tbl ps)→∃ more,H' b=some (.tbl (ps ++ more))
theorem JoH.un {P:Program} {w:World} {outer:List Env} {H H':Hp} {h h' h'' B:Heap} {ea C:Addr} (F:JoH P w outer H h ea C B H' h') (st:B.StaysIn h'') (sl:∀ b o,h.get? b=some o→b∈ZU outer→∃ sl,h''.get? b=some { o with slots:=sl }) :
  Un (ZU outer) [] H H' h h'' where
 keep:=fun b o e n hb _=>st b o (F.keep b o e n hb)
 slot:=fun b o e n hb _=>sl b o e hb
 free:=fun b o e n _=>F.free b o e n
 there:=fun b o e _=>by
  by_cases hb:b∈ZU outer
  ·obtain ⟨s,q⟩:=sl b o e hb;exact ⟨_,q⟩
  ·obtain ⟨o',q⟩:=F.there b o e hb;exact ⟨o',st b o' q⟩
 tups:=F.tups
 frzs:=F.frzs
 tbls:=F.tbls
theorem Jim {h' h'' base:Heap} {l:List Env} (hl:h'.FunFrames base l) (k:h'.UpToSlots h'') {b:Addr} {o:Obj} {sl:Array (Option Value)} (e:h'.get? b=some { o with slots:=sl }) (hb:b∈ZU l):∃ sl,h''.get? b=some { o with slots:=sl }:=by
 obtain ⟨_,o',ho',hd⟩:=hl.mem hb;rw [e] at ho';cases ho';obtain ⟨s,q⟩:=k b _ e hd;exact ⟨s,q⟩
abbrev Zf (P:Program) (w:World):CXT:=fun outer H s E e s'=>∃ (ea C:Addr) (B:Heap) (H':Hp),e=.ref ea∧s'.os=s.os∧AllBare s'.gens∧JoH P w outer H s.heap ea C B H' s'.heap∧E (.ref C) none H'
theorem JL.lift {P:Program} {w:World} {K:PySem.W.Frag} {mg:Str→Option Value} {base:Heap} {CX:CXT} {k:Nat} {f:Addr} {fd:FuncData} {ps:List Str} {sp:Sp} (F:JL P w K mg base YK k f fd ps sp) :
  JL P w K mg base CX k f fd ps sp:=⟨F.len,fun A outer s H args us vs Q E hr he hb hv hs=>codeAny_mono (F.run A outer s H args us vs Q E hr he hb hv hs) fun r s' hq=>by
   cases r with
   | error e=>exact False.elim hq
   | ok fl=>cases fl <;> exact hq⟩
def Jp2 (X:Cx) (E:XK):Prop:=∀ (pins:List (Addr×Obj)) (σ:St) (H:Hp) (s:Shared) (ea C:Addr) (vs:List Value) (h':Heap),Jn X pins σ H s→Heap.MadeExcOf s.heap h' ea (.ref C) vs→E (.ref C) none H→X.xe (.ref ea) { s with heap:=h' }
section
variable {P:Program} {w:World} {K:PySem.W.Frag} {mg:Str→Option Value} {base:Heap} {N:List Str} {qual:Str} {sc:Scope} {f:Addr} {cd:Value} {A:Around} {outer:List Env} {s:Shared} {H:Hp} {E:XK}
theorem JbA:Jp2 (Z9 (Zf P w) P w K mg base N qual sc f cd A outer s H E) E:=by
 intro pins σ H1 s1 ea C vs h' I hx q;have hstk:ZU (Z9 (Zf P w) P w K mg base N qual sc f cd A outer s H E).stack=s.heap.objs.size :: ZU outer:=rfl;have hin:∀ env∈(Z9 (Zf P w) P w K mg base N qual sc f cd A outer s H E).stack,∀ a,env.frame=some a→a∈ZU (Z9 (Zf P w) P w K mg base N qual sc f cd A outer s H E).stack:=fun env he a ha=>List.mem_filterMap.mpr ⟨env,he,ha⟩
 have notin:∀ {b:Addr} {o:Obj},s.heap.get? b=some o→b∉ZU outer→b∉ZU (Z9 (Zf P w) P w K mg base N qual sc f cd A outer s H E).stack:=fun {b o} e hb hm=>by
  rw [hstk] at hm;rcases List.mem_cons.mp hm with z | z
  ·exact absurd (Heap.lt_size e) (by rw [z]; exact Nat.lt_irrefl _)
  ·exact hb z
 have noex:∀ b:Addr,b∉(Z9 (Zf P w) P w K mg base N qual sc f cd A outer s H E).ex:=fun b z=>absurd (show b∈([]:List Addr) from z) (by simp)
 refine wpAny_leaves_madeW (base:=PySem.W.hideAll s1.heap (ZU (Z9 (Zf P w) P w K mg base N qual sc f cd A outer s H E).stack)) (h:=s1.heap) I.ok.frames rfl (fun b o e=>PySem.W.of_hideAll _ e) (PySem.W.funFrames_hide I.stack hin) hx fun h'' t x1 x2 x3 x4=>?_
 have hF0:s1.heap.FunFrames base outer:=I.funs;have hF1:h'.FunFrames base outer:=hF0.of_keeps fun b o e _=>⟨o,hx.keeps b o e,rfl⟩
 refine ⟨ea,C,_,H1,rfl,I.os,I.bare,⟨⟨_,x1⟩,fun a o e=>?_,fun b o e n hb=>?_,fun b o e hb=>?_,fun b o e hb=>?_,fun b o e n=>I.base.free b o e n (noex b),I.base.tups,I.base.frzs,I.base.tbls⟩,q⟩
 ·have tin:∀ b u,H1 b=some u→∀ o,s1.heap.get? b=some o→(PySem.W.hideAll s1.heap (ZU (Z9 (Zf P w) P w K mg base N qual sc f cd A outer s H E).stack)).get? b=some o:=fun b u hu o ho=>PySem.W.hideAll_get _ ho fun hm=>by
   rw [I.stkFree b hm] at hu; cases hu
  refine (I.hok a o e).stay (fun b u hb hq=>?_) (fun _ z=>z) fun _ _ z=>z
  rcases hb with rfl | hb
  ·exact tin _ _ e u hq
  ·exact tin _ _ hb u hq
 ·exact PySem.W.hideAll_get _ (I.base.keep b o e n hb (noex b)) (notin e hb)
 ·obtain ⟨o',e'⟩:=I.base.there b o e (noex b);exact ⟨o',PySem.W.hideAll_get _ e' (notin e hb)⟩
 ·obtain ⟨sl,e1⟩:=I.base.slot b o e (I.ok.frf b hb) hb (noex b);exact Jim hF1 x4 (hx.keeps _ _ e1) hb
theorem Y3:Jas (Zf P w) (Z9 (Zf P w) P w K mg base N qual sc f cd A outer s H E) E:=by
 intro pins σ H1 s1 e s' I hq;obtain ⟨ea,C,B,H2,rfl,os,bare,fl,q⟩:=hq;have hstk:ZU (Z9 (Zf P w) P w K mg base N qual sc f cd A outer s H E).stack=s.heap.objs.size :: ZU outer:=rfl;have sub:∀ {b:Addr},b∈ZU outer→b∈ZU (Z9 (Zf P w) P w K mg base N qual sc f cd A outer s H E).stack:=fun hb=>by rw [hstk]; exact List.mem_cons_of_mem _ hb
 have notin:∀ {b:Addr} {o:Obj},s.heap.get? b=some o→b∉ZU outer→b∉ZU (Z9 (Zf P w) P w K mg base N qual sc f cd A outer s H E).stack:=fun {b o} e hb hm=>by
  rw [hstk] at hm;rcases List.mem_cons.mp hm with z | z
  ·exact absurd (Heap.lt_size e) (by rw [z]; exact Nat.lt_irrefl _)
  ·exact hb z
 have noex:∀ b:Addr,b∉(Z9 (Zf P w) P w K mg base N qual sc f cd A outer s H E).ex:=fun b z=>absurd (show b∈([]:List Addr) from z) (by simp)
 obtain ⟨a0,fly⟩:=fl.fly;refine wpAny_leaves_onW I.ok.frames rfl fly fun h'' x1 x2=>?_
 refine ⟨ea,C,B,H2,rfl,os.trans I.os,bare,⟨⟨_,x1⟩,fl.hok,fun b o e n hb=>?_,fun b o e hb=>?_,fun b o e hb=>?_,fun b o e n=>?_,fun b xs e=>fl.tups b xs (I.base.tups b xs e),fun b o u e=>fl.frzs b o u (I.base.frzs b o u e),fun b ps e=>?_⟩,q⟩
 ·exact fl.keep b o (I.base.keep b o e n hb (noex b)) (I.base.free b o e n (noex b)) (notin e hb)
 ·obtain ⟨o',e'⟩:=I.base.there b o e (noex b);exact fl.there b o' e' (notin e hb)
 ·obtain ⟨sl,e1⟩:=I.base.slot b o e (I.ok.frf b hb) hb (noex b);obtain ⟨sl',e2⟩:=fl.slot b _ e1 (sub hb);exact Jim fly.2.2.1 x2 e2 (sub hb)
 ·obtain ⟨o',e'⟩:=I.base.there b o e (noex b);exact fl.free b o' e' (I.base.free b o e n (noex b))
 ·obtain ⟨m1,e1⟩:=I.base.tbls b ps e;obtain ⟨m2,e2⟩:=fl.tbls b _ e1;exact ⟨m1 ++ m2,by rw [e2,Array.append_assoc]⟩
theorem Fun.ok1 {x:Str} {st:Stmt} {fd:FuncData} {ps:List Str} {k:Nat} {sp:Sp} (F:Fun K x qual st f fd) (S:JC N ps (Jm st)) (len:∀ vs H Q E,sp vs H Q E→vs.length=ps.length)
  (hbody:∀ (cdv:Value) (A:Around) (outer:List Env) (s:Shared) (H:Hp) (vs:List V) (Q:VK) (E:XK),Y1 k (A.deeper (envOfC qual (Jm st) s.heap.objs.size f cdv))→sp vs H Q E →
   ∃ t,PSs (Z9 (Zf P w) P w K mg base N qual (Jm st) f cdv A outer s H E) (Ja2 st) t∧t { nx:=fun _ H'=>Q .non H',rt:=Q } (YI N vs) H):JL P w K mg base (Zf P w) (k + 1) f fd ps sp:=by
 obtain ⟨oc,od,kV,doc,pm,an,cdv,ct,osl,rfl,lk,hcd⟩:=F.ex;exact JrJ lk hcd S len fun A outer s H vs Q E hr hsp=>hbody cdv A outer s H vs Q E hr hsp
theorem Fun.ok2 {x:Str} {st:Stmt} {fd:FuncData} {ps:List Str} {k:Nat} {sp:Sp} {CX:CXT} (F:Fun K x qual st f fd) (S:JC N ps (Jm st)) (len:∀ vs H Q E,sp vs H Q E→vs.length=ps.length)
  (hbody:∀ (cdv:Value) (A:Around) (outer:List Env) (s:Shared) (H:Hp) (vs:List V) (Q:VK) (E:XK),Y1 k (A.deeper (envOfC qual (Jm st) s.heap.objs.size f cdv))→sp vs H Q E →
   ∃ t,PSs (Z9 YK P w K mg base N qual (Jm st) f cdv A outer s H E).nox (Ja2 st) t∧t { nx:=fun _ H'=>Q .non H',rt:=Q } (YI N vs) H):JL P w K mg base CX (k + 1) f fd ps sp:=(F.ok S len hbody).lift
end
section
variable {X:Cx} {x:Str} {C:Addr} {e:Expr} {te:TE} {np cpos pos:Pos} {E:XK}
def JlJ (C:Addr) (E:XK) (te:TE):TS:=fun D σ H=>te σ H fun v H'=>E (.ref C) none H'
theorem Jsh {K:PySem.W.Frag} {h:Heap} {bmB:List Value} {newId:String} (X:K.In h) (q:PySem.W.excIn K C bmB newId=true):OwnCls x C bmB newId (fun _=>some (.ref C)) h:=by
 refine ⟨rfl,?_⟩;unfold PySem.W.excIn at q;split at q
 ·rename_i dd cd sl ho;split at q
  ·rename_i C' bm k0 k1 k2 k3 n k5 hm hs;simp only [Bool.and_eq_true,beq_iff_eq,Bool.not_eq_true'] at q;obtain ⟨⟨⟨⟨⟨rfl,rfl⟩,hdel⟩,ht⟩,hok⟩,hni⟩:=q;obtain ⟨nm,bs,mro,ns,qn,hd,sn,sub,ab,col,del⟩:=cd;dsimp only at hm hdel hok hni;subst hm hdel;have hsl:sl=#[k0,k1,k2,k3,some (.builtin n),k5]:=by
    obtain ⟨l⟩:=sl;simp only at hs;rw [hs]
   subst hsl;exact ⟨bm,ns,nm,qn,bs,hd,sn,sub,ab,col,dd,k0,k1,k2,k3,k5,_,X _ _ ho,.of_isNs (PySem.W.isNs_of_in X hok),PySem.W.nsMap_none_of_in X hok hni,PySem.W.tail_of_in X ht⟩
  ·cases q
 ·cases q
theorem JaN (XC:ExC X.K C) (hm:X.mg x=some (.ref C)) (hr:Jp2 X E) (he:PE X e te) (hc:X.calm=true:=by rfl) (hg:Gl X x:=by rfl) (hd:(x == ("__debug__" : Str))=false:=by decide)
  (hs:starEach [e] X.env=[(false,eval e X.env)]:=by rfl):PS X (.Raise (some (.Call (.Name x np) [e] [] cpos)) none pos) (JlJ C E te):=by
 intro pins s σ H D I h;obtain ⟨tl,N,nm,q,bs,hdct,sn,sub,ab,col,dd,k0,k1,k2,k3,k5,mN,hC,hN,hni,T⟩:=(Jsh (x:=x) I.mod.kin XC.ex).obj;refine wpAny_Raise_call_subU (C:=C) (nm:=nm) (q:=q) (N:=N) (bs:=bs) (bm:=tl) (hdct:=hdct) (sn:=sn) (sub:=sub) (ab:=ab) (col:=col) (dd:=dd) (k0:=k0) (k1:=k1) (k2:=k2) (k3:=k3) (k5:=k5) (mN:=mN)
  F.excBase_ValueError F.excBase_ValueError.hasB F.excBase_ValueError (T.hasType F.excBase_ValueError.hasBase) (I.ok.hd hc) (by rw [hs]; rfl) hni (JdV I hg hm ⟨rfl,?_⟩ hd)
 rw [hs];refine Calls.evalArgs_plain (Calls.spliced_cons (JY (he pins s σ H _ I h) fun u s1 ⟨v,H1,I1,r1,q1⟩=>?_));exact Calls.spliced_nil ⟨rfl,by show 1≤sizeLine; decide,I1.bk _ _ hC,hN.keeps I1.bk,T.keeps I1.bk,fun h' ea hx=>hr pins σ H1 s1 ea C _ h' I1 hx q1⟩
end
theorem YA.at_ {P:Program} {w:World} {H:Hp} {h:Heap} {a:Addr} {o:HO} (x:YA P w H h a o):∃ ob,h.get? a=some ob:=by
 cases o with
 | lst xs=>obtain ⟨_,_,_,_,e⟩:=x; exact ⟨_,e⟩
 | tup xs=>obtain ⟨_,_,_,ob,e,_⟩:=x; exact ⟨_,e⟩
 | dK kvs=>obtain ⟨_,_,_,_,o,_,_,e,_⟩:=x; exact ⟨_,e⟩
 | dT kvs=>obtain ⟨_,_,_,_,o,_,_,e,_⟩:=x; exact ⟨_,e⟩
 | set S n=>obtain ⟨o,_,_,_,e,_⟩:=x; exact ⟨_,e⟩
 | ins C dx fs=>obtain ⟨_,_,_,e,_⟩:=x; exact ⟨_,e⟩
 | own y=>obtain ⟨_,e⟩:=x; exact ⟨_,e⟩
 | xd fs=>obtain ⟨_,⟨_,_,_,e,_⟩,_⟩:=x; exact ⟨_,e⟩
 | rng lo hi=>obtain ⟨_,_,_,e⟩:=x; exact ⟨_,e⟩
 | frz ob u=>obtain ⟨e,_⟩:=x; exact ⟨_,e⟩
 | tbl ps=>exact ⟨_,(show h.get? a=some _ from x)⟩
 | met f y=>exact ⟨_,(show h.get? a=some _ from x)⟩
 | ext φ=>obtain ⟨_,⟨_,e⟩,_⟩:=x; exact ⟨_,e⟩
section
variable {X:Cx} {pins:List (Addr×Obj)} {σ:St} {H:Hp} {s:Shared}
theorem JeY {M:Model} {A:Around} {E:Value→Shared→Prop} {i:Nat} {x:Str} {pos:Pos} {Q:Unit→Shared→Prop} (I:Jn X pins σ H s) (hN:X.N.Nodup) (hi:X.N[i]?=some x) (hk:X.env.scope.names.lookup x=some .local)
  (h:∀ s',Jn X pins (σ.set i none) H s'→Q () s'):wpAny M A (do bindName X.env x .none; unbindBehindTheSuite X.env x pos) Q E s:=by
 obtain ⟨m,hn,hl⟩:=id I.loc;have hcls:(X.env.scope.kind == .class || (X.env.scope.kind == .module && X.env.locals != X.env.globals))=false:=by rw [I.ok.kind]; rfl
 have hiσ:i < σ.length:=by rw [I.len]; exact (List.getElem?_eq_some_iff.mp hi).1
 have cne:=I.cne;have tracked:∀ {a:Addr} {h':Heap},(∃ o,s.heap.get? a=some o∧H a=none)→Heap.SameBut a s.heap h'→ZE X.prog X.w H h':=fun {a h'} ha hs b ob e=>by
  obtain ⟨_,_,hfree⟩:=ha;refine (I.hok b ob e).stay (fun c w' hc q=>(hs.2 c ?_).trans q) (fun _ q=>q) fun _ _ q=>q
  rintro rfl;rcases hc with rfl | hc
  ·rw [hfree] at e; cases e
  ·rw [hfree] at hc; cases hc
 refine wpAny_nameGoes_keeps hk hn hcls (fun h' v0 hn' hs=>?_);obtain ⟨oL,_,_,hoL,_⟩:=id hn;refine h _ ⟨I.ok,I.os,I.bare,⟨fun b o e n hb hx=>?_,fun b o e n hb hx=>?_,I.base.free,fun b o e hx=>?_,I.base.tups,I.base.frzs,I.base.tbls⟩,⟨_,hn',fun j y v' e1 e2 e3=>?_⟩,fun y c e=>?_,I.free,I.freeC,fun p hp=>?_,tracked ⟨oL,hoL,I.free⟩ hs,by simpa using I.len⟩
 ·exact (hs.2 b (Nat.ne_of_lt (Nat.lt_of_lt_of_le (Heap.lt_size e) I.ok.above))).trans (I.base.keep b o e n hb hx)
 ·obtain ⟨sl,e1⟩:=I.base.slot b o e n hb hx;exact ⟨sl,(hs.2 b (Nat.ne_of_lt (Nat.lt_of_lt_of_le (Heap.lt_size e) I.ok.above))).trans e1⟩
 ·obtain ⟨o',e1⟩:=I.base.there b o e hx;exact ⟨o',(hs.2 b (Nat.ne_of_lt (Nat.lt_of_lt_of_le (Heap.lt_size e) I.ok.above))).trans e1⟩
 ·by_cases hj:j=i
  ·subst hj;rw [List.getElem?_set_self hiσ] at e2;cases e2
  ·rw [List.getElem?_set_ne (Ne.symm hj)] at e2;obtain ⟨u',r',q⟩:=hl j y v' e1 e2 e3;refine ⟨u',r',?_⟩;rcases q with ⟨k,e⟩ | ⟨k,c,e,z⟩
   ·refine .inl ⟨k,?_⟩;have:y≠x:=fun e=>hj (Jiw hN e1 (e ▸ hi))
    simp [this,e]
   ·exact .inr ⟨k,c,e,z.sameBut hs (cne y c e)⟩
 ·obtain ⟨w',z⟩:=I.cell y c e;exact ⟨w',z.sameBut hs (cne y c e)⟩
 ·obtain ⟨e,n,ne,nf,d⟩:=I.pin p hp;exact ⟨(hs.2 p.1 ne).trans e,n,ne,nf,d⟩
theorem Jn.turn_to {A:Around} {calm:Bool} {pn pins':List (Addr×Obj)} {xe:Value→Shared→Prop} {σ':St} (I:Jn X pins σ H s) (hf:A.frames=X.A.frames) (hc:calm=true→A.handled=none) (hp:∀ p∈pn ++ pins',p∈X.pn ++ pins∨(s.heap.get? p.1=some p.2∧H p.1=none∧p.1≠X.env.locals∧p.1∉X.fs∧∀ v,p.2.data≠.cell v))
  (hl:σ'.length=σ.length) (wk:∀ (i:Nat) v,σ'[i]?=some (some v)→σ[i]?=some (some v)):Jn { X with A:=A,calm:=calm,pn:=pn,xe:=xe } pins' σ' H s :=
 ⟨⟨I.ok.mod,I.ok.kind,I.ok.glob,I.ok.blt,I.ok.above,I.ok.inj,I.ok.has,I.ok.cab,hc,hf.trans I.ok.frames,I.ok.stk,I.ok.exf,I.ok.bs,I.ok.bsz,I.ok.noex,I.ok.exfs,I.ok.funs,I.ok.frf⟩,I.os,I.bare,I.base,
  let ⟨m,hn,hl'⟩:=I.loc; ⟨m,hn,fun i x v e1 e2 e3=>hl' i x v e1 (wk i v e2) e3⟩,I.cell,I.free,I.freeC,fun p q=>(hp p q).elim (fun z=>I.pin p z) fun z=>z,I.hok,hl.trans I.len⟩
end
def Jus (K:PySem.W.Frag) (Ch:Addr) (i n:Nat) (E:XK) (tb:TS) (th:Addr→Addr→TS):TS:=fun D σ H=>tb D σ H∧∀ ea C H',E (.ref C) none H'→PySem.W.exmOne K (.ref C) (.ref Ch)=some true ∧
 th ea C { nx:=fun σ' H''=>D.nx (σ'.set i none) H'',rt:=D.rt,bk:=fun σ' H''=>D.bk (σ'.set i none) H'',ct:=fun σ' H''=>D.ct (σ'.set i none) H'' } ((List.replicate n none).set i (some (.ref ea))) H'
theorem Js9 {X:Cx} {body:List Stmt} {x nm:Str} {i:Nat} {Ch:Addr} {h0:Stmt} {hs:List Stmt} {tb:TS} {th:Addr→Addr→TS} {np hpos pos:Pos} (E:XK) (hN:X.N.Nodup) (hm:X.mg x=some (.ref Ch)) (hi:X.N[i]?=some nm)
  (hb:∀ (pn:List (Addr×Obj)) (xe:Value→Shared→Prop),Jas (Zf X.prog X.w) { X with A:=X.A,calm:=X.calm,pn:=pn,xe:=xe } E→PSs { X with A:=X.A,calm:=X.calm,pn:=pn,xe:=xe } body tb)
  (hh:∀ (ea C:Addr) (oe:Obj) (A:Around) (pn:List (Addr×Obj)),(ea,oe)∈pn→oe.cls=.ref C→PSs { X with A:=A,calm:=false,pn:=pn,xe:=fun _ _=>False } (h0 :: hs) (th ea C))
  (hl:X.env.scope.names.lookup nm=some .local:=by rfl) (hg:Gl X x:=by rfl) (hst:X.stack=X.env :: X.outer:=by rfl) (hfr:X.env.frame=some X.env.locals:=by rfl) (hd:(x == ("__debug__" : Str))=false:=by decide) :
  PS X (.Try body [.ExceptHandler (some (.Name x np)) (some nm) (h0 :: hs) hpos] [] [] pos) (Jus X.K Ch i X.N.length E tb th):=by
 intro pins s σ H D I ⟨hbq,hhq⟩;let XE:Value→Shared→Prop:=fun e s'=>∃ pins' σ' H1 s1,Jn { X with A:=X.A,calm:=X.calm,pn:=X.pn ++ pins,xe:=fun _ _=>False } pins' σ' H1 s1∧Zf X.prog X.w X.stack H1 s1 E e s'
 have I1:Jn { X with A:=X.A,calm:=X.calm,pn:=X.pn ++ pins,xe:=XE } [] σ H s:=I.turn_to rfl I.ok.hd (fun p hp=>.inl (by simpa using hp)) rfl fun _ _ e=>e
 have hpass:Jas (Zf X.prog X.w) { X with A:=X.A,calm:=X.calm,pn:=X.pn ++ pins,xe:=XE } E:=fun pins' σ' H1 s1 e s' I' hq=>⟨pins',σ',H1,s1,I'.turn_to (X:={ X with A:=X.A,calm:=X.calm,pn:=X.pn ++ pins,xe:=XE }) rfl I'.ok.hd (fun p hp=>.inl hp) rfl fun _ _ e=>e,hq⟩
 have back:∀ {A:Around} {calm:Bool} {pn:List (Addr×Obj)} {xe:Value→Shared→Prop} {σ':St} {H':Hp} {s':Shared},(∀ p∈X.pn ++ pins,p∈pn ++ [])→Jn { X with A:=A,calm:=calm,pn:=pn,xe:=xe } [] σ' H' s'→Jn X pins σ' H' s':=fun hp I' =>
  ⟨I.ok,I'.os,I'.bare,I'.base,I'.loc,I'.cell,I'.free,I'.freeC,fun p q=>I'.pin p (hp p q),I'.hok,I'.len⟩
 refine wpAny_Try_except (wpAny_mono (hb _ _ hpass [] s σ H D I1 hbq) (fun f s1 z=>?_) fun e s1 z=>?_)
 ·have bk:=fun {σ' H' s'}=>back (A:=X.A) (calm:=X.calm) (pn:=X.pn ++ pins) (xe:=XE) (σ':=σ') (H':=H') (s':=s') (fun p hp=>by simpa using hp)
  cases f with
  | next=>obtain ⟨σ',H',I',q⟩:=z; exact wpAny_execs_nil ⟨σ',H',bk I',q⟩
  | brk=>obtain ⟨σ',H',I',q⟩:=z; exact ⟨σ',H',bk I',q⟩
  | cont=>obtain ⟨σ',H',I',q⟩:=z; exact ⟨σ',H',bk I',q⟩
  | ret u=>obtain ⟨v,σ',H',I',r,q⟩:=z; exact ⟨v,σ',H',bk I',r,q⟩
 ·obtain ⟨pins',σ',H1,s0,I',ea,C,B,H2,rfl,os,bare,fl,q⟩:=z;obtain ⟨hexm,hth⟩:=hhq ea C H2 q;obtain ⟨a0,fly⟩:=fl.fly;have fly':Heap.FlyingW B (X.env :: X.outer) ea (.ref C) a0 s1.heap:=by rw [← hst]; exact fly
  refine wpAny_looks_onW (env:=X.env) (outer:=X.outer) (by rw [← hst]; exact I.ok.frames) hfr fly' fun h4 held4 sm4=>?_
  refine wpAny_landsW held4 fun h5 fly5 sm5=>?_
  have mk:∀ {h6:Heap} {t:Nat},Heap.FlyingW B (X.env :: X.outer) ea (.ref C) a0 h6→s1.heap.UpToSlots h6→Jn { X with A:=X.A,calm:=X.calm,pn:=X.pn ++ pins,xe:=fun _ _=>False } pins' σ' H2 { s1 with heap:=h6,toks:=t }:=fun {h6 t} f6 u6=>by
   refine I'.call' (s':={ s1 with heap:=h6,toks:=t }) (ch:=[]) os (fl.un f6.1 fun b o e hb=>?_) (fl.hok.kept fun b u e=>f6.1 b u e) bare (fun b z=>nomatch z);obtain ⟨sl,e1⟩:=fl.slot b o e hb;exact Jim fly.2.2.1 u6 e1 hb
  have I5:Jn { X with A:=X.A.mark (some (.ref ea)),calm:=false,pn:=X.pn ++ pins,xe:=fun _ _=>False } [] (List.replicate X.N.length none) H2 { s1 with heap:=h5 } :=
   (mk (t:=s1.toks) fly5 (sm4.trans sm5)).turn_to rfl (fun z=>by cases z) (fun p hp=>.inl (List.mem_append_left _ (by simpa using hp))) (by rw [List.length_replicate]; exact I'.len.symm) fun j v e=>by
    rw [List.getElem?_replicate] at e;split at e <;> cases e
  refine wpAny_handleBy_cons (codeAny_handlers_test (JdV I5 hg hm ?_ hd)) (by intro q; cases q);obtain ⟨ob,hob,hobc⟩:=fly5.there;refine PySem.W.exm_one (M:=model X.prog X.w) I5.kIn (JiP.type ⟨ob,hob,hobc⟩) hexm _ _ _ _ (fun _ _ e=>e) ?_;refine codeAny_handlers_suite_as (lands_againW fly5 fun h6 fly6 sm6=>?_);obtain ⟨oe,ws,hoe,hoec,hoed,hoe0⟩:=fly6.first;have u6:=(sm4.trans sm5).trans sm6;have n2:H2 ea=none:=by
   cases z:H2 ea with
   | none=>rfl
   | some u =>
    obtain ⟨ob,zz⟩:=(fl.hok ea u z).at_;rw [fly6.2.1] at zz; cases zz
  have nL:ea≠X.env.locals:=fun z=>by
   obtain ⟨_,⟨L,o,hf,_,ho,hdd⟩,_⟩:=fly6.2.2.1;rw [hfr] at hf; cases hf;rw [← z,hoe] at ho; cases ho;exact hdd _ hoed
  have nF:ea∉X.fs:=fun z=>by
   obtain ⟨_,o,ho,hdd⟩:=fly6.2.2.1.2.2.mem z;rw [hoe] at ho; cases ho;exact hdd _ hoed
  have I6:Jn { X with A:=X.A.mark (some (.ref ea)),calm:=false,pn:=X.pn ++ pins ++ [(ea,oe)],xe:=fun _ _=>False } [] (List.replicate X.N.length none) H2 { s1 with heap:=h6 } :=
   (mk (t:=s1.toks) fly6 u6).turn_to rfl (fun z=>by cases z) (fun p hp=>by
    rw [List.append_nil] at hp;rcases List.mem_append.mp hp with z | z
    ·exact .inl (List.mem_append_left _ z)
    ·have z':p=(ea,oe):=by simpa using z
     subst z';exact .inr ⟨hoe,n2,nL,nF,fun v z=>by rw [hoed] at z; cases z⟩) (by rw [List.length_replicate]; exact I'.len.symm) fun j v e=>by
    rw [List.getElem?_replicate] at e;split at e <;> cases e
  refine Jij (X:={ X with A:=X.A.mark (some (.ref ea)),calm:=false,pn:=X.pn ++ pins ++ [(ea,oe)],xe:=fun _ _=>False }) I6 hN hi (Or.inl hl) (v:=.ref ea) rfl (fun s7 I7=>?_) (Or.inr hl);have run:=hh ea C oe (X.A.mark (some (.ref ea))) (X.pn ++ pins ++ [(ea,oe)]) (by simp) hoec [] s7 _ H2 _ I7 hth;refine wpAny_mono run (fun f s8 z=>?_) fun _ _ z=>z.elim
  have bk:=fun {σ' H' s'}=>back (A:=X.A.mark (some (.ref ea))) (calm:=false) (pn:=X.pn ++ pins ++ [(ea,oe)]) (xe:=fun _ _=>False) (σ':=σ') (H':=H') (s':=s') (fun p hp=>by rw [List.append_nil]; exact List.mem_append_left _ hp)
  cases f with
  | next=>obtain ⟨σ8,H8,I8,q8⟩:=z; exact JeY (bk I8) hN hi hl fun s9 I9=>⟨_,H8,I9,q8⟩
  | brk=>obtain ⟨σ8,H8,I8,q8⟩:=z; exact JeY (bk I8) hN hi hl fun s9 I9=>⟨_,H8,I9,q8⟩
  | cont=>obtain ⟨σ8,H8,I8,q8⟩:=z; exact JeY (bk I8) hN hi hl fun s9 I9=>⟨_,H8,I9,q8⟩
  | ret u=>obtain ⟨v8,σ8,H8,I8,r8,q8⟩:=z; exact JeY (bk I8) hN hi hl fun s9 I9=>⟨v8,_,H8,I9,r8,q8⟩
def JbU (K:PySem.W.Frag) (ea C:Addr):List V→Hp→VK→Prop:=fun xs H Q=>∃ c b,xs=[.ref ea,c]∧(∃ n,c=.ty n∨∃ a,c=.ref a)∧ExC K C∧PySem.W.kitOne K (.ref C) (JoC c)=some b∧Q (.bl b) H
theorem YX {X:Cx} {ea C:Addr} {oe:Obj} (hp:(ea,oe)∈X.pn) (hc:oe.cls=.ref C):Yv X (.builtin "isinstance") (JbU X.K ea C):=by
 intro pins s σ H xs us Q I r h;obtain ⟨c,b,rfl,hcc,XC,e,q⟩:=h;cases r with
 | cons r rr =>
  cases rr with
  | cons r' rr =>
   cases rr;rename_i u u';have e':u'=JoC c:=by
    obtain ⟨n,rfl | ⟨a,rfl⟩⟩:=hcc
    ·exact r'
    ·exact r'
   subst e';cases (show u=Value.ref ea from r);obtain ⟨h1,_⟩:=I.pin (ea,oe) (List.mem_append_left _ hp);exact PySem.W.kia_one (Jq3 XC) I.kIn ⟨oe,h1,hc⟩ e (fun z=>nomatch z) fun tk=>⟨.bl b,H,I.tok _,rfl,q⟩
end L2
namespace L2
open PySem PySem.Spec PyProof.Rows
theorem PE.imp {X:Cx} {e:Expr} {t t':TE} (h:PE X e t) (i:∀ σ H Q,t' σ H Q→t σ H Q):PE X e t':=fun pins s σ H Q I q=>h pins s σ H Q I (i _ _ _ q)
theorem PS.imp {X:Cx} {e:Stmt} {t t':TS} (h:PS X e t) (i:∀ D σ H,t' D σ H→t D σ H):PS X e t':=fun pins s σ H D I q=>h pins s σ H D I (i _ _ _ q)
theorem JjA {sc:Scope} {env:Env} (h:∀ y∈sc.names,y.2=.free→∃ c,env.cells.lookup y.1=some c) :
  ∃ cl,closureFor sc env=pure cl∧(∀ x c,cl.lookup x=some c→env.cells.lookup x=some c)∧∀ y∈sc.names,y.2=.free→∃ c,cl.lookup y.1=some c:=by
 have gen:∀ (names:List (Str×NameKind)) (acc:List (Str×Addr)),(∀ y∈names,y.2=.free→∃ c,env.cells.lookup y.1=some c)→(∀ x c,acc.lookup x=some c→env.cells.lookup x=some c) →
   ∃ cl,(forIn names acc fun x cs=>(do
    if x.2 == NameKind.free then
     let c ← cellOf env x.1
     pure (ForInStep.yield ((x.1,c) :: cs))
    else pure (ForInStep.yield cs)):Sem (List (Str×Addr)))=pure cl∧(∀ x c,cl.lookup x=some c→env.cells.lookup x=some c)∧(∀ x c,acc.lookup x=some c→∃ c,cl.lookup x=some c)∧∀ y∈names,y.2=.free→∃ c,cl.lookup y.1=some c:=by
  intro names
  induction names with
  | nil=>intro acc _ ha; exact ⟨acc,rfl,ha,fun x c e=>⟨c,e⟩,fun y hy=>nomatch hy⟩
  | cons n r ih =>
   intro acc hn ha;obtain ⟨x,k⟩:=n;by_cases hk:k=.free
   ·subst hk;obtain ⟨c,hc⟩:=hn (x,.free) List.mem_cons_self rfl;obtain ⟨cl,e1,e2,e3,e4⟩:=ih ((x,c) :: acc) (fun y hy=>hn y (List.mem_cons_of_mem _ hy)) (fun y d e=>by
     rw [List.lookup_cons] at e;split at e
     ·rename_i q;cases e;rw [beq_iff_eq.mp q];exact hc
     ·exact ha y d e)
    refine ⟨cl,?_,e2,fun y d e=>?_,fun y hy hf=>?_⟩
    ·rw [List.forIn_cons];have z:cellOf env x=pure c:=by unfold cellOf; rw [hc]
     simp only [beq_self_eq_true,if_true,z,pure_bind];exact e1
    ·refine e3 y (if y == x then c else d) ?_;rw [List.lookup_cons];split
     ·rename_i q; simp [q]
     ·rename_i q; simp [q,e]
    ·rcases List.mem_cons.mp hy with rfl | hy
     ·exact e3 x c (by rw [List.lookup_cons]; simp)
     ·exact e4 y hy hf
   ·obtain ⟨cl,e1,e2,e3,e4⟩:=ih acc (fun y hy=>hn y (List.mem_cons_of_mem _ hy)) ha;refine ⟨cl,?_,e2,e3,fun y hy hf=>?_⟩
    ·rw [List.forIn_cons];have z:(k == NameKind.free)=false:=by simpa using hk
     simp only [z,Bool.false_eq_true,if_false,pure_bind];exact e1
    ·rcases List.mem_cons.mp hy with rfl | hy
     ·exact absurd hf hk
     ·exact e4 y hy hf
 obtain ⟨cl,e1,e2,_,e4⟩:=gen sc.names [] h (fun x c e=>by simp at e);refine ⟨cl,?_,e2,e4⟩;unfold closureFor;rw [← bind_pure (pure cl:Sem (List (Str×Addr))),← e1]
def Y6 (X:Cx) (Nc:List Str) (sc:Scope) (cl:List (Str×Addr)) (fp:List Addr) (s:Shared) (H:Hp):Cx :=
 { X with N:=Nc,s₀:=s,H₀:=H,env:=compEnvC sc cl s.heap.objs.size X.env,outer:=X.stack,stack:=X.stack,ex:=fp,fn:=fun _=>false,pn:=[],xe:=fun _ _=>False }
def Jhl (js:List Nat) (σ:St):St:=js.map fun j=>(σ[j]?).join
def JhO (N:List Str) (names:List (Str×NameKind)) (nt:Nat) (Nc:List Str) (sc:Scope) (js:List Nat):Bool :=
 decide Nc.Nodup && decide (Nc.length=nt + js.length) && ((Nc.drop nt).zip js).all (fun p=>N[p.2]? == some p.1 && sc.names.lookup p.1 == some NameKind.free && names.lookup p.1 == some NameKind.cell) &&
  sc.names.all (fun y=>(y.2 == NameKind.local && sc.names.lookup y.1 == some NameKind.local) || (y.2 == NameKind.free && names.lookup y.1 == some NameKind.cell) || (y.2 != NameKind.local && y.2 != NameKind.free && y.2 != NameKind.cell)) && sc.kind == .function
def Je7 (σ σ':St):Prop:=σ'.length=σ.length∧∀ (i:Nat) v,σ[i]?=some (some v)→σ'[i]?=some (some v)
theorem Je7.refl (σ:St):Je7 σ σ:=⟨rfl,fun _ _ e=>e⟩
theorem Je7.set {σ σ':St} {i:Nat} {x:Option V} (h:Je7 σ σ') (e:σ[i]?=some none):Je7 σ (σ'.set i x):=by
 refine ⟨by rw [List.length_set]; exact h.1,fun j v q=>?_⟩;by_cases hj:j=i
 ·subst hj; rw [e] at q; cases q
 ·rw [List.getElem?_set_ne (Ne.symm hj)]; exact h.2 j v q
def JcR (J:It) (g:TG) (tc:TT) (te:TE) (σc:St) (D:Addr) (H1:Hp) (Q:Hp→Prop):Prop :=
 ∃ W:Nat→Nat→List V→Hp→Prop,(∃ m,W 0 m [] (upd H1 D (.lst [])))∧∀ i m ys H,W i m ys H→H D=some (.lst ys) ∧
  ((J.stop i H∧Q H)∨(J.go i H∧∃ N:List V→Hp→Prop,(∀ zs H',N zs H'→∃ m',m' < m∧W (i + 1) m' zs H')∧∀ x H',J.yld i H x H'→g x σc H' fun σ2 H2=>Je7 σc σ2 ∧
   tc σ2 H2 fun b H3=>if b=true then te σ2 H3 fun v H4=>H4 D=some (.lst ys)∧ys.length < sizeLine∧N (ys ++ [v]) (upd H4 D (.lst (ys ++ [v]))) else N ys H3))
def JmV (X:Cx) (ifs:List Expr) (tc:TT):Prop:=∀ (pins:List (Addr×Obj)) (s:Shared) (σ:St) (H:Hp) (Q:Bool→Hp→Prop),Jn X pins σ H s→tc σ H Q →
 wpAny (model X.prog X.w) X.A (forIn ifs true fun c r=>if r=true then do let ok ← isTrue c X.env (eval c X.env); pure (ForInStep.yield ok) else pure (ForInStep.yield r)) (TP X pins σ Q) X.xe s
def Jd1:TT:=fun _ H Q=>Q true H
theorem JbC {X:Cx}:JmV X [] Jd1:=fun _ _ _ H _ I q=>wpAny_tests_nil ⟨H,I,q⟩
theorem Jcs {X:Cx} {c:Expr} {tc:TT} (h:PT X c tc):JmV X [c] tc:=fun pins s σ H Q I q=>wpAny_tests_one (h pins s σ H Q I q)
theorem JoB {prog:Program} {w:World} {A:Around} {R:Result→Shared→Prop} {s:Shared} {elt target iter:Expr} {ifs:List Expr} {scope:Scope} {pos:Pos} {it acc:Value} {env:Env} (I:Nat→Shared→Prop)
  (turn:∀ n s,I n s→wpAny (model prog w) A (pyNext it) (fun r s₁=>match r with
   | none=>R (.ok .next) s₁
   | some v=>wpAny (model prog w) A (letOwnedTupleGo target it v) (fun _ s₁'=>wpAny (model prog w) A (assign target env v) (fun _ s₂ =>
     wpAny (model prog w) A (forIn ifs true fun c r=>if r=true then do let ok ← isTrue c env (eval c env); pure (ForInStep.yield ok) else pure (ForInStep.yield r)) (fun ok s₃ =>
      if ok=true then wpAny (model prog w) A (eval elt env) (fun x s₄ =>
       wpAny (model prog w) A (call (.builtin "list.append") [acc,x]) (fun _ s₅=>∃ m,m < n∧I m s₅) (fun _ _=>False) s₄) (fun _ _=>False) s₃
      else ∃ m,m < n∧I m s₃) (fun _ _=>False) s₂) (fun _ _=>False) s₁') (fun _ _=>False) s₁) (fun _ _=>False) s)
  (n:Nat) (h:I n s) :
  codeAny (model prog w) A (.compLoop (.ListComp elt [⟨target,iter,ifs,0⟩] scope pos) 0 it acc env) R s:=by
 refine codeAny_loop rfl I (fun n s hI=>?_) n h;show wpAny _ A ((compTurn (.ListComp elt [⟨target,iter,ifs,0⟩] scope pos) 0 it acc env).onRaise (fun x=>do noteFrame x env; theTreesLotGoes x)) _ _ s;refine wpAny_noted ?_;rw [compTurn_list];refine wpAny_bind (wpAny_standAt (wpAny_bind (wpAny_mono (turn n s hI) (fun r s₁ h₁=>?_) fun _ _ h'=>h'.elim)));cases r with
 | none=>exact wpAny_pure h₁
 | some v =>
  refine wpAny_bind (wpAny_mono h₁ (fun _ s₁' h₁'=>?_) fun _ _ h'=>h'.elim);refine wpAny_bind (wpAny_mono h₁' (fun _ s₂ h₂=>wpAny_bind (wpAny_mono h₂ (fun ok s₃ h₃=>?_) fun _ _ h'=>h'.elim)) fun _ _ h'=>h'.elim);cases ok with
  | false=>exact wpAny_pure ⟨rfl,h₃⟩
  | true =>
   exact wpAny_bind (wpAny_bind (wpAny_mono h₃ (fun x s₄ h₄=>wpAny_bind (wpAny_mono h₄ (fun _ s₅ h₅=>wpAny_pure (wpAny_pure ⟨rfl,h₅⟩)) fun _ _ h'=>h'.elim)) fun _ _ h'=>h'.elim))
theorem Jeb {env:Env}:∀ {names:List (Str×NameKind)} {x:Str} {k':NameKind},
  (names.map fun (n,k)=>if (k == NameKind.free && env.scope.kind == .function && env.kindOf n == some .cell) then (n,NameKind.cell) else (n,k)).lookup x=some k'→∃ k,names.lookup x=some k∧(k'=k∨(k=.free∧k'=.cell))
 | [],x,k',h=>by simp at h
 | (n,k) :: r,x,k',h=>by
  rw [List.map_cons] at h;by_cases hx:x=n
  ·subst hx;by_cases hc:(k == NameKind.free && env.scope.kind == .function && env.kindOf x == some .cell)=true
   ·have h:List.lookup x ((if (k == NameKind.free && env.scope.kind == .function && env.kindOf x == some .cell)=true then (x,NameKind.cell) else (x,k)) :: _)=some k':=h;rw [if_pos hc] at h;simp only [Bool.and_eq_true,beq_iff_eq] at hc;exact ⟨k,by simp [List.lookup_cons],.inr ⟨hc.1.1,by simpa [List.lookup_cons] using h.symm⟩⟩
   ·have h:List.lookup x ((if (k == NameKind.free && env.scope.kind == .function && env.kindOf x == some .cell)=true then (x,NameKind.cell) else (x,k)) :: _)=some k':=h;rw [if_neg hc] at h;exact ⟨k,by simp [List.lookup_cons],.inl (by simpa [List.lookup_cons] using h.symm)⟩
  ·have hb:(x == n)=false:=beq_eq_false_iff_ne.mpr hx;have h:List.lookup x ((if (k == NameKind.free && env.scope.kind == .function && env.kindOf n == some .cell)=true then (n,NameKind.cell) else (n,k)) :: _)=some k':=h;have h2:(r.map fun (n,k)=>if (k == NameKind.free && env.scope.kind == .function && env.kindOf n == some .cell) then (n,NameKind.cell) else (n,k)).lookup x=some k':=by
    by_cases hc:(k == NameKind.free && env.scope.kind == .function && env.kindOf n == some .cell)=true
    ·rw [if_pos hc] at h; simpa [List.lookup_cons,hb] using h
    ·rw [if_neg hc] at h; simpa [List.lookup_cons,hb] using h
   obtain ⟨k0,e,z⟩:=Jeb h2;exact ⟨k0,by simpa [List.lookup_cons,hb] using e,z⟩
theorem Jec {env:Env}:∀ {names:List (Str×NameKind)} {x:Str},names.lookup x=some .free →
  (names.map fun (n,k)=>if (k == NameKind.free && env.scope.kind == .function && env.kindOf n == some .cell) then (n,NameKind.cell) else (n,k)).lookup x=some .cell∨(names.map fun (n,k)=>if (k == NameKind.free && env.scope.kind == .function && env.kindOf n == some .cell) then (n,NameKind.cell) else (n,k)).lookup x=some .free
 | [],x,h=>by simp at h
 | (n,k) :: r,x,h=>by
  rw [List.map_cons];show List.lookup x ((if (k == NameKind.free && env.scope.kind == .function && env.kindOf n == some .cell)=true then (n,NameKind.cell) else (n,k)) :: _)=_∨List.lookup x ((if (k == NameKind.free && env.scope.kind == .function && env.kindOf n == some .cell)=true then (n,NameKind.cell) else (n,k)) :: _)=_;by_cases hx:x=n
  ·subst hx;have hk:k=.free:=by simpa [List.lookup_cons] using h
   subst hk;split
   ·exact .inl (by simp [List.lookup_cons])
   ·exact .inr (by simp [List.lookup_cons])
  ·have hb:(x == n)=false:=beq_eq_false_iff_ne.mpr hx;have ih:=Jec (env:=env) (names:=r) (x:=x) (by simpa [List.lookup_cons,hb] using h);split
   ·simpa [List.lookup_cons,hb] using ih
   ·simpa [List.lookup_cons,hb] using ih
section
variable {X:Cx} {pins:List (Addr×Obj)} {σ:St} {H2:Hp} {s2:Shared}
theorem Jjz {elt tg iter:Expr} {ifs:List Expr} {sc:Scope} {pos:Pos} {nt:Nat} {Nc:List Str} {js:List Nat} {J:It} {fp:List Addr} {it:Addr} {tn:Nat→Heap→Prop} {g:TG} {tc:TT} {te:TE} {Q:Addr→Hp→Prop} {E:Value→Shared→Prop}
  {N:List Str} {names:List (Str×NameKind)} (hcap:JhO N names nt Nc sc js=true) (hNX:X.N=N) (hsX:X.env.scope.names=names)
  (hg:∀ (cl:List (Str×Addr)) (fp:List Addr) (s:Shared) (H:Hp),PG (Y6 X Nc sc cl fp s H) tg g) (hc:∀ (cl:List (Str×Addr)) (fp:List Addr) (s:Shared) (H:Hp),JmV (Y6 X Nc sc cl fp s H) ifs tc)
  (he:∀ (cl:List (Str×Addr)) (fp:List Addr) (s:Shared) (H:Hp),PE (Y6 X Nc sc cl fp s H) elt te) (calm:X.calm=true)
  (I2:Jn X pins σ H2 s2) (T:JkC X.prog X.w X.K tg J fp it tn) (st2:tn 0 s2.heap) (f2:∀ b∈fp,JeN X pins H2 b)
  (hw:∀ D,H2 D=none→JcR J g tc te (List.replicate nt none ++ Jhl js σ) D H2 (Q D)) {cl:List (Str×Addr)} (hcl:closureFor sc X.env=pure cl) (hcl1:∀ x c,cl.lookup x=some c→X.env.cells.lookup x=some c) (hcl2:∀ y∈sc.names,y.2=.free→∃ c,cl.lookup y.1=some c) :
  wpAny (model X.prog X.w) X.A (newList []) (fun acc s₃=>wpAny (model X.prog X.w) X.A (newFunctionEnv sc X.env.globals cl [] X.env.qual none .none (some X.env)) (fun cenv s₄ =>
   codeAny (model X.prog X.w) X.A (.compStart (.ListComp elt [⟨tg,iter,ifs,0⟩] sc pos) 0 (.ref it) acc { cenv with scope:=relabel sc X.env }) (fun r s'=>(∃ f,r=.ok f)∧∃ D H',acc=.ref D∧Jn X pins σ H' s'∧(∃ m,s'.heap.Ns cenv.locals m)∧JeN X pins H' cenv.locals∧Q D H') s₄) E s₃) E s2:=by
 simp only [JhO,Bool.and_eq_true,decide_eq_true_eq,List.all_eq_true,beq_iff_eq] at hcap;obtain ⟨⟨⟨⟨nd,hlen⟩,all1⟩,all2⟩,hkind⟩:=hcap;subst hNX hsX;have hcell:∀ y∈sc.names,y.2≠.cell:=fun y hy z=>by
  have q:=all2 y hy;rw [z] at q;simp at q
 refine wpAny_newObj_type (wpAny_newFunctionEnv hcell (by intro y hy; simp at hy) (fun h₁ hns₁ hsb₁=>?_) hkind);have n2:H2 s2.heap.objs.size=none:=I2.hok.fresh (Nat.le_refl _);have I3:Jn X pins σ (upd H2 s2.heap.objs.size (.lst [])) { s2 with heap:=s2.heap.push { cls:=.type "list",data:=.seq ([]:List Value).toArray },toks:=s2.toks } :=
  I2.laid (fun b u e=>Heap.get?_push_of_some _ e) (Nat.le_refl _) ⟨Nat.zero_le _,[],0,.nil,Heap.get?_push_size _ rfl⟩
 obtain ⟨W,⟨m0,w0⟩,step⟩:=hw s2.heap.objs.size n2;generalize eH3:upd H2 s2.heap.objs.size (.lst [])=H3 at I3 w0;generalize es3:({ s2 with heap:=s2.heap.push { cls:=.type "list",data:=.seq ([]:List Value).toArray },toks:=s2.toks }:Shared)=s3 at I3;have e3:s2.heap.push { cls:=.type "list",data:=.seq ([]:List Value).toArray }=s3.heap:=by rw [← es3]
 have old3:∀ b o,s2.heap.get? b=some o→s3.heap.get? b=some o:=fun b o e=>by rw [← e3]; exact Heap.get?_push_of_some _ e
 have old4:∀ b o,s3.heap.get? b=some o→h₁.get? b=some o:=fun b o e=>by
  refine hsb₁.extBut b o ?_ (Heap.get?_push_of_some _ (by rw [← e3] at e; exact e));have:=Heap.lt_size e;rw [← e3] at this;exact Nat.ne_of_lt this
 have eC:(s2.heap.push { cls:=.type "list",data:=.seq ([]:List Value).toArray }).objs.size=s3.heap.objs.size:=by rw [e3]
 have fpold:∀ b∈fp,b < s3.heap.objs.size:=fun b hb=>by
  obtain ⟨o,e,_⟩:=T.obj 0 _ st2 b hb;exact Heap.lt_size (old3 b o e)
 have ok:(Y6 X Nc sc cl fp s3 H3).Ok:=⟨I3.mod,hkind,I3.ok.glob,I3.ok.blt,Nat.le_refl _,fun x y c e1 e2=>I3.ok.inj x y c (hcl1 _ _ e1) (hcl1 _ _ e2),fun x hx=>?_,fun x c z=>(by cases z),fun _=>I3.ok.hd calm,I3.ok.frames,.inl rfl,
  fun b hb=>⟨Nat.ne_of_lt (fpold b hb),fun x c e=>(f2 b hb).2.2.2.2.1 x c (hcl1 _ _ e)⟩,I3.bs,Nat.le_trans I3.ok.bsz I3.sz,fun b o e hb=>?_,fun b hb hm=>?_,I3.stack,I3.stkFree⟩
 rotate_left
 ·have hx:(relabel sc X.env).names.lookup x=some .cell∨(relabel sc X.env).names.lookup x=some .free:=hx;have k:sc.names.lookup x=some .free:=by
   rcases hx with hx | hx
   ·obtain ⟨k,e,z⟩:=Jeb hx;rcases z with z | z
    ·subst z; exact absurd rfl (hcell _ (PySem.mem_of_lookup e))
    ·rw [z.1] at e; exact e
   ·obtain ⟨k,e,z⟩:=Jeb hx;rcases z with z | z
    ·subst z; exact e
    ·cases z.2
  exact hcl2 _ (PySem.mem_of_lookup k) rfl
 ·rcases (f2 b hb).2.2.2.1 with z | z
  ·exact I3.ok.noex b o e z
  ·exact absurd (Nat.lt_of_lt_of_le (Heap.lt_size (I3.ok.bs b o e).1) z) (Nat.lt_irrefl _)
 ·rcases List.mem_cons.mp (I3.stkSub b hm) with z | z
  ·exact (f2 b hb).2.1 z
  ·exact (f2 b hb).2.2.1 z
 have Ic:Jn (Y6 X Nc sc cl fp s3 H3) [] (List.replicate nt none ++ Jhl js σ) H3 { s3 with heap:=h₁,toks:=s3.toks + ([]:List (Str×Value)).length }:=by
  refine ⟨ok,rfl,I3.bare,Un.kept old4,⟨_,(by have z:=hns₁; rw [eC] at z; exact z),fun i x v e1 e2 e3'=>?_⟩,fun x c e=>?_,I3.hok.fresh (Nat.le_refl _),fun x c e=>I3.freeC x c (hcl1 _ _ e),(fun p hp=>nomatch hp),I3.hok.kept old4,?_⟩
  ·have hi:nt≤i:=by
    refine Nat.le_of_not_lt fun z=>?_
    rw [List.getElem?_append_left (by simpa using z),List.getElem?_replicate] at e2;split at e2 <;> cases e2
   obtain ⟨k,rfl⟩:∃ k,i=nt + k:=⟨i - nt,by omega⟩
   rw [List.getElem?_append_right (by simp),List.length_replicate,Nat.add_sub_cancel_left] at e2;unfold Jhl at e2;rw [List.getElem?_map] at e2;cases hj:js[k]? with
   | none=>rw [hj] at e2; cases e2
   | some j =>
    rw [hj] at e2;have e2':(σ[j]?).join=some v:=Option.some.inj e2;have e2'':σ[j]?=some (some v):=by
     cases q:σ[j]? with
     | none=>rw [q] at e2'; cases e2'
     | some o=>rw [q] at e2'; rw [show o=some v from e2']
    have hz:(x,j)∈(Nc.drop nt).zip js:=by
     refine List.mem_of_getElem? (i:=k) ?_;rw [List.getElem?_zip_eq_some];exact ⟨by rw [List.getElem?_drop]; exact e1,hj⟩
    obtain ⟨⟨q1,q2⟩,q3⟩:=all1 _ hz;obtain ⟨m,hn,hl⟩:=I3.loc;obtain ⟨u,r,look⟩:=hl j x v q1 e2'' (Or.inr (Or.inl q3));refine ⟨u,r,.inr ⟨Jec q2,?_⟩⟩;obtain ⟨c',hc'⟩:=hcl2 _ (PySem.mem_of_lookup q2) rfl;rcases look with ⟨z,_⟩ | ⟨_,c,z1,z2⟩
    ·have z:X.env.scope.names.lookup x=some .local:=z;rw [q3] at z; cases z
    ·have z3:=hcl1 _ _ hc';rw [z1] at z3;cases z3;obtain ⟨o,ho,hd⟩:=z2;exact ⟨_,hc',o,old4 _ _ ho,hd⟩
  ·obtain ⟨v,o,ho,hd⟩:=I3.cell x c (hcl1 _ _ e);exact ⟨v,o,old4 _ _ ho,hd⟩
  ·show (List.replicate nt none ++ Jhl js σ).length=Nc.length;unfold Jhl;rw [List.length_append,List.length_replicate,List.length_map,hlen]
 have fpok:∀ {H:Hp},(∀ b∈fp,H b=none)→∀ b∈fp,JeN (Y6 X Nc sc cl fp s3 H3) [] H b:=fun hn b hb =>
  ⟨hn b hb,Nat.ne_of_lt (fpold b hb),ok.exfs b hb,.inl hb,fun x c e=>(f2 b hb).2.2.2.2.1 x c (hcl1 _ _ e),(fun p hp=>nomatch hp)⟩
 have fr0:∀ b∈fp,H3 b=none:=fun b hb=>by
  rw [← eH3,Jz (Nat.ne_of_lt (by obtain ⟨o,e,_⟩:=T.obj 0 _ st2 b hb; exact Heap.lt_size e))];exact (f2 b hb).1
 have st4:tn 0 h₁:=T.keep 0 _ _ st2 fun b hb o e=>old4 b o (old3 b o e)
 have back:∀ {σ':St} {H:Hp} {s':Shared} {pn:List (Addr×Obj)},Jn (Y6 X Nc sc cl fp s3 H3) pn σ' H s'→Jn X pins σ H s':=fun {σ' H s' pn} Jv =>
  I3.call' (ch:=fp) Jv.os Jv.base Jv.hok Jv.bare fun b hb=>⟨(f2 b hb).2.2.2.1,(f2 b hb).2.1,(f2 b hb).2.2.2.2.1,(f2 b hb).2.2.2.2.2⟩
 have loop:codeAny (model X.prog X.w) X.A (.compLoop (.ListComp elt [⟨tg,iter,ifs,0⟩] sc pos) 0 (.ref it) (.ref s2.heap.objs.size) (compEnvC sc cl s3.heap.objs.size X.env))
   (fun r s'=>(∃ f,r=.ok f)∧∃ D H',(Value.ref s2.heap.objs.size)=.ref D∧Jn X pins σ H' s'∧(∃ m,s'.heap.Ns s3.heap.objs.size m)∧JeN X pins H' s3.heap.objs.size∧Q D H') { s3 with heap:=h₁,toks:=s3.toks + ([]:List (Str×Value)).length }:=by
  refine JoB (fun n s'=>∃ i ys H,Jn (Y6 X Nc sc cl fp s3 H3) [] (List.replicate nt none ++ Jhl js σ) H s'∧tn i s'.heap∧(∀ b∈fp,H b=none)∧W i n ys H) ?_ m0 ⟨0,[],H3,Ic,st4,fr0,w0⟩;rintro n s' ⟨i,ys,H,I,st,fr,w⟩;obtain ⟨hD,⟨stop,qn⟩ | ⟨go,Nx,hNx,stepx⟩⟩:=step i n ys H w
  ·refine JY (T.done (Y6 X Nc sc cl fp s3 H3) rfl rfl rfl calm i [] s' _ H _ I (fpok fr) st stop) fun r s1 ⟨hr,I1⟩=>?_
   subst hr;obtain ⟨m,hn,_⟩:=I1.loc;exact ⟨⟨_,rfl⟩,_,H,rfl,back I1,⟨m,hn⟩,I3.fpOk (Nat.le_refl _) I1.free,qn⟩
  ·refine JY (T.item (Y6 X Nc sc cl fp s3 H3) rfl rfl rfl calm i [] s' _ H _ I (fpok fr) st go) fun r s1 ⟨u,hr,h4⟩=>?_
   subst hr;refine JY h4 fun _ s5 ⟨x,H5,I5,r5,y5,st5,fr5⟩=>?_
   have I5':=I5.pinned (fpok fr5) (T.obj _ _ st5);refine JY (hg cl fp s3 H3 _ s5 _ H5 x u _ I5' r5 (stepx x H5 y5)) fun _ s6 ⟨σ6,H6,I6,ag,q6⟩=>?_
   have again:∀ {H7:Hp} {s7:Shared} {m':Nat} {zs:List V},Jn (Y6 X Nc sc cl fp s3 H3) ([] ++ JgI fp s5.heap) σ6 H7 s7→m' < n→W (i + 1) m' zs H7→∃ m,m < n∧∃ i ys H,Jn (Y6 X Nc sc cl fp s3 H3) [] (List.replicate nt none ++ Jhl js σ) H s7∧tn i s7.heap∧(∀ b∈fp,H b=none)∧W i m ys H:=fun {H7 s7 m' zs} I7 hm w7=>by
    refine ⟨m',hm,i + 1,zs,H7,I7.unpinned.weak ag.1.symm ag.2,T.keep _ _ _ st5 fun b hb o e=>(I7.pin (b,o) (List.mem_append_right _ (List.mem_append_right _ (JdP hb e)))).1,fun b hb=>?_,w7⟩;obtain ⟨o,e,d⟩:=T.obj _ _ st5 b hb;exact (I7.pin (b,o) (List.mem_append_right _ (List.mem_append_right _ (JdP hb e)))).2.1
   refine JY (hc cl fp s3 H3 _ s6 σ6 H6 _ I6 q6) fun bk s7 ⟨H7,I7,q7⟩=>?_
   cases bk with
   | false =>
    rw [if_neg Bool.false_ne_true] at q7 ⊢;obtain ⟨m',hm,w7⟩:=hNx _ _ q7;exact again I7 hm w7
   | true =>
    rw [if_pos rfl] at q7 ⊢;refine JY (he cl fp s3 H3 _ s7 σ6 H7 _ I7 q7) fun xv s8 ⟨v,H8,I8,r8,hD8,hlen8,qN⟩=>?_
    obtain ⟨m',hm,w8⟩:=hNx _ _ qN;refine JY (Zg _ s8 σ6 H8 (.ref s2.heap.objs.size) [v] (.ref s2.heap.objs.size) [xv] (fun _ H9=>H9=upd H8 s2.heap.objs.size (.lst (ys ++ [v]))) I8 rfl (.cons r8 .nil) ?_) fun _ s9 ⟨_,H9,I9,_,e9⟩=>?_
    ·exact ⟨_,_,_,rfl,rfl,hD8,hlen8,rfl⟩
    ·subst e9;exact again I9 hm w8
 rw [eC] at *;exact codeAny_compStart_list loop (T.self _ 0 _ _ _ st4 loop)
def tLC (wi:TI) (g:TG) (tc:TT) (te:TE) (nt:Nat) (js:List Nat):TE:=fun σ H Q=>wi σ H fun J H1=>∀ D,H1 D=none→JcR J g tc te (List.replicate nt none ++ Jhl js σ) D H1 fun H'=>Q (.ref D) H'
theorem Jk4 {N:List Str} {names:List (Str×NameKind)} {nt:Nat} {Nc:List Str} {sc:Scope} {js:List Nat} (h:JhO N names nt Nc sc js=true):(∀ y∈sc.names,y.2=.local→sc.names.lookup y.1=some .local)∧(∀ y∈sc.names,y.2=.free→names.lookup y.1=some .cell)∧sc.kind=.function:=by
 simp only [JhO,Bool.and_eq_true,decide_eq_true_eq,List.all_eq_true,beq_iff_eq] at h;obtain ⟨⟨⟨⟨nd,hlen⟩,all1⟩,all2⟩,hkind⟩:=h;refine ⟨fun y hy hl=>?_,fun y hy hl=>?_,hkind⟩
 ·have q:=all2 y hy;rw [hl] at q;simpa using q
 ·have q:=all2 y hy;rw [hl] at q;simpa using q
theorem JeU {elt tg iter:Expr} {ifs:List Expr} {sc:Scope} {pos:Pos} {nt:Nat} {Nc:List Str} {js:List Nat} {wi:TI} {g:TG} {tc:TT} {te:TE} {N:List Str} {names:List (Str×NameKind)}
  (hcap:JhO N names nt Nc sc js=true) (hi:PI X tg iter wi)
  (hg:∀ (cl:List (Str×Addr)) (fp:List Addr) (s:Shared) (H:Hp),PG (Y6 X Nc sc cl fp s H) tg g) (hc:∀ (cl:List (Str×Addr)) (fp:List Addr) (s:Shared) (H:Hp),JmV (Y6 X Nc sc cl fp s H) ifs tc)
  (he:∀ (cl:List (Str×Addr)) (fp:List Addr) (s:Shared) (H:Hp),PE (Y6 X Nc sc cl fp s H) elt te) (hNX:X.N=N:=by rfl) (hsX:X.env.scope.names=names:=by rfl) (calm:X.calm=true:=by rfl)
  (hs:∀ x,foldedSetIterable iter X.env x=pure x:=by intro _; rfl):PE X (.ListComp elt [⟨tg,iter,ifs,0⟩] sc pos) (tLC wi g tc te nt js):=by
 intro pins s σ H Q I h;obtain ⟨hn1,hn2,hkind⟩:=Jk4 hcap;obtain ⟨cl,hcl,hcl1,hcl2⟩:=JjA (sc:=sc) (env:=X.env) fun y hy hf=>I.ok.has y.1 (.inl (by show X.env.scope.names.lookup y.1=_; rw [hsX]; exact hn2 y hy hf))
 rw [eval_ListComp];refine wpAny_comprehension_free (use:=none) rfl hs hcl hkind hn1 (JY (hi pins s σ H _ I h) fun v s1 h1=>JY h1 fun itv s2 h2=>?_);obtain ⟨it,fp,tn,J,H2,e,I2,T,st2,f2,hw⟩:=h2;subst e;refine wpAny_mono (Jjz (E:=fun _ _=>False) (Q:=fun D H'=>Q (.ref D) H') hcap hNX hsX hg hc he calm I2 T st2 f2 hw hcl hcl1 hcl2) (fun acc s3 h3=>wpAny_mono h3 (fun cenv s4 h4=>codeAny_mono h4 fun r s' hr=>?_) fun _ _ z=>z.elim) fun _ _ z=>z.elim
 obtain ⟨⟨f,rfl⟩,D,H',rfl,Jv,⟨m,hn⟩,fC,q⟩:=hr;obtain ⟨f0,f1,f2',f3,f4,f5⟩:=fC;exact ⟨m,hn,fun h' hs'=>⟨.ref D,H',Jv.turned (t':=s'.toks) (fun b o hb e=>(hs'.2 b hb).trans e) f0 f1 f3 f4 f5,rfl,q⟩⟩
theorem JfZ {elt tg iter:Expr} {ifs:List Expr} {sc:Scope} {pos spos py:Pos} {y:Str} {i:Nat} {nt:Nat} {Nc:List Str} {js:List Nat} {wi:TI} {g:TG} {tc:TT} {te:TE} {N:List Str} {names:List (Str×NameKind)}
  (hcap:JhO N names nt Nc sc js=true) (hN:X.N.Nodup) (hiy:X.N[i]?=some y) (hi:PI X tg iter wi)
  (hg:∀ (cl:List (Str×Addr)) (fp:List Addr) (s:Shared) (H:Hp),PG (Y6 X Nc sc cl fp s H) tg g) (hc:∀ (cl:List (Str×Addr)) (fp:List Addr) (s:Shared) (H:Hp),JmV (Y6 X Nc sc cl fp s H) ifs tc)
  (he:∀ (cl:List (Str×Addr)) (fp:List Addr) (s:Shared) (H:Hp),PE (Y6 X Nc sc cl fp s H) elt te) (hNX:X.N=N:=by rfl) (hsX:X.env.scope.names=names:=by rfl) (calm:X.calm=true:=by rfl)
  (hsw:swapsWith (.ListComp elt [⟨tg,iter,ifs,0⟩] sc pos) (some (.Name y py)) spos.line X.env=pure true:=by rfl) (hy:X.env.scope.names.lookup y=some .local:=by rfl)
  (hs:∀ x,foldedSetIterable iter X.env x=pure x:=by intro _; rfl):PS X (.Assign [.Name y py] (.ListComp elt [⟨tg,iter,ifs,0⟩] sc pos) spos) (Jqb (tLC wi g tc te nt js) (JaD i)):=by
 intro pins s σ H D0 I h;obtain ⟨hn1,hn2,hkind⟩:=Jk4 hcap;obtain ⟨cl,hcl,hcl1,hcl2⟩:=JjA (sc:=sc) (env:=X.env) fun y hy hf=>I.ok.has y.1 (.inl (by show X.env.scope.names.lookup y.1=_; rw [hsX]; exact hn2 y hy hf))
 rw [exec_Assign_Name_used _ _ _ _ hsw];refine wpAny_bind (wpAny_standAt (wpAny_bind ?_));show wpAny _ X.A (do let _ ← comprehension (.ListComp elt [⟨tg,iter,ifs,0⟩] sc pos) sc X.env _ (newList []) false (eval iter X.env) (some (assign (.Name y py) X.env))) _ _ s;refine wpAny_bind (wpAny_mono (wpAny_comprehension_free (use:=some (assign (.Name y py) X.env)) (Q:=fun _ s'=>SP X pins D0 .next s') rfl hs hcl hkind hn1
  (JY (hi pins s σ H _ I h) fun v s1 h1=>JY h1 fun itv s2 h2=>?_)) (fun _ s' hq=>wpAny_pure (wpAny_pure hq)) fun _ _ e=>e)
 obtain ⟨it,fp,tn,J,H2,e,I2,T,st2,f2,hw⟩:=h2;subst e;refine wpAny_mono (Jjz (E:=fun _ _=>False) (Q:=fun D H'=>JaD i (.ref D) σ H' D0.nx) hcap hNX hsX hg hc he calm I2 T st2 f2 hw hcl hcl1 hcl2) (fun acc s3 h3=>wpAny_mono h3 (fun cenv s4 h4=>codeAny_mono h4 fun r s' hr=>?_) fun _ _ z=>z.elim) fun _ _ z=>z.elim
 obtain ⟨⟨f,rfl⟩,D,H',rfl,Jv,⟨m,hn⟩,fC,q⟩:=hr;obtain ⟨f0,f1,f2',f3,f4,f5⟩:=fC;show wpAny _ X.A (assign (.Name y py) X.env (.ref D)) _ _ _;refine wpAny_assign_Name (JkO Jv hN hiy (Or.inl hy) (v:=.ref D) rfl (fun s'' I'' ⟨a,hsame,ha⟩=>?_) (Or.inr hy));refine ⟨m,hn.sameBut hsame ?_,fun h' hs'=>⟨_,H',I''.turned (t':=s''.toks) (fun b o hb e=>(hs'.2 b hb).trans e) f0 f1 f3 f4 f5,q⟩⟩;rcases ha with rfl | ha
 ·exact f1
 ·exact (f4 y a ha).symm
end
section
variable {X:Cx} {Nc:List Str} {sc:Scope} {cl:List (Str×Addr)} {fp:List Addr} {s:Shared} {H:Hp} {x:Str} {pos:Pos}
theorem Yn (i:Nat) (hN:Nc[i]?=some x:=by rfl) (hf:sc.names.lookup x=some .free:=by rfl) (hd:(x == ("__debug__" : Str))=false:=by decide) (hcd:(x == ("__classdict__" : Str))=false:=by decide):PE (Y6 X Nc sc cl fp s H) (.Name x pos) (JnW i) :=
 Jl5 hN (Or.inr (Jec hf)) hd hcd
theorem YT (i:Nat) (hN:Nc[i]?=some x:=by rfl) (hl:sc.names.lookup x=some .local:=by rfl) (hd:(x == ("__debug__" : Str))=false:=by decide) (hcd:(x == ("__classdict__" : Str))=false:=by decide):PE (Y6 X Nc sc cl fp s H) (.Name x pos) (JnW i) :=
 Jl5 hN (Or.inl (lookup_relabel_local hl)) hd hcd
theorem Zr (i:Nat) (nd:Nc.Nodup) (hN:Nc[i]?=some x:=by rfl) (hl:sc.names.lookup x=some .local:=by rfl):PG (Y6 X Nc sc cl fp s H) (.Name x pos) (JaD i) :=
 JS nd hN (Or.inl (lookup_relabel_local hl)) (Or.inr (lookup_relabel_local hl))
end
section
variable {tc:TT} {te:TE} {σc:St} {D:Addr} {H1:Hp} {Q:Hp→Prop}
theorem JhN {J:It} {n:Nat} {X1:Nat→V→Prop} (Pv:Nat→List V→Hp→Prop) (h00:σc[0]?=some none) (hgo:∀ i H,i < n→(∃ ys,Pv i ys H)→J.go i H∧∀ x H',J.yld i H x H'→H'=H∧X1 i x) (hstop:∀ H,(∃ ys,Pv n ys H)→J.stop n H)
  (h0:Pv 0 [] (upd H1 D (.lst []))) (hl:∀ i ys H,Pv i ys H→H D=some (.lst ys))
  (hs:∀ i x ys H,i < n→X1 i x→Pv i ys H→tc (σc.set 0 (some x)) H fun b H3=>if b=true then te (σc.set 0 (some x)) H3 fun v H4=>H4 D=some (.lst ys)∧ys.length < sizeLine∧Pv (i + 1) (ys ++ [v]) (upd H4 D (.lst (ys ++ [v]))) else Pv (i + 1) ys H3)
  (hd:∀ ys H,Pv n ys H→Q H):JcR J (JaD 0) tc te σc D H1 Q:=by
 refine ⟨fun i m ys H=>m=n - i∧i≤n∧Pv i ys H,⟨n,by simp,Nat.zero_le _,h0⟩,?_⟩;rintro i m ys H ⟨rfl,hi,p⟩;refine ⟨hl _ _ _ p,?_⟩;by_cases hlt:i < n
 ·obtain ⟨g1,g2⟩:=hgo i H hlt ⟨_,p⟩;refine .inr ⟨g1,Pv (i + 1),fun zs H' p'=>⟨n - (i + 1),by omega,rfl,hlt,p'⟩,fun x H' y=>?_⟩;obtain ⟨e,y1⟩:=g2 x H' y;subst e;exact ⟨(Je7.refl _).set h00,hs i x ys _ hlt y1 p⟩
 ·have e:i=n:=by omega
  subst e;exact .inl ⟨hstop H ⟨_,p⟩,hd _ _ p⟩
theorem Jhj {K:PySem.W.Frag} {a:Addr} {xs:List V} (Pv:Nat→List V→Hp→Prop) (h00:σc[0]?=some none) (hq:∀ i ys H,Pv i ys H→Jp K H a xs) (h0:Pv 0 [] (upd H1 D (.lst []))) (hl:∀ i ys H,Pv i ys H→H D=some (.lst ys))
  (hs:∀ i x ys H,xs[i]?=some x→Pv i ys H→tc (σc.set 0 (some x)) H fun b H3=>if b=true then te (σc.set 0 (some x)) H3 fun v H4=>H4 D=some (.lst ys)∧ys.length < sizeLine∧Pv (i + 1) (ys ++ [v]) (upd H4 D (.lst (ys ++ [v]))) else Pv (i + 1) ys H3)
  (hd:∀ ys H,Pv xs.length ys H→Q H):JcR (Itl K a) (JaD 0) tc te σc D H1 Q :=
 JhN (n:=xs.length) (X1:=fun i x=>xs[i]?=some x) Pv h00 (fun i H hi ⟨ys,p⟩=>⟨⟨xs,xs[i],hq _ _ _ p,by simp [hi]⟩,fun x H' y=>⟨y.1,y.2 xs (hq _ _ _ p)⟩⟩) (fun H ⟨ys,p⟩=>⟨xs,hq _ _ _ p,Nat.le_refl _⟩) h0 hl (fun i x ys H _ hx p=>hs i x ys H hx p) hd
theorem JdR {lo:Int} {n:Nat} (Pv:Nat→List V→Hp→Prop) (h00:σc[0]?=some none) (h0:Pv 0 [] (upd H1 D (.lst []))) (hl:∀ i ys H,Pv i ys H→H D=some (.lst ys))
  (hs:∀ i ys H,i < n→Pv i ys H→tc (σc.set 0 (some (.int (lo + i)))) H fun b H3=>if b=true then te (σc.set 0 (some (.int (lo + i)))) H3 fun v H4=>H4 D=some (.lst ys)∧ys.length < sizeLine∧Pv (i + 1) (ys ++ [v]) (upd H4 D (.lst (ys ++ [v]))) else Pv (i + 1) ys H3)
  (hd:∀ ys H,Pv n ys H→Q H):JcR (Itr lo n) (JaD 0) tc te σc D H1 Q :=
 JhN (n:=n) (X1:=fun i x=>x=.int (lo + i)) Pv h00 (fun i H hi _=>⟨hi,fun x H' y=>y⟩) (fun H _=>Nat.le_refl _) h0 hl (fun i x ys H hi hx p=>by subst hx; exact hs i ys H hi p) hd
end
end L2
namespace L2
open PySem PySem.Spec PyProof.Rows
section
variable {X:Cx} {e v1 v2:Expr} {es:List Expr} {te:TE} {pos:Pos}
def JsJ (te:TE):TE:=fun σ H Q=>te σ H fun v H1=>∃ z,v=.str z∧(reprText z).length≤sizeLine∧Q (.str (reprText z)) H1
theorem Jed (he:PE X e te):PE X (.FormattedValue e 114 none pos) (JsJ te):=by
 intro pins s σ H Q I h;refine wpAny_FormattedValue_repr (JY (he pins s σ H _ I h) fun v s1 ⟨x,H1,I1,r1,z,ez,hz,q⟩=>?_);subst ez;obtain ⟨t,rfl⟩:=r1;refine pyReprObj_str (PyProof.Rows.formatField_str (fun t' tk=>?_) hz) hz;exact ⟨.str (reprText z),H1,(I1.tok _).tok _,⟨_,rfl⟩,q⟩
def JnX (te:TE):TE:=fun σ H Q=>te σ H fun v H1=>∃ i:Int,v=.int i∧i.natAbs.log2 < 1920∧Q (.str (toString i)) H1
theorem Jka (he:PE X e te):PE X (.FormattedValue e (-1) none pos) (JnX te):=by
 intro pins s σ H Q I h;refine PyProof.Rows.FormattedValue_plain (JY (he pins s σ H _ I h) fun v s1 ⟨x,H1,I1,r1,i,ei,hi,q⟩=>?_);subst ei;obtain ⟨t,rfl⟩:=r1;exact PyProof.Rows.formatField_int_small hi ⟨.str (toString i),H1,I1.tok _,⟨_,rfl⟩,q⟩
def JiX:List TE→Str→TE
 | [],acc=>fun _ H Q=>acc.length≤sizeLine∧Q (.str acc) H
 | t :: r,acc=>fun σ H Q=>t σ H fun v H1=>∃ y,v=.str y∧(acc ++ y).length≤sizeLine∧JiX r (acc ++ y) σ H1 Q
inductive PJ (X:Cx):List Expr→List TE→Prop
 | nil:PJ X [] []
 | cons {e:Expr} {t:TE} {es:List Expr} {ts:List TE}:PE X e t→PJ X es ts→PJ X (e :: es) (t :: ts)
theorem Jms {pins:List (Addr×Obj)} {σ:St} {Q:VK}:∀ {es:List Expr} {ts:List TE} {acc:Str} {s:Shared} {H:Hp},PJ X es ts→Jn X pins σ H s→JiX ts acc σ H Q →
  Joins (model X.prog X.w) X.A X.xe (es.map fun e=>eval e X.env) acc (fun out s₁=>out.length≤sizeLine∧EP X pins σ Q (.str out s₁.toks) { s₁ with toks:=s₁.toks + 1 }) s
 | _,_,acc,s,H,.nil,I,h=>⟨h.1,.str acc,H,I.tok _,⟨_,rfl⟩,h.2⟩
 | _,_,acc,s,H,.cons p r,I,h=>by
  refine JY (p pins s σ H _ I h) fun v s1 ⟨x,H1,I1,r1,y,ey,hy,q⟩=>?_
  subst ey;obtain ⟨t,rfl⟩:=r1;exact ⟨y,t,rfl,hy,Jms r I1 q⟩
theorem JbD {ts:List TE} (h:PJ X (v1 :: v2 :: es) ts) (he:evalEach (v1 :: v2 :: es) X.env=(v1 :: v2 :: es).map fun e=>eval e X.env:=by rfl):PE X (.JoinedStr (v1 :: v2 :: es) pos) (JiX ts Str.empty):=by
 intro pins s σ H Q I hq;refine wpAny_JoinedStr ?_;rw [he];exact Jms h I hq
end
theorem JjB:bootBuiltins "ValueError" = some (.type "ValueError"):=by decide +kernel
section
variable {X:Cx}
theorem JkR:Z7 X (compareOp .LtE) (fun x y H Q=>∃ i j,x=.str i∧y=.str j∧Q (.bl (!decide (j.cps.toList < i.cps.toList))) H):=by
 intro pins s σ H x y v u Q I rx ry h;obtain ⟨i,j,rfl,rfl,q⟩:=h;obtain ⟨t,rfl⟩:=rx;obtain ⟨t',rfl⟩:=ry;exact PySem.P.le_str ⟨.bl _,H,I,rfl,q⟩
theorem JjS:∀ {ys:List Str} {us:List Value},JI (ys.map V.str) us→StrsAre us ys
 | [],_,r=>by cases r; exact .nil
 | y :: ys,_,r=>by
  cases r with
  | cons r rr =>
   obtain ⟨t,rfl⟩:=r;exact .cons y t (JjS rr)
theorem Jso:MtR X "str.join" (fun x xs H Q=>∃ z l ys,x=.str z∧xs=[.ref l]∧Jp X.K H l (ys.map V.str)∧(ys.map (·.length)).sum + ys.length * z.length≤16777216∧Q (.str (Txt.join z ys)) H):=by
 intro pins s σ H x xs v us Q I rx rs h;obtain ⟨z,l,ys,rfl,rfl,hl,hz,q⟩:=h;obtain ⟨t,rfl⟩:=rx;obtain ⟨u,rfl,ru⟩:=JI.one rs;cases ru;obtain ⟨its,r,pl,_⟩:=I.list hl;exact PyProof.Rows.join_list pl.isList (by simpa using JjS r) hz fun t' k=>⟨.str (Txt.join z ys),H,I.tok _,⟨_,rfl⟩,q⟩
end
def Its (z:Str):It:=⟨fun i _=>i < z.length,fun i H x H'=>H'=H∧∃ c,z.cps[i]?=some c∧x=.str ⟨#[c]⟩,fun i _=>z.length≤i⟩
theorem JlH {P:Program} {w:World} {K:PySem.W.Frag} {tg:Expr} (it:Addr) (z:Str) (t:Tok) (ty:String) (hty:ty = "str_ascii_iterator"∨ty = "str_iterator") (W:∀ A':Around,A'.handled=none→Walks P w A' it [it] [it] z.cps.size (SignAt z) (fun i h=>h.IsStrIter it ty z t i)) :
  JkC P w K tg (Its z) [it] it (fun i h=>i≤z.cps.size∧h.IsStrIter it ty z t i) where
 mem:=by simp
 obj:=fun i h st b hb=>by
  have e:b=it:=by simpa using hb
  subst e;obtain ⟨_,o,e,c,d⟩:=st;exact ⟨o,e,fun v z=>by rw [d] at z; cases z⟩
 keep:=fun i h h' st k=>let ⟨hi,o,e,r⟩:=st; ⟨hi,o,k it (by simp) o e,r⟩
 item:=by
  intro X hP hw hK hc i pins s σ H E I hf st hg;subst hP hw hK;obtain ⟨f0,f1,f2,f3,f4,f5⟩:=hf it (by simp);have hi:i < z.cps.size:=hg;refine (W X.A (I.ok.hd hc)).item i s _ _ hi st.2 fun v h' tk hv st' kk=>?_
  obtain ⟨c,u,hc',rfl⟩:=hv;have I1:Jn X pins σ H { s with heap:=h',toks:=tk }:=I.turned (fun b o hb e=>kk b o (by simpa using hb) e) f0 f1 f3 f4 f5;obtain ⟨o,e,hcl,d⟩:=id st';exact ⟨_,rfl,Jlz (s:={ s with heap:=h',toks:=tk }) (n:=ty) e hcl d (by rcases hty with rfl | rfl <;> decide) ⟨.str ⟨#[c]⟩,H,I1,⟨u,rfl⟩,⟨rfl,c,hc',rfl⟩,⟨hi,st'⟩,fun b hb=>(hf b hb).1⟩⟩
 done:=by
  intro X hP hw hK hc i pins s σ H E I hf st hg;subst hP hw hK;obtain ⟨f0,f1,f2,f3,f4,f5⟩:=hf it (by simp);have hi:z.cps.size≤i:=hg;obtain rfl:i=z.cps.size:=Nat.le_antisymm st.1 hi;exact (W X.A (I.ok.hd hc)).done s _ _ st.2 fun h' tk kk=>⟨rfl,I.turned (fun b o hb e=>kk b o (by simpa using hb) e) f0 f1 f3 f4 f5⟩
 self:=fun A i s Q E st h=>by
  rcases hty with rfl | rfl
  ·exact wpAny_pyIter_striter_ascii st.2 h
  ·exact wpAny_pyIter_striter_wide st.2 h
section
variable {X:Cx} {tg:Expr}
def JuO (tl:TE):TI:=fun σ H R=>tl σ H fun x H1=>∃ z,x=.str z∧R (Its z) H1
theorem Jta {l:Expr} {tl:TE} (hl:PE X l tl):PI X tg l (JuO tl):=by
 intro pins s σ H R I h;refine JY (hl pins s σ H _ I h) fun v s1 ⟨x,H1,I1,r1,z,ez,q⟩=>?_
 subst ez;obtain ⟨t,rfl⟩:=r1;have fp:∀ b∈[s1.heap.objs.size],JeN X pins H1 b:=fun b hb=>by
  have e:b=s1.heap.objs.size:=by simpa using hb
  subst e;exact I1.fpOk (Nat.le_refl _) (I1.hok.fresh (Nat.le_refl _))
 cases ha:z.cps.all (· < 128)
 ·refine wpAny_pyIter_wide ha ?_;exact ⟨s1.heap.objs.size,[s1.heap.objs.size],_,_,H1,rfl,I1.kept (t':=s1.toks) fun b o e=>Heap.get?_push_of_some _ e,JlH _ z t "str_iterator" (.inr rfl) (fun A' hA=>Walks.strWide hA _ z t),⟨Nat.zero_le _,_,Heap.get?_push_size _ rfl,rfl,rfl⟩,fp,q⟩
 ·refine wpAny_pyIter_ascii ha ?_;exact ⟨s1.heap.objs.size,[s1.heap.objs.size],_,_,H1,rfl,I1.kept (t':=s1.toks) fun b o e=>Heap.get?_push_of_some _ e,JlH _ z t "str_ascii_iterator" (.inl rfl) (fun A' hA=>Walks.strAscii hA _ z t),⟨Nat.zero_le _,_,Heap.get?_push_size _ rfl,rfl,rfl⟩,fp,q⟩
end
section
variable {X:Cx}
theorem JrP {bs:List Bool}:∀ {us:List Value},JI (bs.map V.bl) us→us=bs.map Value.bool:=by
 induction bs with
 | nil=>intro us r; cases r; rfl
 | cons b bs ih =>
  intro us r;cases r with
  | cons r rr =>
   cases (show _=Value.bool b from r);rw [ih rr]; rfl
theorem Jrf (hc:X.calm=true):Yv X (.builtin "all") (fun xs H Q=>∃ (l:Addr) (bs:List Bool),xs=[.ref l]∧Jp X.K H l (bs.map V.bl)∧Q (.bl (bs.all id)) H):=by
 intro pins s σ H xs us Q I r h;obtain ⟨l,bs,rfl,hl,q⟩:=h;obtain ⟨u,rfl,ru⟩:=JI.one r;cases ru;obtain ⟨its,rv,pl,hz⟩:=I.list hl;have e:=JrP rv;subst e;refine call_all_walk (wpAny_pyIter_list pl.isList ?_);have hlt:l < s.heap.objs.size:=by obtain ⟨o,n,e,_⟩:=pl; exact Heap.lt_size e
 refine ⟨_,_,_,_,_,_,fun i=>(bs[i]?).getD true,rfl,Walks.list (A:=X.A.in1) (I.ok.hd hc) s.heap.objs.size l (Nat.ne_of_lt hlt) (bs.map Value.bool).toArray,?_,?_,fun h' tk kk=>?_⟩
 ·exact ⟨⟨_,Heap.get?_push_size _ rfl,rfl,rfl⟩,(by obtain ⟨o,n,e,c,d1,d2⟩:=pl; exact ⟨o,Heap.get?_push_of_some _ e,c,n,d2⟩)⟩
 ·intro i v s' Q' E' hP hQ;have hP:(bs.map Value.bool).toArray[i]?=some v:=hP;rw [List.getElem?_toArray,List.getElem?_map] at hP;cases hb:bs[i]? with
  | none=>rw [hb] at hP; cases hP
  | some b =>
   rw [hb] at hP;cases hP;have hQ:Q' ((bs[i]?).getD true) s':=hQ;rw [hb] at hQ;exact wpAny_truthy_bool hQ
 ·have e:(List.range (bs.map Value.bool).toArray.size).all (fun i=>(bs[i]?).getD true)=bs.all id:=by
   rw [List.size_toArray,List.length_map,Bool.eq_iff_iff,List.all_eq_true,List.all_eq_true];constructor
   ·intro h b hb;obtain ⟨i,hi,rfl⟩:=List.mem_iff_getElem.mp hb;have z:=h i (List.mem_range.mpr hi);rw [List.getElem?_eq_getElem hi] at z;exact z
   ·intro h i hi;have hi':=List.mem_range.mp hi;rw [List.getElem?_eq_getElem hi'];exact h _ (List.getElem_mem hi')
  rw [e];exact ⟨.bl _,H,I.kept fun b o e=>kk b o (fun z=>absurd (Heap.lt_size e) (by rw [List.mem_singleton.mp z]; exact Nat.lt_irrefl _)) (Heap.get?_push_of_some _ e),rfl,q⟩
end
end L2
namespace L2
open PySem PySem.Spec PyProof.Rows
def tm (n:Nat) (z:Str):Prop:=z.length≤n∧∀ c∈z.cps.toList,c < 16 ^ 8
theorem tm.mono {n m:Nat} {z:Str} (h:tm n z) (l:n≤m):tm m z:=⟨Nat.le_trans h.1 l,h.2⟩
theorem JtI {n:Nat} {z:Str} (h:(decide (z.length≤n) && z.cps.toList.all fun c=>decide (c < 16 ^ 8))=true):tm n z:=by
 rw [Bool.and_eq_true] at h;exact ⟨of_decide_eq_true h.1,fun c hc=>of_decide_eq_true (List.all_eq_true.mp h.2 c hc)⟩
theorem JsI {n m:Nat} {x y:Str} (h:tm n x) (h':tm m y):tm (n + m) (x ++ y):=by
 refine ⟨by rw [strLen_append]; exact Nat.add_le_add h.1 h'.1,fun c hc=>?_⟩;rcases mem_cps_append.mp hc with q | q
 ·exact h.2 c q
 ·exact h'.2 c q
theorem Jsq {xs:List V} {lo hi:Option Int} {x:V} (h:x∈Jbe xs lo hi):x∈xs:=List.mem_of_mem_drop (List.mem_of_mem_take h)
end L2
namespace L2
open PySem PySem.Spec PyProof.Rows
section
variable {te:TE} {σc:St} {D:Addr} {H1:Hp} {Q:Hp→Prop}
theorem Jhk {J:It} {n:Nat} {X1:Nat→V→Prop} (F:Nat→V→Prop) (h00:σc[0]?=some none) (hgo:∀ i H,i < n→Jf H1 H→J.go i H∧∀ x H',J.yld i H x H'→H'=H∧X1 i x) (hstop:∀ H,Jf H1 H→J.stop n H)
  (hD:H1 D=none) (hlen:n≤sizeLine) (he:∀ i x H,i < n→X1 i x→Jf H1 H→∀ Q':VK,(∀ v,F i v→Q' v H)→te (σc.set 0 (some x)) H Q')
  (hd:∀ ys H,Jf H1 H→H D=some (.lst ys)→ys.length=n→(∀ i v,ys[i]?=some v→F i v)→Q H):JcR J (JaD 0) Jd1 te σc D H1 Q:=by
 refine JhN (n:=n) (X1:=X1) (fun i ys H=>Jf H1 H∧H D=some (.lst ys)∧ys.length=i∧∀ j v,ys[j]?=some v→F j v) h00 (fun i H hi ⟨ys,p⟩=>hgo i H hi p.1) (fun H ⟨ys,p⟩=>hstop H p.1)
  ⟨Jf.upd hD,Jh,rfl,fun j v e=>by simp at e⟩ (fun i ys H p=>p.2.1) (fun i x ys H hi hx p=>?_) (fun ys H p=>hd ys H p.1 p.2.1 p.2.2.1 p.2.2.2)
 obtain ⟨e,hy,hl,hf⟩:=p;simp only [Jd1,if_true];refine he i x H hi hx e _ fun v hv=>⟨hy,by omega,fun b u q=>?_,Jh,by simp [hl],fun j u q=>?_⟩
 ·rw [Jz (JA q hD)];exact e b u q
 ·by_cases hj:j < ys.length
  ·rw [List.getElem?_append_left hj] at q;exact hf j u q
  ·rw [List.getElem?_append_right (by omega)] at q;have hj2:j - ys.length < 1:=(List.getElem?_eq_some_iff.mp q).1;have e1:j=i:=by omega
   have e2:j - ys.length=0:=by omega
   rw [e2] at q;cases q;rw [e1];exact hv
theorem Jk3 {K:PySem.W.Frag} {a:Addr} {xs:List V} (F:Nat→V→Prop) (h00:σc[0]?=some none) (hS:Jp K H1 a xs) (hD:H1 D=none) (hlen:xs.length≤sizeLine)
  (he:∀ i x H,xs[i]?=some x→Jf H1 H→∀ Q':VK,(∀ v,F i v→Q' v H)→te (σc.set 0 (some x)) H Q')
  (hd:∀ ys H,Jf H1 H→H D=some (.lst ys)→ys.length=xs.length→(∀ i v,ys[i]?=some v→F i v)→Q H):JcR (Itl K a) (JaD 0) Jd1 te σc D H1 Q :=
 Jhk (n:=xs.length) (X1:=fun i x=>xs[i]?=some x) F h00 (fun i H hi e=>⟨⟨xs,xs[i],e.seq hS,by simp [hi]⟩,fun x H' y=>⟨y.1,y.2 xs (e.seq hS)⟩⟩) (fun H e=>⟨xs,e.seq hS,Nat.le_refl _⟩) hD hlen (fun i x H _ hx e=>he i x H hx e) hd
theorem Jlp {z:Str} (F:Nat→V→Prop) (h00:σc[0]?=some none) (hD:H1 D=none) (hlen:z.length≤sizeLine)
  (he:∀ i c H,z.cps[i]?=some c→Jf H1 H→∀ Q':VK,(∀ v,F i v→Q' v H)→te (σc.set 0 (some (.str ⟨#[c]⟩))) H Q')
  (hd:∀ ys H,Jf H1 H→H D=some (.lst ys)→ys.length=z.length→(∀ i v,ys[i]?=some v→F i v)→Q H):JcR (Its z) (JaD 0) Jd1 te σc D H1 Q :=
 Jhk (n:=z.length) (X1:=fun i x=>∃ c,z.cps[i]?=some c∧x=.str ⟨#[c]⟩) F h00 (fun i H hi _=>⟨hi,fun x H' y=>y⟩) (fun H _=>Nat.le_refl _) hD hlen (fun i x H hi hx e=>by obtain ⟨c,hc,rfl⟩:=hx; exact he i c H hc e) hd
end
end L2
namespace HS
open PySem PySem.SetTable
def adv (m:Nat) (p:Probe):Probe :=
 if p.more > 0 then ⟨p.j + 1,p.more - 1,p.i,p.perturb,p.dummy⟩
 else ⟨(leap m p.i p.perturb).1,runEnd m (leap m p.i p.perturb).1 - (leap m p.i p.perturb).1,(leap m p.i p.perturb).1,(leap m p.i p.perturb).2,p.dummy⟩
theorem JjE (t:SetTable) (p:Probe):t.advance p=adv t.mask p:=by
 unfold SetTable.advance adv;split <;> rfl
def st (m i q:Nat):Probe:=⟨i,runEnd m i - i,i,q,none⟩
def YI (m:Nat) (h:Int):Probe:=st m (bits h % (m + 1)) (bits h)
def Ys (m:Nat):Nat→Probe→Probe
 | 0,p=>p
 | k + 1,p=>Ys m k (adv m p)
theorem JdZ (m:Nat):∀ a b p,Ys m (a + b) p=Ys m b (Ys m a p)
 | 0,b,p=>by rw [Nat.zero_add]; rfl
 | a + 1,b,p=>by
  have e:a + 1 + b=(a + b) + 1:=by omega
  rw [e];exact JdZ m a b (adv m p)
theorem Jg2 (m:Nat):∀ k p,(Ys m k p).dummy=p.dummy
 | 0,_=>rfl
 | k + 1,p=>by
  show (Ys m k (adv m p)).dummy=p.dummy;rw [Jg2 m k];unfold adv;split <;> rfl
theorem JdY {m i q:Nat}:∀ {d:Nat},d≤runEnd m i - i→Ys m d (st m i q)=⟨i + d,runEnd m i - i - d,i,q,none⟩
 | 0,_=>rfl
 | d + 1,h=>by
  rw [JdZ m d 1,JdY (d:=d) (by omega)];show adv m _=_;unfold adv;rw [if_pos (by show runEnd m i - i - d > 0; omega)];show Probe.mk _ _ _ _ _=_;congr 1
theorem Jmt {m i q:Nat}:Ys m (runEnd m i - i + 1) (st m i q)=st m (leap m i q).1 (leap m i q).2:=by
 rw [JdZ m _ 1,JdY (Nat.le_refl _)];show adv m _=_;unfold adv;rw [if_neg (by show ¬ runEnd m i - i - (runEnd m i - i) > 0; omega)];rfl
theorem Jnt (m i:Nat):runEnd m i - i≤9:=by unfold runEnd; split <;> omega
theorem Jo8 {m i:Nat} (h:i≤m):runEnd m i≤m:=by unfold runEnd; split <;> omega
theorem Jkg (m i q:Nat):(leap m i q).1≤m:=Nat.le_of_lt_succ (Nat.mod_lt _ (Nat.succ_pos _))
def ZW (m:Nat):Nat→Nat×Nat→Nat×Nat
 | 0,x=>x
 | L + 1,x=>ZW m L (leap m x.1 x.2)
theorem Jea (m:Nat):∀ a b x,ZW m (a + b) x=ZW m b (ZW m a x)
 | 0,b,x=>by rw [Nat.zero_add]; rfl
 | a + 1,b,x=>by
  have e:a + 1 + b=(a + b) + 1:=by omega
  rw [e];exact Jea m a b _
theorem JpZ (m:Nat):∀ L i q,∃ k,k≤10 * L∧Ys m k (st m i q)=st m (ZW m L (i,q)).1 (ZW m L (i,q)).2
 | 0,i,q=>⟨0,Nat.le_refl _,rfl⟩
 | L + 1,i,q=>by
  obtain ⟨k,hk,e⟩:=JpZ m L (leap m i q).1 (leap m i q).2;have r:=Jnt m i;refine ⟨runEnd m i - i + 1 + k,by omega,?_⟩;rw [JdZ,Jmt,e];rfl
theorem Jl0 (m:Nat):∀ L i q,(ZW m L (i,q)).2=q / 32 ^ L
 | 0,i,q=>by simp [ZW]
 | L + 1,i,q=>by
  show (ZW m L ((leap m i q).1,(leap m i q).2)).2=_;rw [Jl0 m L];show q / 32 / 32 ^ L=_;rw [Nat.div_div_eq_div_mul,Nat.pow_succ,Nat.mul_comm]
theorem Jns (m:Nat):∀ L i q,i≤m→(ZW m L (i,q)).1≤m
 | 0,i,q,h=>h
 | L + 1,i,q,h=>Jns m L _ _ (Jkg m i q)
def Jof (m:Nat):Nat→Nat→List Nat
 | 0,i=>[i]
 | L + 1,i=>i :: Jof m L ((i * 5 + 1) % (m + 1))
theorem JgN (m:Nat):∀ n i j,j∈Jof m n i→∃ L,L≤n∧(ZW m L (i,0)).1=j
 | 0,i,j,h=>⟨0,Nat.le_refl _,(List.mem_singleton.mp h).symm⟩
 | n + 1,i,j,h=>by
  rcases List.mem_cons.mp h with rfl | h
  ·exact ⟨0,Nat.zero_le _,rfl⟩
  ·obtain ⟨L,hL,e⟩:=JgN m n _ j h;refine ⟨L + 1,by omega,?_⟩;show (ZW m L (leap m i 0)).1=j;have e2:leap m i 0=((i * 5 + 1) % (m + 1),0):=by unfold leap; simp
   rw [e2];exact e
def Msk (m:Nat):Prop:=m=7∨m=31∨m=127
def JrL (m:Nat):Bool:=((List.range (m + 1)).all fun j=>(Jof m m 0).contains j) && decide (ZW m (m + 1) (0,0)=(0,0))
theorem Jrj {m:Nat} (h:Msk m):JrL m=true:=by
 rcases h with rfl | rfl | rfl <;> decide +kernel
theorem Js0 (m:Nat) (L i:Nat):ZW m L (i,0)=((ZW m L (i,0)).1,0):=Prod.ext rfl (by rw [Jl0]; exact Nat.zero_div _)
theorem Jpg {m i j:Nat} (h:Msk m) (hi:i≤m) (hj:j≤m):∃ L,L≤m∧(ZW m L (i,0)).1=j:=by
 have z:=Jrj h;unfold JrL at z;rw [Bool.and_eq_true] at z;obtain ⟨z1,z2⟩:=z;have per:ZW m (m + 1) (0,0)=(0,0):=of_decide_eq_true z2;obtain ⟨a,ha,ea⟩:=JgN m m 0 i (List.contains_iff_mem.mp (List.all_eq_true.mp z1 i (List.mem_range.mpr (by omega))));obtain ⟨b,hb,eb⟩:=JgN m m 0 j (List.contains_iff_mem.mp (List.all_eq_true.mp z1 j (List.mem_range.mpr (by omega))));have ei:ZW m a (0,0)=(i,0):=by rw [Js0,ea]
 by_cases hab:a≤b
 ·refine ⟨b - a,by omega,?_⟩;rw [← ei,← Jea,show a + (b - a)=b by omega];exact eb
 ·refine ⟨m + 1 - a + b,by omega,?_⟩;rw [← ei,← Jea,show a + (m + 1 - a + b)=(m + 1) + b by omega,Jea,per];exact eb
theorem JpN {m i q j:Nat} (h:Msk m) (hi:i≤m) (hq:q < 2 ^ 64) (hj:j≤m):∃ L,L≤13 + m∧(ZW m L (i,q)).1=j:=by
 have e:ZW m 13 (i,q)=((ZW m 13 (i,q)).1,0):=by
  refine Prod.ext rfl ?_;rw [Jl0];exact Nat.div_eq_of_lt (Nat.lt_trans hq (by decide))
 obtain ⟨L,hL,e2⟩:=Jpg h (Jns m 13 i q hi) hj;refine ⟨13 + L,by omega,?_⟩;rw [Jea,e];exact e2
theorem JnO (h:Int):bits h < 2 ^ 64:=by
 unfold bits;have h1:=Int.emod_lt_of_pos h (b:=(2 ^ 64:Int)) (by decide);have h0:=Int.emod_nonneg h (b:=(2 ^ 64:Int)) (by decide);omega
theorem Jhz (m:Nat) (h:Int):bits h % (m + 1)≤m:=Nat.le_of_lt_succ (Nat.mod_lt _ (Nat.succ_pos _))
theorem Jjm {m:Nat}:∀ {k p},p.j + p.more≤m→(Ys m k p).j + (Ys m k p).more≤m
 | 0,p,h=>h
 | k + 1,p,h=>by
  refine Jjm (k:=k) (p:=adv m p) ?_;unfold adv;split
  ·show p.j + 1 + (p.more - 1)≤m;omega
  ·show (leap m p.i p.perturb).1 + (runEnd m (leap m p.i p.perturb).1 - (leap m p.i p.perturb).1)≤m;have a:=Jkg m p.i p.perturb;have b:=Jo8 a;omega
theorem Jik (m:Nat) (h:Int):(YI m h).j + (YI m h).more≤m:=by
 have a:=Jhz m h;have b:=Jo8 a;show bits h % (m + 1) + (runEnd m (bits h % (m + 1)) - bits h % (m + 1))≤m;omega
def Jcd (m:Nat) (occ:Nat→Bool) (p:Probe) (k:Nat):Prop:=occ (Ys m k p).j=false∧∀ k',k' < k→occ (Ys m k' p).j=true
theorem Jq7 {m:Nat} {occ:Nat→Bool} {p:Probe}:∀ {k:Nat},occ (Ys m k p).j=false→∃ k',k'≤k∧Jcd m occ p k':=by
 intro k
 induction k using Nat.strongRecOn with
 | _ k ih =>
  intro h;by_cases hx:∃ k',k' < k∧occ (Ys m k' p).j=false
  ·obtain ⟨k',h1,h2⟩:=hx;obtain ⟨k2,h3,h4⟩:=ih k' h1 h2;exact ⟨k2,by omega,h4⟩
  ·refine ⟨k,Nat.le_refl _,h,fun k' hk=>?_⟩;cases hb:occ (Ys m k' p).j with
   | true=>rfl
   | false=>exact absurd ⟨k',hk,hb⟩ hx
theorem Jq8 {m:Nat} {occ:Nat→Bool} {h:Int} {j:Nat} (hm:Msk m) (hj:j≤m) (ho:occ j=false):∃ k,k < 10 * (m + 15)∧Jcd m occ (YI m h) k:=by
 obtain ⟨L,hL,e⟩:=JpN hm (Jhz m h) (JnO h) hj;obtain ⟨k,hk,e2⟩:=JpZ m L (bits h % (m + 1)) (bits h);have e3:(Ys m k (YI m h)).j=j:=by
  show (Ys m k (st m _ _)).j=j;rw [e2];exact e
 obtain ⟨k',h1,h2⟩:=Jq7 (occ:=occ) (by rw [e3]; exact ho);exact ⟨k',by omega,h2⟩
theorem Jcd.step {m:Nat} {occ:Nat→Bool} {p:Probe} {k:Nat} (h:Jcd m occ p (k + 1)):occ p.j=true∧Jcd m occ (adv m p) k:=⟨h.2 0 (Nat.succ_pos _),h.1,fun k' hk=>h.2 (k' + 1) (by omega)⟩
theorem JnD {t:SetTable} {hashAt:Nat→Int} {h:Int} {occ:Nat→Bool} (ho:∀ j,occ j=true→∃ i,t.slot j=.live i) (hf:∀ j,occ j=false→t.slot j=.empty):∀ (k fuel:Nat) (p:Probe),k < fuel→Jcd t.mask occ p k→p.dummy=none →
  (∃ n i,n < k∧t.slot (Ys t.mask n p).j=.live i∧hashAt i=h∧(∀ n' i',n' < n→t.slot (Ys t.mask n' p).j=.live i'→hashAt i'≠h)∧probe.go t hashAt h fuel p=some (.candidate (Ys t.mask n p).j i (Ys t.mask (n + 1) p))) ∨
  ((∀ n i,n < k→t.slot (Ys t.mask n p).j=.live i→hashAt i≠h)∧probe.go t hashAt h fuel p=some (.empty (Ys t.mask k p).j none))
 | 0,fuel + 1,p,_,hF,hd=>by
  refine .inr ⟨fun n i hn=>absurd hn (Nat.not_lt_zero _),?_⟩;have hz:t.slot p.j=.empty:=hf _ hF.1;unfold probe.go;rw [hz,hd];rfl
 | k + 1,fuel + 1,p,hk,hF,hd=>by
  obtain ⟨h1,h2⟩:=hF.step;obtain ⟨i,hi⟩:=ho _ h1;by_cases hh:hashAt i=h
  ·refine .inl ⟨0,i,Nat.succ_pos _,hi,hh,fun n' i' hn=>absurd hn (Nat.not_lt_zero _),?_⟩;unfold probe.go;rw [hi];simp only [hh,beq_self_eq_true,if_true,JjE];rfl
  ·have e:probe.go t hashAt h (fuel + 1) p=probe.go t hashAt h fuel (adv t.mask p):=by
    rw [probe.go];rw [hi];have hb:(hashAt i == h)=false:=by simpa using hh
    simp only [hb,Bool.false_eq_true,if_false,JjE]
   have hd2:(adv t.mask p).dummy=none:=by
    have z:=Jg2 t.mask 1 p;exact z.trans hd
   rcases JnD ho hf k fuel (adv t.mask p) (by omega) h2 hd2 with ⟨n,i2,a1,a2,a3,a4,a5⟩ | ⟨a1,a2⟩
   ·refine .inl ⟨n + 1,i2,by omega,a2,a3,fun n' i' hn hs=>?_,by rw [e,a5]; rfl⟩;cases n' with
    | zero =>
     have z:t.slot p.j=.live i':=hs;rw [hi] at z;cases z;exact hh
    | succ n'=>exact a4 n' i' (by omega) hs
   ·refine .inr ⟨fun n i2 hn hs=>?_,by rw [e,a2]; rfl⟩;cases n with
    | zero =>
     have z:t.slot p.j=.live i2:=hs;rw [hi] at z;cases z;exact hh
    | succ n=>exact a1 n i2 (by omega) hs
def Ris (xs:Array Nat):Prop:=∀ a b,a < b→b < xs.size→xs.getD a 0 < xs.getD b 0
theorem JiN {xs:Array Nat} {j:Nat} (hr:Ris xs):∀ (fuel lo hi:Nat),hi - lo≤fuel→lo≤hi→hi≤xs.size→(∀ k,k < lo→xs.getD k 0 < j)→(∀ k,hi≤k→k < xs.size→j≤xs.getD k 0) →
  below.go xs j fuel lo hi≤xs.size∧(∀ k,k < below.go xs j fuel lo hi→xs.getD k 0 < j)∧(∀ k,below.go xs j fuel lo hi≤k→k < xs.size→j≤xs.getD k 0)
 | 0,lo,hi,hf,hl,hz,h1,h2=>by
  have e:lo=hi:=by omega
  subst e;unfold below.go;exact ⟨hz,h1,h2⟩
 | fuel + 1,lo,hi,hf,hl,hz,h1,h2=>by
  unfold below.go;by_cases hlt:lo < hi
  ·rw [if_pos hlt];have hm1:lo≤(lo + hi) / 2:=by omega
   have hm2:(lo + hi) / 2 < hi:=by omega
   have e:xs.getD ((lo + hi) / 2) j=xs.getD ((lo + hi) / 2) 0:=by
    have hlt2:(lo + hi) / 2 < xs.size:=by omega
    simp [Array.getD,hlt2]
   dsimp only;rw [e];by_cases hc:xs.getD ((lo + hi) / 2) 0 < j
   ·rw [if_pos hc];refine JiN hr fuel _ hi (by omega) (by omega) hz (fun k hk=>?_) h2;by_cases hk2:k=(lo + hi) / 2
    ·rw [hk2]; exact hc
    ·exact Nat.lt_trans (hr k _ (by omega) (by omega)) hc
   ·rw [if_neg hc];refine JiN hr fuel lo _ (by omega) hm1 (by omega) h1 (fun k hk hks=>?_);by_cases hk2:k=(lo + hi) / 2
    ·rw [hk2]; omega
    ·have:=hr _ k (show (lo + hi) / 2 < k by omega) hks;omega
  ·rw [if_neg hlt];have e:lo=hi:=by omega
   subst e;exact ⟨hz,h1,h2⟩
theorem JjC {xs:Array Nat} (hr:Ris xs) (j:Nat):below xs j≤xs.size∧(∀ k,k < below xs j→xs.getD k 0 < j)∧(∀ k,below xs j≤k→k < xs.size→j≤xs.getD k 0) :=
 JiN hr xs.size 0 xs.size (by omega) (Nat.zero_le _) (Nat.le_refl _) (fun k hk=>absurd hk (Nat.not_lt_zero _)) fun k hk hks=>by omega
def Y4 (place:Array Nat) (j:Nat):Bool:=place.toList.contains j
theorem JfD {place:Array Nat} {j:Nat}:Y4 place j=true↔∃ a,a < place.size∧place.getD a 0=j:=by
 unfold Y4;rw [List.contains_iff_mem,List.mem_iff_getElem];constructor
 ·rintro ⟨a,ha,e⟩;have ha':a < place.size:=by simpa using ha
  exact ⟨a,ha',by simpa [Array.getD,ha'] using e⟩
 ·rintro ⟨a,ha,e⟩;exact ⟨a,by simpa using ha,by simpa [Array.getD,ha] using e⟩
theorem Jgu {t:SetTable} (hr:Ris t.place) {a:Nat} (ha:a < t.place.size):t.slot (t.place.getD a 0)=.live a:=by
 obtain ⟨b1,b2,b3⟩:=JjC hr (t.place.getD a 0);have e:below t.place (t.place.getD a 0)=a:=by
  rcases Nat.lt_trichotomy (below t.place (t.place.getD a 0)) a with h | h | h
  ·have:=b3 _ (Nat.le_refl _) (by omega);have:=hr _ a h ha;omega
  ·exact h
  ·have:=b2 a h;omega
 unfold SetTable.slot;dsimp only;rw [e];have e2:t.place[a]?=some (t.place.getD a 0):=by simp [Array.getD,ha]
 rw [e2];simp
theorem JiZ {t:SetTable} (hr:Ris t.place) (hd:t.dummies=#[]) {j:Nat} (h:Y4 t.place j=false):t.slot j=.empty:=by
 unfold SetTable.slot;dsimp only;have hn:(t.place[below t.place j]? == some j)=false:=by
  cases hb:(t.place[below t.place j]? == some j) with
  | false=>rfl
  | true =>
   have z:t.place[below t.place j]?=some j:=by simpa using hb
   obtain ⟨hlt,e⟩:=Array.getElem?_eq_some_iff.mp z;have:Y4 t.place j=true:=JfD.mpr ⟨_,hlt,by simp [Array.getD,hlt,e]⟩;rw [h] at this; cases this
 rw [hn,hd];have hh:has #[] j=false:=by unfold has; simp
 rw [hh];rfl
theorem JqW {t:SetTable} (hr:Ris t.place) {j:Nat} (h:Y4 t.place j=true):∃ i,t.slot j=.live i:=by
 obtain ⟨a,ha,rfl⟩:=JfD.mp h;exact ⟨a,Jgu hr ha⟩
theorem Jss {t:SetTable} (hr:Ris t.place) (hd:t.dummies=#[]) {j i:Nat} (h:t.slot j=.live i):i < t.place.size∧t.place.getD i 0=j:=by
 cases ho:Y4 t.place j with
 | false=>rw [JiZ hr hd ho] at h; cases h
 | true =>
  obtain ⟨a,ha,rfl⟩:=JfD.mp ho;rw [Jgu hr ha] at h;cases h;exact ⟨ha,rfl⟩
theorem Jeh:∀ {l r:List Nat},l.Nodup→(∀ x∈l,x∈r)→l.length≤r.length
 | [],_,_,_=>Nat.zero_le _
 | x :: l,r,hn,hs=>by
  have hx:=hs x (List.mem_cons_self ..);have h1:=List.nodup_cons.mp hn;have z:=Jeh (l:=l) (r:=r.erase x) h1.2 fun y hy=>(List.mem_erase_of_ne (by rintro rfl; exact h1.1 hy)).mpr (hs y (List.mem_cons_of_mem _ hy))
  rw [List.length_erase_of_mem hx] at z;have:0 < r.length:=List.length_pos_of_mem hx;simp only [List.length_cons];omega
theorem Jsy {place:Array Nat} {m:Nat} (h:place.size≤m):∃ j,j≤m∧Y4 place j=false:=by
 by_cases hx:∃ j,j≤m∧Y4 place j=false
 ·exact hx
 ·exfalso;have z:=Jeh (l:=List.range (m + 1)) (r:=place.toList) List.nodup_range fun x hx2=>by
   cases ho:Y4 place x with
   | false=>exact absurd ⟨x,by have:=List.mem_range.mp hx2; omega,ho⟩ hx
   | true=>exact List.contains_iff_mem.mp ho
  rw [List.length_range,Array.length_toList] at z;omega
end HS
namespace HS
open PySem PySem.SetTable
def JjH (m:Nat) (occ:Nat→Bool) (h:Int) (j:Nat):Prop:=∃ k,(Ys m k (YI m h)).j=j∧∀ k',k' < k→occ (Ys m k' (YI m h)).j=true
theorem JjH.mono {m:Nat} {occ occ':Nat→Bool} {h:Int} {j:Nat} (r:JjH m occ h j) (ho:∀ j,occ j=true→occ' j=true):JjH m occ' h j:=let ⟨k,e,a⟩:=r; ⟨k,e,fun k' hk=>ho _ (a k' hk)⟩
structure Tab (t:SetTable) (es:Array (Int×Value)):Prop where
 msk:Msk t.mask
 dum:t.dummies=#[]
 siz:t.place.size=es.size
 ris:Ris t.place
 ub:∀ j∈t.place.toList,j≤t.mask
 cap:es.size≤t.mask
 rch:∀ z∈t.place.toList.zip es.toList,JjH t.mask (Y4 t.place) z.2.1 z.1
theorem Tab.fits {t:SetTable} {es:Array (Int×Value)} (T:Tab t es):t.fits es.size=true:=by
 unfold SetTable.fits SetTable.fill;rw [T.dum,T.siz];have:=T.cap;simp;exact this
theorem Tab.first {t:SetTable} {es:Array (Int×Value)} (T:Tab t es) (h:Int):∃ k,k < 10 * turns t.mask∧Jcd t.mask (Y4 t.place) (YI t.mask h) k:=by
 obtain ⟨j,hj,ho⟩:=Jsy (place:=t.place) (m:=t.mask) (by rw [T.siz]; exact T.cap);exact Jq8 T.msk hj ho
theorem Tab.met {t:SetTable} {es:Array (Int×Value)} (T:Tab t es) {h:Int} {k a:Nat} {e:Int×Value} (hF:Jcd t.mask (Y4 t.place) (YI t.mask h) k) (he:es.toList[a]?=some e) (hh:e.1=h) :
  ∃ n,n < k∧t.slot (Ys t.mask n (YI t.mask h)).j=.live a:=by
 have ha:a < es.size:=by
  have:=(List.getElem?_eq_some_iff.mp he).1;simpa using this
 have ha':a < t.place.size:=by rw [T.siz]; exact ha
 have hz:(t.place.getD a 0,e)∈t.place.toList.zip es.toList:=by
  refine List.mem_of_getElem? (i:=a) ?_;rw [List.getElem?_zip_eq_some];refine ⟨?_,he⟩;simp [Array.getD,ha']
 obtain ⟨n,e1,e2⟩:=T.rch _ hz;have hh':(YI t.mask e.1)=YI t.mask h:=by rw [hh]
 dsimp only at e1 e2;rw [hh'] at e1;rw [hh'] at e2;have hocc:Y4 t.place (t.place.getD a 0)=true:=JfD.mpr ⟨a,ha',rfl⟩;refine ⟨n,?_,by rw [e1]; exact Jgu T.ris ha'⟩;rcases Nat.lt_trichotomy n k with q | q | q
 ·exact q
 ·subst q;have:=hF.1;rw [e1,hocc] at this;cases this
 ·have:=e2 k q;rw [hF.1] at this;cases this
theorem Jj5 {xs:Array Nat}:Ris xs↔xs.toList.Pairwise (· < ·):=by
 rw [List.pairwise_iff_getElem];constructor
 ·intro h i j hi hj hij;have hi':i < xs.size:=by simpa using hi
  have hj':j < xs.size:=by simpa using hj
  have:=h i j hij hj';simpa [Array.getD,hi',hj'] using this
 ·intro h a b hab hb;have ha:a < xs.size:=by omega
  have:=h a b (by simpa using ha) (by simpa using hb) hab;simpa [Array.getD,ha,hb] using this
theorem JdO {α β:Type} {P:List α} {E:List β} {z:α×β}:z∈P.zip E↔∃ i:Nat,P[i]?=some z.1∧E[i]?=some z.2:=by
 rw [List.mem_iff_getElem?];constructor
 ·rintro ⟨i,e⟩;exact ⟨i,List.getElem?_zip_eq_some.mp e⟩
 ·rintro ⟨i,e⟩;exact ⟨i,List.getElem?_zip_eq_some.mpr e⟩
theorem JnR {α β:Type} {P:List α} {E:List β} {p:Nat} {s:α} {e:β} (h:P.length=E.length) {z:α×β} (hz:z∈(P.take p ++ s :: P.drop p).zip (E.take p ++ e :: E.drop p)):z∈P.zip E∨z=(s,e):=by
 rw [List.zip_append (by rw [List.length_take,List.length_take,h]),List.zip_cons_cons] at hz;rcases List.mem_append.mp hz with q | q
 ·obtain ⟨i,e1,e2⟩:=JdO.mp q;rw [List.getElem?_take] at e1 e2;refine .inl (JdO.mpr ⟨i,?_,?_⟩)
  ·split at e1
   ·exact e1
   ·cases e1
  ·split at e2
   ·exact e2
   ·cases e2
 ·rcases List.mem_cons.mp q with q | q
  ·exact .inr q
  ·obtain ⟨i,e1,e2⟩:=JdO.mp q;rw [List.getElem?_drop] at e1 e2;exact .inl (JdO.mpr ⟨_,e1,e2⟩)
theorem Js8 {t:SetTable} {es:Array (Int×Value)} (T:Tab t es) (j:Nat):t.put j=({ t with place:=insertAt t.place (below t.place j) j,dummies:=#[] },below t.place j):=by
 unfold SetTable.put;have hh:has #[] j=false:=by unfold has; simp
 simp only [T.dum,hh,Bool.false_eq_true,if_false]
theorem Jjc {place:Array Nat} {p j j':Nat}:Y4 (insertAt place p j) j'=true↔j'=j∨Y4 place j'=true:=by
 unfold Y4;rw [List.contains_iff_mem,List.contains_iff_mem,SetTable.toList_insertAt,List.mem_append,List.mem_cons];constructor
 ·rintro (h | h | h)
  ·exact .inr (List.mem_of_mem_take h)
  ·exact .inl h
  ·exact .inr (List.mem_of_mem_drop h)
 ·rintro (h | h)
  ·exact .inr (.inl h)
  ·rw [← List.take_append_drop p place.toList] at h;rcases List.mem_append.mp h with h | h
   ·exact .inl h
   ·exact .inr (.inr h)
theorem Tab.put {t:SetTable} {es:Array (Int×Value)} (T:Tab t es) {h:Int} {x:Value} {k:Nat} (b:Bool) (hF:Jcd t.mask (Y4 t.place) (YI t.mask h) k) (hc:es.size + 1≤t.mask) :
  Tab { mask:=t.mask,place:=insertAt t.place (below t.place (Ys t.mask k (YI t.mask h)).j) (Ys t.mask k (YI t.mask h)).j,dummies:=#[],finger:=t.finger,led:=t.led,moves:=t.moves,plain:=b }
   (insertAt es (below t.place (Ys t.mask k (YI t.mask h)).j) (h,x)):=by
 generalize hj:(Ys t.mask k (YI t.mask h)).j=j;have ho:Y4 t.place j=false:=by rw [← hj]; exact hF.1
 have hle:j≤t.mask:=by
  have:=Jjm (m:=t.mask) (k:=k) (Jik t.mask h);omega
 obtain ⟨b1,b2,b3⟩:=JjC T.ris j;have mono:∀ j',Y4 t.place j'=true→Y4 (insertAt t.place (below t.place j) j) j'=true:=fun j' q=>Jjc.mpr (.inr q)
 refine ⟨T.msk,rfl,?_,?_,?_,?_,?_⟩
 ·have e1:(insertAt t.place (below t.place j) j).size=t.place.size + 1:=by
   rw [← Array.length_toList,(SetTable.insertAt_perm t.place _ j).length_eq,Array.length_toList,Array.size_push]
  have e2:(insertAt es (below t.place j) (h,x)).size=es.size + 1:=by
   rw [← Array.length_toList,(SetTable.insertAt_perm es _ (h,x)).length_eq,Array.length_toList,Array.size_push]
  show (insertAt t.place (below t.place j) j).size=_;rw [e1,e2,T.siz]
 ·rw [Jj5];show (insertAt t.place (below t.place j) j).toList.Pairwise _;rw [SetTable.toList_insertAt];have hp:=Jj5.mp T.ris;rw [List.pairwise_append,List.pairwise_cons];refine ⟨hp.sublist (List.take_sublist _ _),⟨fun a ha=>?_,hp.sublist (List.drop_sublist _ _)⟩,fun a ha c hc=>?_⟩
  ·obtain ⟨i,hi,e⟩:=List.mem_iff_getElem.mp ha;rw [List.getElem_drop] at e;have hi2:below t.place j + i < t.place.size:=by
    rw [List.length_drop,Array.length_toList] at hi;omega
   have e2:t.place.getD (below t.place j + i) 0=a:=by rw [← e]; simp [Array.getD,hi2]
   have h1:=b3 _ (Nat.le_add_right _ i) hi2;have h2:a≠j:=fun q=>by
    have:=JfD.mpr ⟨_,hi2,e2.trans q⟩;rw [ho] at this; cases this
   omega
  ·have hlt:∀ a∈t.place.toList.take (below t.place j),a < j:=fun a ha=>by
    obtain ⟨i,hi,e⟩:=List.mem_iff_getElem.mp ha;rw [List.getElem_take] at e;rw [List.length_take,Array.length_toList] at hi;have hi2:i < t.place.size:=by omega
    have e2:t.place.getD i 0=a:=by rw [← e]; simp [Array.getD,hi2]
    have:=b2 i (by omega);omega
   rcases List.mem_cons.mp hc with q | q
   ·rw [q]; exact hlt a ha
   ·have hp2:=hp;rw [← List.take_append_drop (below t.place j) t.place.toList,List.pairwise_append] at hp2;exact hp2.2.2 a ha c q
 ·intro a ha;have:Y4 (insertAt t.place (below t.place j) j) a=true:=List.contains_iff_mem.mpr ha;rcases Jjc.mp this with q | q
  ·rw [q]; exact hle
  ·exact T.ub a (List.contains_iff_mem.mp q)
 ·rw [← Array.length_toList,(SetTable.insertAt_perm es _ (h,x)).length_eq,Array.length_toList,Array.size_push];exact hc
 ·intro z hz;have hz':z∈(insertAt t.place (below t.place j) j).toList.zip (insertAt es (below t.place j) (h,x)).toList:=hz;rw [SetTable.toList_insertAt,SetTable.toList_insertAt] at hz';rcases JnR (by rw [Array.length_toList,Array.length_toList,T.siz]) hz' with q | q
  ·exact (T.rch z q).mono mono
  ·rw [q];exact ⟨k,hj,fun k' hk=>mono _ (hF.2 k' hk)⟩
def ZO (owner:Array (Option Nat)) (j:Nat):Bool:=(owner.getD j (some 0)).isSome
theorem Jk0 {m:Nat} {owner:Array (Option Nat)}:∀ (fuel i q:Nat),i≤m→(∃ L,L < fuel∧ZO owner (ZW m L (i,q)).1=false) →
  ∃ k,layClean.free m owner fuel i q=some (Ys m k (st m i q)).j∧Jcd m (ZO owner) (st m i q) k
 | 0,i,q,hi,⟨L,hL,_⟩=>absurd hL (Nat.not_lt_zero _)
 | fuel + 1,i,q,hi,⟨L,hL,hf⟩=>by
  have hr:=Jnt m i;have hge:i≤runEnd m i:=by unfold runEnd; split <;> omega
  unfold layClean.free;cases hx:(List.range (runEnd m i + 1 - i)).find? fun k=>(owner.getD (i + k) (some 0)).isNone with
  | some k =>
   obtain ⟨h1,h2,h3⟩:=List.find?_range_eq_some.mp hx;have hk:k≤runEnd m i - i:=by have:=List.mem_range.mp h2; omega
   refine ⟨k,?_,?_,fun k' hk'=>?_⟩
   ·rw [JdY hk]
   ·rw [JdY hk];show (owner.getD (i + k) (some 0)).isSome=false;cases ho:owner.getD (i + k) (some 0) with
    | none=>rfl
    | some a=>rw [ho] at h1; cases h1
   ·rw [JdY (by omega)];have z:=h3 k' hk';show (owner.getD (i + k') (some 0)).isSome=true;cases ho:owner.getD (i + k') (some 0) with
    | none=>rw [ho] at z; simp at z
    | some a=>rfl
  | none =>
   have hn:=List.find?_eq_none.mp hx;have occd:∀ d,d≤runEnd m i - i→ZO owner (i + d)=true:=fun d hd=>by
    have z:=hn d (List.mem_range.mpr (by omega));show (owner.getD (i + d) (some 0)).isSome=true;cases ho:owner.getD (i + d) (some 0) with
    | none=>rw [ho] at z; simp at z
    | some a=>rfl
   cases L with
   | zero =>
    have z:=occd 0 (Nat.zero_le _);rw [Nat.add_zero] at z;have hf':ZO owner i=false:=hf;rw [z] at hf'; cases hf'
   | succ L =>
    obtain ⟨k,e,hF⟩:=Jk0 fuel (leap m i q).1 (leap m i q).2 (Jkg m i q) ⟨L,by omega,hf⟩;have eI:∀ n,Ys m (runEnd m i - i + 1 + n) (st m i q)=Ys m n (st m (leap m i q).1 (leap m i q).2):=fun n=>by rw [JdZ,Jmt]
    refine ⟨runEnd m i - i + 1 + k,?_,?_,fun k' hk'=>?_⟩
    ·rw [eI]; exact e
    ·rw [eI]; exact hF.1
    ·by_cases hs:k'≤runEnd m i - i
     ·rw [JdY hs]; exact occd k' hs
     ·obtain ⟨n,rfl⟩:∃ n,k'=runEnd m i - i + 1 + n:=⟨k' - (runEnd m i - i + 1),by omega⟩
      rw [eI];exact hF.2 n (by omega)
structure Own (m:Nat) (owner:Array (Option Nat)) (done:List Int):Prop where
 siz:owner.size=m + 1
 all:∀ a,a < done.length→∃ j,j≤m∧owner.getD j none=some a
 has:∀ j a,owner.getD j none=some a→∃ h,done[a]?=some h∧JjH m (ZO owner) h j
 inj:∀ j j' a,owner.getD j none=some a→owner.getD j' none=some a→j=j'
theorem Own.lt {m:Nat} {owner:Array (Option Nat)} {done:List Int} (O:Own m owner done) {j a:Nat} (h:owner.getD j none=some a):j≤m∧a < done.length:=by
 obtain ⟨hh,e,_⟩:=O.has j a h;refine ⟨?_,(List.getElem?_eq_some_iff.mp e).1⟩;by_cases hj:j < owner.size
 ·have:=O.siz; omega
 ·rw [show owner.getD j none=none by simp [Array.getD,hj]] at h; cases h
theorem JgM {owner:Array (Option Nat)} {j:Nat} (hj:j < owner.size):owner.getD j (some 0)=owner.getD j none:=by simp [Array.getD,hj]
theorem Own.free {m:Nat} {owner:Array (Option Nat)} {done:List Int} (O:Own m owner done) (h:done.length≤m):∃ j,j≤m∧ZO owner j=false:=by
 by_cases hx:∃ j,j≤m∧ZO owner j=false
 ·exact hx
 ·exfalso;have hall:∀ j,j≤m→∃ a,owner.getD j none=some a:=fun j hj=>by
   cases ho:ZO owner j with
   | false=>exact absurd ⟨j,hj,ho⟩ hx
   | true =>
    unfold ZO at ho;rw [JgM (by rw [O.siz]; omega)] at ho;exact Option.isSome_iff_exists.mp ho
  have hnd:((List.range (m + 1)).map fun j=>(owner.getD j none).getD 0).Nodup:=by
   rw [List.Nodup,List.pairwise_map];refine List.Pairwise.imp_of_mem ?_ (List.pairwise_lt_range (n:=m + 1));intro a b ha hb hlt e;obtain ⟨x,ex⟩:=hall a (by have:=List.mem_range.mp ha; omega);obtain ⟨y,ey⟩:=hall b (by have:=List.mem_range.mp hb; omega);rw [ex,ey] at e;have e':x=y:=e;subst e';have:=O.inj a b x ex ey;omega
  have z:=Jeh (r:=List.range done.length) hnd fun x hx2=>by
   obtain ⟨j,hj,e⟩:=List.mem_map.mp hx2;obtain ⟨y,ey⟩:=hall j (by have:=List.mem_range.mp hj; omega);rw [ey] at e;have e':y=x:=e;subst e';exact List.mem_range.mpr (O.lt ey).2
  rw [List.length_map,List.length_range,List.length_range] at z;omega
theorem Own.step {m:Nat} {owner:Array (Option Nat)} {done:List Int} (hm:Msk m) (O:Own m owner done) (h:done.length≤m) (x:Int) :
  ∃ j,layClean.free m owner (turns m) (bits x % (m + 1)) (bits x)=some j∧Own m (owner.setIfInBounds j (some done.length)) (done ++ [x]):=by
 obtain ⟨f,hf,ho⟩:=O.free h;obtain ⟨L,hL,eL⟩:=JpN hm (Jhz m x) (JnO x) hf;obtain ⟨k,e,hF⟩:=Jk0 (owner:=owner) (turns m) (bits x % (m + 1)) (bits x) (Jhz m x) ⟨L,by unfold turns; omega,by rw [eL]; exact ho⟩;generalize hj:(Ys m k (st m (bits x % (m + 1)) (bits x))).j=j at e;have hjm:j≤m:=by
  have:=Jjm (m:=m) (k:=k) (Jik m x);have e2:(Ys m k (YI m x)).j=j:=hj;omega
 have hjs:j < owner.size:=by rw [O.siz]; omega
 have hj0:owner.getD j none=none:=by
  have z:=hF.1;rw [hj] at z;unfold ZO at z;rw [JgM hjs] at z;cases q:owner.getD j none with
  | none=>rfl
  | some a=>rw [q] at z; cases z
 have get:∀ i,(owner.setIfInBounds j (some done.length)).getD i none=if i=j then some done.length else owner.getD i none:=fun i=>by
  rw [Array.getD_eq_getD_getElem?,Array.getElem?_setIfInBounds];by_cases q:i=j
  ·subst q; simp [hjs]
  ·have q':¬ j=i:=fun w=>q w.symm
   rw [if_neg q',if_neg q,Array.getD_eq_getD_getElem?]
 have mono:∀ i,ZO owner i=true→ZO (owner.setIfInBounds j (some done.length)) i=true:=fun i q=>by
  unfold ZO at q ⊢;by_cases hi:i < owner.size
  ·rw [JgM (by simpa using hi),get];rw [JgM hi] at q;by_cases w:i=j
   ·rw [if_pos w]; rfl
   ·rw [if_neg w]; exact q
  ·simp [Array.getD,hi]
 refine ⟨j,e,by simpa using O.siz,fun a ha=>?_,fun i a hi=>?_,fun i i' a hi hi'=>?_⟩
 ·by_cases hlt:a < done.length
  ·obtain ⟨i,hi,ei⟩:=O.all a hlt;refine ⟨i,hi,?_⟩;rw [get,if_neg (fun q=>by rw [q,hj0] at ei; cases ei)];exact ei
  ·rw [List.length_append,List.length_singleton] at ha;have:a=done.length:=by omega
   subst this;exact ⟨j,hjm,by rw [get,if_pos rfl]⟩
 ·rw [get] at hi;split at hi
  ·rename_i q;cases hi;refine ⟨x,by simp,?_⟩;rw [q];exact ⟨k,hj,fun k' hk=>mono _ (hF.2 k' hk)⟩
  ·obtain ⟨hh,e1,r⟩:=O.has i a hi;exact ⟨hh,by rw [List.getElem?_append_left (List.getElem?_eq_some_iff.mp e1).1]; exact e1,r.mono mono⟩
 ·rw [get] at hi hi';split at hi <;> split at hi'
  ·rename_i q q'; rw [q,q']
  ·cases hi;have:=(O.lt hi').2;omega
  ·cases hi';have:=(O.lt hi).2;omega
  ·exact O.inj i i' a hi hi'
def Jmq (m:Nat) (acc:Option (Array (Option Nat)×Nat)) (h:Int):Option (Array (Option Nat)×Nat):=do
 let (owner,k) ← acc;let j ← layClean.free m owner (turns m) (bits h % (m + 1)) (bits h)
 pure (owner.setIfInBounds j (some k),k + 1)
theorem Jmp {m:Nat} (hm:Msk m):∀ (todo done:List Int) (owner:Array (Option Nat)),Own m owner done→done.length + todo.length≤m→∃ owner',todo.foldl (Jmq m) (some (owner,done.length))=some (owner',done.length + todo.length)∧Own m owner' (done ++ todo)
 | [],done,owner,O,_=>⟨owner,by simp,by simpa using O⟩
 | x :: todo,done,owner,O,h=>by
  simp only [List.length_cons] at h;obtain ⟨j,e,O2⟩:=O.step hm (by omega) x;obtain ⟨o3,e3,O3⟩:=Jmp hm todo (done ++ [x]) _ O2 (by rw [List.length_append,List.length_singleton]; omega);refine ⟨o3,?_,by simpa using O3⟩;rw [List.foldl_cons];have e4:Jmq m (some (owner,done.length)) x=some (owner.setIfInBounds j (some done.length),done.length + 1):=by
   unfold Jmq;simp [e]
  rw [e4];rw [List.length_append,List.length_singleton] at e3;rw [e3];simp only [List.length_cons];congr 2;omega
theorem Jpt {m:Nat} (hm:Msk m) (hashes:Array Int) (h:hashes.size≤m):∃ owner,layClean m hashes=some owner∧Own m owner hashes.toList:=by
 have O0:Own m (Array.replicate (m + 1) none) []:=by
  have g:∀ j,(Array.replicate (m + 1) (none:Option Nat)).getD j none=none:=fun j=>by
   rw [Array.getD_eq_getD_getElem?,Array.getElem?_replicate];split <;> rfl
  refine ⟨by simp,fun a ha=>absurd ha (Nat.not_lt_zero _),fun j a e=>?_,fun j j' a e=>?_⟩
  ·rw [g] at e; cases e
  ·rw [g] at e; cases e
 obtain ⟨owner,e,O⟩:=Jmp hm hashes.toList [] _ O0 (by simpa using h);refine ⟨owner,?_,by simpa using O⟩;unfold layClean;have e2:(hashes.foldl (init:=some (Array.replicate (m + 1) none,0)) fun acc h=>do
  let (owner,k) ← acc;let j ← layClean.free m owner (turns m) (bits h % (m + 1)) (bits h)
  pure (owner.setIfInBounds j (some k),k + 1))=hashes.toList.foldl (Jmq m) (some (Array.replicate (m + 1) none,0)):=by
  rw [← Array.foldl_toList];rfl
 rw [e2];have e3:hashes.toList.foldl (Jmq m) (some (Array.replicate (m + 1) none,0))=some (owner,0 + hashes.toList.length):=e;rw [e3];rfl
theorem JlD {es:Array (Int×Value)}:∀ {live:List (Nat×Nat)},(∀ x∈live,x.2 < es.size)→((live.map (·.2)).filterMap (es[·]?)).length=live.length ∧
  ∀ z∈(live.map (·.1)).zip ((live.map (·.2)).filterMap (es[·]?)),∃ x∈live,z.1=x.1∧es[x.2]?=some z.2
 | [],_=>⟨rfl,fun z hz=>nomatch hz⟩
 | x :: r,h=>by
  obtain ⟨a,b⟩:=JlD (live:=r) fun y hy=>h y (List.mem_cons_of_mem _ hy)
  have hx:=h x (List.mem_cons_self ..);have e:es[x.2]?=some es[x.2]:=Array.getElem?_eq_getElem hx;rw [List.map_cons,List.filterMap_cons_some e,List.map_cons,List.zip_cons_cons];refine ⟨by rw [List.length_cons,List.length_cons,a],fun z hz=>?_⟩;rcases List.mem_cons.mp hz with q | q
  ·exact ⟨x,List.mem_cons_self ..,by rw [q],by rw [q]; exact e⟩
  ·obtain ⟨y,hy,e1,e2⟩:=b z q;exact ⟨y,List.mem_cons_of_mem _ hy,e1,e2⟩
theorem JtW {m:Nat} (hm:Msk m) (finger moves:Nat) (led plain:Bool) (es:Array (Int×Value)) (h:es.size≤m) :
  ∃ t order,laid m finger moves led plain (es.map (·.1))=some (t,order)∧Tab t (order.filterMap (es[·]?))∧(order.filterMap (es[·]?)).size=es.size∧(∀ e,e∈(order.filterMap (es[·]?)).toList↔e∈es.toList)∧t.mask=m:=by
 obtain ⟨owner,eo,O⟩:=Jpt hm (es.map (·.1)) (by simpa using h);have hlen:(es.map (·.1)).toList.length=es.size:=by simp
 let live:=(List.range (m + 1)).filterMap fun j=>(owner.getD j none).map (j,·)
 have hlive:∀ x,x∈live↔owner.getD x.1 none=some x.2:=fun x=>by
  rw [List.mem_filterMap];constructor
  ·rintro ⟨j,hj,e⟩;obtain ⟨a,ea,e2⟩:=Option.map_eq_some_iff.mp e;rw [← e2];exact ea
  ·intro e;exact ⟨x.1,List.mem_range.mpr (by have:=(O.lt e).1; omega),by rw [e]; rfl⟩
 have hlt:∀ x∈live,x.2 < es.size:=fun x hx=>by rw [← hlen]; exact (O.lt ((hlive x).mp hx)).2
 obtain ⟨zl,zm⟩:=JlD hlt;have efst:live.map (·.1)=(List.range (m + 1)).filter fun j=>(owner.getD j none).isSome:=by
  show ((List.range (m + 1)).filterMap fun j=>(owner.getD j none).map (j,·)).map (·.1)=_;rw [List.map_filterMap]
  induction List.range (m + 1) with
  | nil=>rfl
  | cons a r ih =>
   cases ho:owner.getD a none with
   | none=>simp only [List.filterMap_cons,List.filter_cons,ho,Option.map_none,Option.isSome_none,Bool.false_eq_true,if_false]; exact ih
   | some b=>simp only [List.filterMap_cons,List.filter_cons,ho,Option.map_some,Option.isSome_some,if_true]; rw [ih]
 have hocc:∀ j,ZO owner j=true→j≤m→Y4 (live.map (·.1)).toArray j=true:=fun j q hj=>by
  unfold Y4;rw [List.contains_iff_mem,List.toList_toArray,efst,List.mem_filter];refine ⟨List.mem_range.mpr (by omega),?_⟩;unfold ZO at q;rw [JgM (by rw [O.siz]; omega)] at q;exact q
 have hcount:live.length=es.size:=by
  have n1:(live.map (·.2)).Nodup:=by
   rw [List.Nodup,List.pairwise_map];refine List.Pairwise.imp_of_mem (R:=fun x y=>x.1 < y.1) ?_ ?_
   ·intro x y hx hy hxy e;have e1:=(hlive x).mp hx;have e2:=(hlive y).mp hy;rw [← e] at e2;have:=O.inj _ _ _ e1 e2;omega
   ·have z:(live.map (·.1)).Pairwise (· < ·):=by rw [efst]; exact List.pairwise_lt_range.sublist List.filter_sublist
    exact List.pairwise_map.mp z
  have a1:=Jeh n1 (r:=List.range es.size) fun x hx=>by
   obtain ⟨y,hy,e⟩:=List.mem_map.mp hx;rw [← e];exact List.mem_range.mpr (hlt y hy)
  have a2:=Jeh (l:=List.range es.size) (r:=live.map (·.2)) List.nodup_range fun x hx=>by
   obtain ⟨j,hj,e⟩:=O.all x (by rw [hlen]; exact List.mem_range.mp hx);exact List.mem_map.mpr ⟨(j,x),(hlive _).mpr e,rfl⟩
  rw [List.length_map,List.length_range] at a1 a2;omega
 have efm:((live.map (·.2)).toArray.filterMap (es[·]?)).toList=(live.map (·.2)).filterMap (es[·]?):=by rw [Array.toList_filterMap]
 have esz:((live.map (·.2)).toArray.filterMap (es[·]?)).size=es.size:=by rw [← Array.length_toList,efm,zl,hcount]
 refine ⟨{ mask:=m,place:=(live.map (·.1)).toArray,dummies:=#[],finger,led,moves,plain },(live.map (·.2)).toArray,?_,⟨hm,rfl,?_,?_,?_,?_,?_⟩,esz,fun e=>?_,rfl⟩
 ·unfold laid;rw [eo];rfl
 ·rw [esz];show (live.map (·.1)).toArray.size=es.size;rw [List.size_toArray,List.length_map,hcount]
 ·rw [Jj5];show (live.map (·.1)).toArray.toList.Pairwise _;rw [List.toList_toArray,efst];exact List.pairwise_lt_range.sublist List.filter_sublist
 ·intro j hj;have hj':j∈(live.map (·.1)).toArray.toList:=hj;rw [List.toList_toArray] at hj';obtain ⟨x,hx,e⟩:=List.mem_map.mp hj';rw [← e];exact (O.lt ((hlive x).mp hx)).1
 ·rw [esz]; exact h
 ·intro z hz;rw [efm] at hz;have hz':z∈(live.map (·.1)).zip ((live.map (·.2)).filterMap (es[·]?)):=by simpa using hz
  obtain ⟨x,hx,e1,e2⟩:=zm z hz';obtain ⟨hh,e3,r⟩:=O.has _ _ ((hlive x).mp hx);have e4:hh=z.2.1:=by
   rw [Array.getElem?_toList,Array.getElem?_map,e2] at e3;exact (Option.some.inj e3).symm
  rw [e1,← e4];obtain ⟨k,ek,ak⟩:=r;refine ⟨k,ek,fun k' hk=>hocc _ (ak k' hk) ?_⟩;have:=Jjm (m:=m) (k:=k') (Jik m hh);show (Ys m k' (YI m hh)).j≤m;omega
 ·rw [efm,List.mem_filterMap];constructor
  ·rintro ⟨a,_,q⟩;exact List.mem_of_getElem? (by rw [Array.getElem?_toList]; exact q)
  ·intro he;obtain ⟨a,ha,q⟩:=List.mem_iff_getElem.mp he;have ha':a < es.size:=by simpa using ha
   obtain ⟨j,hj,e⟩:=O.all a (by rw [hlen]; exact ha');refine ⟨a,List.mem_map.mpr ⟨(j,a),(hlive _).mpr e,rfl⟩,?_⟩;rw [Array.getElem?_eq_getElem ha'];simpa using q
end HS
namespace HS
open PySem PySem.SetTable L2
section
variable {prog:Program} {w:World} {A:Around} {E:Value→Shared→Prop} {s:Shared}
abbrev TK (prog:Program) (w:World):=IsTupleKey (YC prog w)
abbrev hsh (prog:Program) (w:World) (ks:List JP):Int:=tupleKeyHash (YC prog w) ks
theorem Jm8 (n:Nat) {v:Value} (h:carriedByValue v=true):ofAClassStatement n v=pure false:=by
 cases v with
 | ref a=>simp [carriedByValue] at h
 | _=>first | rfl | simp [ofAClassStatement] | (unfold ofAClassStatement; rfl)
theorem Jh4 {ks:List JP} {a:Addr} {Q:Bool→Shared→Prop} (hk:TK prog w s.heap ks a) (h:Q false s):wpAny (model prog w) A (ofAClassStatement 8 (.ref a)) Q E s:=by
 obtain ⟨o,items,n,ho,hc,hd,hi⟩:=hk;unfold ofAClassStatement;refine wpAny_bind (PySem.W.Looks.here (show PySem.W.Looks _ s.heap (typeOf (.ref a)) (.type "tuple") from hc ▸ (PySem.W.Looks.ld ho).andThen .now) ?_);dsimp only;rw [if_pos (by decide)];refine wpAny_bind (wpAny_pure ?_);rw [if_neg (by decide)];refine wpAny_bind (wpAny_seqItems ho hd ?_);dsimp only;refine wpAny_bind ?_;rw [← Array.forIn_toList];refine wpAny_forIn_list _ (fun rest r s'=>r=(none,())∧s'=s∧∀ v∈rest,carriedByValue v=true) _ ?_ ?_ _ _ ⟨rfl,rfl,hi.byValue⟩
 ·rintro v rest r s' ⟨hr,rfl,hall⟩;rw [Jm8 _ (hall v List.mem_cons_self)];refine wpAny_bind (wpAny_pure ?_);rw [if_neg (by decide)];exact wpAny_pure ⟨rfl,rfl,fun u hu'=>hall u (List.mem_cons_of_mem _ hu')⟩
 ·rintro r s' ⟨hr,rfl,_⟩;subst hr;exact wpAny_pure h
theorem Jr8 {ks:List JP} {x:Addr} {stored:List Value} {Q:Bool→Shared→Prop} (hk:TK prog w s.heap ks x) (hall:∀ v∈stored,∃ a k',v=.ref a∧TK prog w s.heap k' a) (h:Q false s) :
  wpAny (model prog w) A (searchCouldBeSeen (.ref x) stored) Q E s:=by
 unfold searchCouldBeSeen;refine wpAny_bind ?_;refine wpAny_forIn_list _ (fun rest r s'=>r=(none,())∧s'=s∧∀ v∈rest,∃ a k',v=.ref a∧TK prog w s.heap k' a) _ ?_ ?_ _ _ ⟨rfl,rfl,hall⟩
 ·rintro v rest r s' ⟨hr,rfl,hall⟩;obtain ⟨a,k',rfl,hk'⟩:=hall v List.mem_cons_self;have rest_ok:∀ v∈rest,∃ a k',v=Value.ref a∧TK prog w s'.heap k' a:=fun u hu'=>hall u (List.mem_cons_of_mem _ hu')
  dsimp only;split
  ·exact wpAny_pure ⟨rfl,rfl,rest_ok⟩
  ·refine wpAny_bind (wpAny_eqIsQuiet_tuple hk ?_);rw [if_neg (by decide)];refine wpAny_bind (wpAny_eqIsQuiet_tuple hk' ?_);rw [if_neg (by decide)];refine wpAny_bind (Jh4 hk ?_);rw [if_neg (by decide)];refine wpAny_bind (Jh4 hk' ?_);rw [if_neg (by decide)];exact wpAny_pure ⟨rfl,rfl,rest_ok⟩
 ·rintro r s' ⟨hr,rfl,_⟩;subst hr;exact wpAny_pure h
structure Je4 (prog:Program) (w:World) (h:Heap) (S:Addr) (es:Array (Int×Value)) (t:SetTable) (D:List (List JP)):Prop where
 tab:Tab t es
 full:es.size * 5 < t.mask * 3
 els:∀ e∈es.toList,∃ ks∈D,∃ a,e=(hsh prog w ks,.ref a)∧TK prog w h ks a
 all:∀ ks∈D,∃ a,(hsh prog w ks,.ref a)∈es.toList∧TK prog w h ks a
 siz:es.size=D.length
theorem Jn6 {S x:Addr} {ks:List JP} {o:Obj} {es:Array (Int×Value)} {ep:Nat} {t:SetTable} {D:List (List JP)} {Q:SetFound→Shared→Prop} (hu:A.units < cLine) (ho:s.heap.get? S=some o) (hd:o.data=.set es ep t)
  (SA:Je4 prog w s.heap S es t D) (hk:TK prog w s.heap ks x) :
  ∀ (k fuel:Nat) (sd:Option Probe),k < fuel→k < 10 * turns t.mask→Jcd t.mask (Y4 t.place) (sd.getD (t.probeStart (hsh prog w ks))) k→(sd.getD (t.probeStart (hsh prog w ks))).dummy=none →
   ((∃ n i a,n < k∧t.slot (Ys t.mask n (sd.getD (t.probeStart (hsh prog w ks)))).j=.live i∧es.toList[i]?=some (hsh prog w ks,.ref a)∧TK prog w s.heap ks a)→Q (.there none) s) →
   ((∀ n i a,n < k→t.slot (Ys t.mask n (sd.getD (t.probeStart (hsh prog w ks)))).j=.live i→es.toList[i]?=some (hsh prog w ks,.ref a)→TK prog w s.heap ks a→False)→Q (.free (Ys t.mask k (sd.getD (t.probeStart (hsh prog w ks)))).j false) s) →
   wpAny (model prog w) A (setSearchFrom S (.ref x) (hsh prog w ks) true fuel sd) Q E s:=by
 intro k
 induction k using Nat.strongRecOn with
 | _ k ih =>
  intro fuel sd hf hb hF hdm h1 h2;obtain ⟨fuel,rfl⟩:∃ f,fuel=f + 1:=⟨fuel - 1,by omega⟩
  unfold setSearchFrom;refine wpAny_bind (wpAny_setState_of ho hd SA.tab.fits ?_);dsimp only;have hg:¬ t.gaveWay=true:=by
   unfold SetTable.gaveWay;rcases SA.tab.msk with e | e | e <;> rw [e] <;> decide
  rw [if_neg hg];have spec:=JnD (t:=t) (hashAt:=fun i=>(es[i]?.map (·.1)).getD 0) (h:=hsh prog w ks) (fun j=>JqW SA.tab.ris) (fun j=>JiZ SA.tab.ris SA.tab.dum) k (10 * turns t.mask) (sd.getD (t.probeStart (hsh prog w ks))) hb hF hdm;split
  ·rename_i met hmet;rcases spec with ⟨n,i,a1,a2,a3,a4,a5⟩ | ⟨a1,a2⟩
   ·have e:=Option.some.inj (hmet.symm.trans a5);subst e;dsimp only;obtain ⟨hi,hpl⟩:=Jss SA.tab.ris SA.tab.dum a2;have hie:i < es.size:=by rw [← SA.tab.siz]; exact hi
    obtain ⟨k',hk'D,b,eb,hkb⟩:=SA.els es[i] (by simp);have hei:es[i]?=some (hsh prog w k',.ref b):=by rw [Array.getElem?_eq_getElem hie,eb]
    have heL:es.toList[i]?=some (hsh prog w k',.ref b):=by rw [Array.getElem?_toList]; exact hei
    have hhash:hsh prog w k'=hsh prog w ks:=by
     rw [hei] at a3;exact a3
    have eI:∀ j,Ys t.mask j (Ys t.mask (n + 1) (sd.getD (t.probeStart (hsh prog w ks))))=Ys t.mask (n + 1 + j) (sd.getD (t.probeStart (hsh prog w ks))):=fun j=>(JdZ t.mask (n + 1) j _).symm
    have again:k'≠ks→wpAny (model prog w) A (setSearchFrom S (.ref x) (hsh prog w ks) true fuel (some (Ys t.mask (n + 1) (sd.getD (t.probeStart (hsh prog w ks)))))) Q E s:=fun he=>by
     have ek:n + 1 + (k - (n + 1))=k:=by omega
     refine ih (k - (n + 1)) (by omega) fuel (some (Ys t.mask (n + 1) (sd.getD (t.probeStart (hsh prog w ks))))) (by omega) (by omega) ⟨?_,fun j hj=>?_⟩ ?_ (fun q=>?_) (fun q=>?_)
     ·show Y4 t.place (Ys t.mask _ (Ys t.mask (n + 1) _)).j=false;rw [eI,ek]; exact hF.1
     ·show Y4 t.place (Ys t.mask _ (Ys t.mask (n + 1) _)).j=true;rw [eI]; exact hF.2 _ (by omega)
     ·show (Ys t.mask (n + 1) _).dummy=none;rw [Jg2]; exact hdm
     ·obtain ⟨n2,i2,c,c1,c2,c3,c4⟩:=q;have c2':t.slot (Ys t.mask n2 (Ys t.mask (n + 1) (sd.getD (t.probeStart (hsh prog w ks))))).j=.live i2:=c2;rw [eI] at c2';exact h1 ⟨_,i2,c,by omega,c2',c3,c4⟩
     ·show Q (.free (Ys t.mask _ (Ys t.mask (n + 1) (sd.getD (t.probeStart (hsh prog w ks))))).j false) s;rw [eI,ek];refine h2 fun n2 i2 c c1 c2 c3 c4=>?_
      rcases Nat.lt_trichotomy n2 n with g | g | g
      ·exact a4 n2 i2 g c2 (by rw [← Array.getElem?_toList,c3]; rfl)
      ·subst g;rw [a2] at c2;cases c2;rw [heL] at c3;have e5:=congrArg (fun z=>z.2) (Option.some.inj c3);have e6:b=c:=Value.ref.inj e5;subst e6;exact he (hkb.inj c4)
      ·refine q (n2 - (n + 1)) i2 c (by omega) ?_ c3 c4;show t.slot (Ys t.mask _ (Ys t.mask (n + 1) _)).j=_;rw [eI,show n + 1 + (n2 - (n + 1))=n2 by omega];exact c2
    cases hl:t.led
    ·rw [if_pos (by rfl)];refine wpAny_bind (Jr8 hk (fun v hv=>?_) ?_)
     ·obtain ⟨e,he,rfl⟩:=List.mem_map.mp hv;have he2:e∈es.toList:=by
       have:=Array.mem_toList_iff.mp he;exact Array.mem_toList_iff.mpr (Array.mem_filter.mp this).1
      obtain ⟨k2,_,b2,rfl,hb2⟩:=SA.els e he2;exact ⟨b2,k2,rfl,hb2⟩
     ·rw [if_neg (by decide)];rw [hei];dsimp only;refine wpAny_bind (wpAny_holding (wpAny_eqBool_tuple hu hkb hk ?_));refine wpAny_bind (wpAny_setState_of ho hd SA.tab.fits ?_);dsimp only;by_cases he:k'=ks
      ·subst he;rw [decide_eq_true rfl,if_pos (by decide)];exact wpAny_pure (h1 ⟨n,i,b,a1,a2,heL,hkb⟩)
      ·rw [decide_eq_false he,if_neg (by decide)];have hsm:t.sameMemory t.moves t.mask=some true:=by unfold SetTable.sameMemory; rw [if_pos (by simp)]
       rw [hsm];dsimp only;rw [if_pos rfl,a2];dsimp only;rw [hei];dsimp only;refine wpAny_bind (wpAny_isSame_ref_self ?_);rw [if_pos rfl];refine wpAny_bind (wpAny_pure ?_);dsimp only;rw [if_neg (by decide)];exact again he
    ·rw [if_neg (by decide)];rw [hei];dsimp only;refine wpAny_bind (wpAny_holding (wpAny_eqBool_tuple hu hkb hk ?_));refine wpAny_bind (wpAny_setState_of ho hd SA.tab.fits ?_);dsimp only;by_cases he:k'=ks
     ·subst he;rw [decide_eq_true rfl,if_pos (by decide)];exact wpAny_pure (h1 ⟨n,i,b,a1,a2,heL,hkb⟩)
     ·rw [decide_eq_false he,if_neg (by decide)];have hsm:t.sameMemory t.moves t.mask=some true:=by unfold SetTable.sameMemory; rw [if_pos (by simp)]
      rw [hsm];dsimp only;rw [if_pos rfl,a2];dsimp only;rw [hei];dsimp only;refine wpAny_bind (wpAny_isSame_ref_self ?_);rw [if_pos rfl];refine wpAny_bind (wpAny_pure ?_);dsimp only;rw [if_neg (by decide)];exact again he
   ·have e:=Option.some.inj (hmet.symm.trans a2);subst e;exact wpAny_pure (h2 fun n i a hn hs he hka=>a1 n i hn hs (by
     show (es[i]?.map (·.1)).getD 0=_;rw [← Array.getElem?_toList,he]; rfl))
  ·rename_i hmet;exfalso;rcases spec with ⟨n,i,a1,a2,a3,a4,a5⟩ | ⟨a1,a2⟩
   ·exact hmet _ a5
   ·exact hmet _ a2
open Classical in
noncomputable def dd (D:List (List JP)) (ks:List JP):List (List JP):=if ks∈D then D else D ++ [ks]
theorem TK.stay {h h':Heap} {S a:Addr} {o:Obj} {ks:List JP} {es:Array (Int×Value)} {ep:Nat} {t:SetTable} (hk:TK prog w h ks a) (ho:h.get? S=some o) (hd:o.data=.set es ep t) (hs:Heap.SameBut S h h'):TK prog w h' ks a:=by
 obtain ⟨o',items,n,ho',hc,hd',hi⟩:=hk;have hne:a≠S:=by
  rintro rfl;obtain rfl:o'=o:=Option.some.inj (ho'.symm.trans ho);rw [hd] at hd';exact nomatch hd'
 exact ⟨o',items,n,(hs.2 a hne).trans ho',hc,hd',hi⟩
theorem Jsw {M:Model} {ks:List JP} {a:Addr} {Q:Bool→Shared→Prop} (hk:TK prog w s.heap ks a) (h:∀ b,Q b s):wpAny (model prog w) A (hashByValue 8 (.ref a)) Q E s:=by
 have hT:=hk.typeIs;obtain ⟨o,items,n,ho,hc,hd,hi⟩:=hk;unfold hashByValue;refine wpAny_bind (wpAny_specialOf hT F.slot_tuple_hash.lookup ?_);dsimp only;refine wpAny_bind (wpAny_seqItems ho hd ?_);refine wpAny_bind ?_;show wpAny _ _ (forIn items _ _) _ _ s;rw [← Array.forIn_toList];refine wpAny_forIn_list _ (fun rest r s'=>r=(none,())∧s'=s∧∀ v∈rest,carriedByValue v=true) _ ?_ ?_ _ _ ⟨rfl,rfl,hi.byValue⟩
 ·rintro v rest r s' ⟨hr,rfl,hall⟩;have hb:∃ b,hashByValue 7 v=pure b:=by
   have hv:=hall v List.mem_cons_self;cases v <;> first | exact ⟨_,rfl⟩ | (simp [carriedByValue] at hv; done)
  obtain ⟨b,eb⟩:=hb;rw [eb];refine wpAny_bind (wpAny_pure ?_);cases b with
  | true =>
   rw [if_neg (by decide)];exact wpAny_pure ⟨rfl,rfl,fun u hu'=>hall u (List.mem_cons_of_mem _ hu')⟩
  | false =>
   rw [if_pos (by decide)];exact wpAny_pure (wpAny_pure (h _))
 ·rintro r s' ⟨hr,rfl,_⟩;subst hr;exact wpAny_pure (h _)
theorem Jqa {S x:Addr} {ks:List JP} {o:Obj} {es es1:Array (Int×Value)} {ep:Nat} {t t1:SetTable} {D:List (List JP)} {Q:Bool→Shared→Prop} (ho:s.heap.get? S=some o) (hex:o.ExactSet) (hd:o.data=.set es ep t)
  (SA:Je4 prog w s.heap S es t D) (hk:TK prog w s.heap ks x) (hn:D.length < 64) (T1:Tab t1 es1) (hsz:es1.size=es.size + 1) (hmk:t1.mask=t.mask) (hmem:∀ e,e∈es1.toList↔e∈es.toList∨e=(hsh prog w ks,.ref x))
  (h:∀ b h' es' ep' t' o',Heap.SameBut S s.heap h'→h'.get? S=some o'→o'.ExactSet→o'.data=.set es' ep' t'→Je4 prog w h' S es' t' (D ++ [ks])→Q b { s with heap:=h' }) :
  wpAny (model prog w) A (do
   storeSet S es1 t1
   if (!false && t1.tooFull)=true then do
    setRelay S (grown (es.size + 1))
    pure true
   else pure true) Q E s:=by
 have hes:=SA.siz;have bound:∀ n,n≤1000→n≤sizeLine:=fun n hn=>by rw [sizeLine_eq]; omega
 have mk:∀ {h':Heap} {es':Array (Int×Value)} {t':SetTable},Heap.SameBut S s.heap h'→Tab t' es'→es'.size * 5 < t'.mask * 3→es'.size=es1.size→(∀ e,e∈es'.toList↔e∈es1.toList)→Je4 prog w h' S es' t' (D ++ [ks]):=fun {h' es' t'} hs T f z m=>by
  refine ⟨T,f,fun e he=>?_,fun k2 hk2=>?_,by rw [z,hsz,hes,List.length_append]; rfl⟩
  ·rcases (hmem e).mp ((m e).mp he) with q | q
   ·obtain ⟨k2,a1,a,a2,a3⟩:=SA.els e q;exact ⟨k2,List.mem_append_left _ a1,a,a2,a3.stay ho hd hs⟩
   ·exact ⟨ks,List.mem_append_right _ (List.mem_singleton.mpr rfl),x,q,hk.stay ho hd hs⟩
  ·rcases List.mem_append.mp hk2 with q | q
   ·obtain ⟨a,a1,a2⟩:=SA.all k2 q;exact ⟨a,(m _).mpr ((hmem _).mpr (.inl a1)),a2.stay ho hd hs⟩
   ·rw [List.mem_singleton.mp q];exact ⟨x,(m _).mpr ((hmem _).mpr (.inr rfl)),hk.stay ho hd hs⟩
 refine wpAny_bind (wpAny_storeSet_of ho hd ?_ (bound _ (by omega)));have hg:∀ {hh:Heap} {o:Obj} {es es':Array (Int×Value)} {ep:Nat} {t t':SetTable},hh.get? S=some o→o.data=.set es ep t→(hh.update S (Obj.putSet es' t')).get? S=some { o with data:=.set es' (ep + 1) t' }:=fun {hh o es es' ep t t'} ho hd=>by
  have z:=Heap.get?_update_self (Obj.putSet es' t') ho (by rw [putSet_of es' t' hd]; rfl);rw [putSet_of es' t' hd] at z;exact z
 have ho1:=hg (es':=es1) (t':=t1) ho hd;have hs1:=Heap.SameBut.update s.heap S (Obj.putSet es1 t1);have hfill:t1.fill=es1.size:=by unfold SetTable.fill; rw [T1.dum,T1.siz]; rfl
 by_cases hf:t1.tooFull=true
 ·rw [if_pos (by rw [hf]; rfl)];have hfull:=SA.full;unfold SetTable.tooFull at hf;rw [hfill,decide_eq_true_eq,hmk] at hf;obtain ⟨m',hm',hw,hcap⟩:∃ m',Msk m'∧sizeAbove (grown (es.size + 1))=m' + 1∧es1.size * 5 < m' * 3:=by
   rcases SA.tab.msk with e | e | e
   ·refine ⟨31,.inr (.inl rfl),?_,by omega⟩;have e4:es.size=4:=by omega
    rw [e4]; decide
   ·refine ⟨127,.inr (.inr rfl),?_,by omega⟩;have e4:es.size=18:=by omega
    rw [e4]; decide
   ·omega
  have hm127:m'≤127:=by rcases hm' with e | e | e <;> omega
  obtain ⟨t2,order,e2,T2,z2,m2,_⟩:=JtW hm' t1.finger (t1.movedTo m') t1.led t1.plain es1 (by omega);have erel:t1.relaid (es1.map (·.1)) (grown (es.size + 1))=some (t2,order):=by
   unfold SetTable.relaid;rw [hw];exact e2
  unfold setRelay;refine wpAny_bind (wpAny_bind (wpAny_setState_of (s:={ s with heap:=s.heap.update S (Obj.putSet es1 t1) }) ho1 rfl T1.fits ?_));dsimp only;rw [if_neg (by rw [hw]; exact Nat.not_lt.mpr (bound _ (by omega)))];refine wpAny_bind ?_;rw [erel];show wpAny _ _ (if ((order.filterMap (es1[·]?)).size != es1.size)=true then _ else _) _ _ _;rw [if_neg (by rw [z2]; simp)];refine wpAny_pure ?_;dsimp only;refine wpAny_storeSet_of (s:={ s with heap:=s.heap.update S (Obj.putSet es1 t1) }) ho1 rfl ?_ (bound _ (by omega));have hs2:=hs1.trans (Heap.SameBut.update (s.heap.update S (Obj.putSet es1 t1)) S (Obj.putSet (order.filterMap (es1[·]?)) t2));exact wpAny_pure (h _ _ _ _ _ _ hs2 (hg ho1 rfl) hex rfl (mk hs2 T2 (by rw [z2]; have:=T2.cap; omega) z2 m2))
 ·rw [if_neg (by simpa using hf)];refine wpAny_pure (h _ _ es1 _ t1 _ hs1 ho1 hex rfl (mk hs1 T1 ?_ rfl fun _=>Iff.rfl));unfold SetTable.tooFull at hf;rw [hfill,decide_eq_true_eq] at hf;omega
theorem JsD {S x:Addr} {ks:List JP} {o:Obj} {es:Array (Int×Value)} {ep:Nat} {t:SetTable} {D:List (List JP)} {Q:Bool→Shared→Prop} (hu:A.units < cLine) (ho:s.heap.get? S=some o) (hex:o.ExactSet) (hd:o.data=.set es ep t)
  (SA:Je4 prog w s.heap S es t D) (hk:TK prog w s.heap ks x) (hn:D.length < 64)
  (h:∀ b h' tk es' ep' t' o',Heap.SameBut S s.heap h'→h'.get? S=some o'→o'.ExactSet→o'.data=.set es' ep' t'→Je4 prog w h' S es' t' (dd D ks)→Q b { s with heap:=h',toks:=tk }) :
  wpAny (model prog w) A (setAdd S (.ref x)) Q E s:=by
 unfold setAdd;refine wpAny_holding (wpAny_bind (wpAny_pyHash_tuple hu hk ?_));unfold setAddHashed setAddHashedIn;refine wpAny_holding (wpAny_bind (wpAny_setState_of ho hd SA.tab.fits ?_));dsimp only;have hbs:byScan (.ref x) es=false:=rfl;rw [hbs,if_neg (by decide)];obtain ⟨k,hk1,hF⟩:=SA.tab.first (hsh prog w ks);have hm:t.mask≤127:=by rcases SA.tab.msk with e | e | e <;> omega
 have SA2:Je4 prog w ({ s with toks:=s.toks + (ks.length + 1) }:Shared).heap S es t D:=SA;refine wpAny_bind (Jn6 (s:={ s with toks:=s.toks + (ks.length + 1) }) hu ho hd SA2 hk k 100000 none (by unfold turns at hk1; omega) hk1 hF rfl ?_ ?_)
 ·rintro ⟨n,i,a,g1,g2,g3,g4⟩;dsimp only;have hin:ks∈D:=by
   obtain ⟨k2,hk2,b,e,hb⟩:=SA.els _ (List.mem_of_getElem? g3);have e6:a=b:=Value.ref.inj (congrArg (fun z=>z.2) e);subst e6;rw [IsTupleKey.inj g4 hb];exact hk2
  have e:dd D ks=D:=by unfold dd; exact if_pos hin
  exact wpAny_pure (h _ s.heap _ es ep t o (Heap.SameBut.refl S s.heap) ho hex hd (by rw [e]; exact SA))
 ·intro hno;dsimp only;have hnin:ks∉D:=fun hin=>by
   obtain ⟨a,ha,hka⟩:=SA.all ks hin;obtain ⟨i,hi⟩:=List.mem_iff_getElem?.mp ha;obtain ⟨n,hn1,hn2⟩:=SA.tab.met hF hi rfl;exact hno n i a hn1 hn2 hi hka
  have edd:dd D ks=D ++ [ks]:=by unfold dd; exact if_neg hnin
  refine wpAny_bind (wpAny_setState_of ho hd SA.tab.fits ?_);dsimp only;have hc:es.size + 1≤t.mask:=by
   have:=SA.full;rcases SA.tab.msk with e | e | e <;> omega
  have hmem:∀ (p:Nat) e,e∈(insertAt es p (hsh prog w ks,Value.ref x)).toList↔e∈es.toList∨e=(hsh prog w ks,.ref x):=fun p e=>by
   rw [(SetTable.insertAt_perm es p _).mem_iff,Array.toList_push,List.mem_append,List.mem_singleton]
  have hsz:∀ p:Nat,(insertAt es p (hsh prog w ks,Value.ref x)).size=es.size + 1:=fun p=>by
   rw [← Array.length_toList,(SetTable.insertAt_perm es p _).length_eq,Array.length_toList,Array.size_push]
  have fin:=fun (b:Bool)=>Jqa (prog:=prog) (w:=w) (A:=A) (E:=E) (s:={ s with toks:=s.toks + (ks.length + 1) }) (Q:=Q) ho hex hd SA2 hk hn (SA.tab.put (x:=.ref x) b hF hc) (hsz _) rfl (hmem _) fun b h' es' ep' t' o' a1 a2 a3 a4 a5=>h b h' _ es' ep' t' o' a1 a2 a3 a4 (by rw [edd]; exact a5)
  have ep2:=Js8 SA.tab (Ys t.mask k (YI t.mask (hsh prog w ks))).j;have ep3:t.put (Ys t.mask k ((none:Option Probe).getD (t.probeStart (hsh prog w ks)))).j=_:=ep2;rw [ep3];dsimp only;by_cases hp:t.plain=true
  ·rw [if_pos hp];refine wpAny_bind (Jsw (M:=model prog w) hk fun b=>?_);cases b with
   | true=>exact fin t.plain
   | false=>exact fin false
  ·rw [if_neg hp];refine wpAny_bind (wpAny_pure ?_);exact fin t.plain
end
end HS
set_option maxHeartbeats 3200000
namespace HS
open PySem PySem.SetTable L2
section
variable {prog:Program} {w:World} {A:Around} {E:Value→Shared→Prop} {s:Shared} {R:Result→Shared→Prop}
theorem Jqu {S I l:Addr} {items:Array Value} (hh:A.in1.handled=none) (hlI:l≠I) (hSI:S≠I) (hSl:S≠l) (J:Nat→Heap→Prop)
  (hJ:∀ i j h h',J i h→h.IsListIter I l j→(∀ b o,b≠I→h.get? b=some o→h'.get? b=some o)→J i h')
  (hadd:∀ i v (s':Shared) (E':Value→Shared→Prop) (Q:Bool→Shared→Prop),items[i]?=some v→J i s'.heap→(∀ b h' tk,Heap.SameBut S s'.heap h'→J (i + 1) h'→Q b { s' with heap:=h',toks:=tk })→wpAny (model prog w) A.in1 (setAdd S v) Q E' s') :
  ∀ (k i:Nat) (h:Heap) (tk:Nat),items.size - i=k→i≤items.size→h.IsListIter I l i→h.IsList l items→J i h →
   (∀ h' tk',(∀ b o,b≠S→b≠I→h.get? b=some o→h'.get? b=some o)→J items.size h'→R (.ok (.ret .none)) { s with heap:=h',toks:=tk' }) →
   codeAny (model prog w) A (.builtin "set.update.loop" ⟨[.ref S,.ref I],[]⟩) R { s with heap:=h,toks:=tk }:=by
 have W:=Walks.list (prog:=prog) (w:=w) hh I l hlI items;intro k
 induction k with
 | zero =>
  intro i h tk e0 e1 it li j hR;obtain rfl:i=items.size:=by omega
  refine codeAny_builtin PyProof.Rows.F.entry_set_update_loop (by
   rw [Around.under_plainId PyProof.Rows.F.plain_set_update_loop _];show wpAny _ A.in1 (pyNext (.ref I) >>= _) _ _ _;refine wpAny_bind (W.done _ _ _ ⟨it,li⟩ fun h' tk' kk=>?_);exact wpAny_pure (hR h' tk' (fun b o _ hb e=>kk b o (by simpa using hb) e) (hJ _ _ _ _ j it fun b o hb e=>kk b o (by simpa using hb) e)))
 | succ k ih =>
  intro i h tk e0 e1 it li j hR;have hlt:i < items.size:=by omega
  refine codeAny_builtin PyProof.Rows.F.entry_set_update_loop (by
   rw [Around.under_plainId PyProof.Rows.F.plain_set_update_loop _];show wpAny _ A.in1 (pyNext (.ref I) >>= _) _ _ _;refine wpAny_bind (W.item i _ _ _ hlt ⟨it,li⟩ fun v h1 tk1 hv st1 kk=>?_);have j1:J i h1:=hJ _ _ _ _ j it fun b o hb e=>kk b o (by simpa using hb) e
   show wpAny _ A.in1 (holding [v] (setAdd S v) >>= _) _ _ _;refine wpAny_bind (wpAny_holding (hadd i v { s with heap:=h1,toks:=tk1 } _ _ hv j1 fun b h2 tk2 sb j2=>?_));have it2:h2.IsListIter I l (i + 1):=st1.1.at fun o e=>(sb.2 I (Ne.symm hSI)).trans e
   have li2:h2.IsList l items:=st1.2.at fun o e=>(sb.2 l (Ne.symm hSl)).trans e
   refine wpAny_pure ⟨plainId_quiet PyProof.Rows.F.plain_set_update_loop _,ih (i + 1) h2 tk2 (by omega) hlt it2 li2 j2 fun h3 tk3 keep j3=>hR h3 tk3 (fun b o hb hbI e=>keep b o hb hbI ((sb.2 b hb).trans (kk b o (by simpa using hbI) e))) j3⟩)
theorem Jih {l:Addr} {items:Array Value} {Q:Value→Shared→Prop} (hh:A.handled=none) (hl:s.heap.IsList l items) (J:Addr→Nat→Heap→Prop)
  (h0:∀ (led:Bool) (h':Heap),h'.get? s.heap.objs.size=some { cls:=.type "set",dict:=none,data:=.set #[] 0 (.fresh 0 0 led) }→(∀ b o,s.heap.get? b=some o→h'.get? b=some o)→J s.heap.objs.size 0 h')
  (hJ:∀ S I i j h h',J S i h→h.IsListIter I l j→(∀ b o,b≠I→h.get? b=some o→h'.get? b=some o)→J S i h')
  (hadd:∀ S i v (A':Around) (s':Shared) (E':Value→Shared→Prop) (Q':Bool→Shared→Prop),A'.units≤A.units + 4→items[i]?=some v→J S i s'.heap→(∀ b h' tk,Heap.SameBut S s'.heap h'→J S (i + 1) h'→Q' b { s' with heap:=h',toks:=tk })→wpAny (model prog w) A' (setAdd S v) Q' E' s')
  (h:∀ (h':Heap) (tk:Nat),J s.heap.objs.size items.size h'→(∀ b o,b < s.heap.objs.size→s.heap.get? b=some o→h'.get? b=some o)→Q (.ref s.heap.objs.size) { s with heap:=h',toks:=tk }) :
  wpAny (model prog w) A (call (.type "set") [.ref l]) Q E s:=by
 obtain ⟨c,tl,hmro⟩:=F.called_set.mro;have made:=F.called_set.made;have sub:=F.called_set.sub;refine wpAny_call (codeAny_of_tree (wpAny_pure ⟨Code.quiet_builtin _ (by decide +kernel),codeAny_builtin F.entry_type_call ?_⟩));rw [Around.under_plain (weight_type_call_type "set" [.ref l] []) rfl];have n1:=F.called_set.notType;have n2:=F.called_set.canCreate;have n3:=F.typeCall_set_1 (.ref l)
 repeat (any_goals (first | assumption | wp_step))
 let fresh (led:Bool):Obj:={ cls:=.type "set",dict:=none,data:=.set #[] 0 (.fresh 0 0 led) }
 refine codeAny_mono (code_set_new_1 (.ref l) (E:=E) (Q₁:=fun obj s1=>∃ led,obj=.ref s.heap.objs.size∧s1={ s with heap:=s.heap.push (fresh led) }) fun led=>⟨led,rfl,rfl⟩) fun r s1 hr=>?_
 rcases r with e | f
 ·exact hr
 cases f with
 | ret obj =>
  obtain ⟨led,rfl,rfl⟩:=hr;have gS:(s.heap.push (fresh led)).get? s.heap.objs.size=some (fresh led):=Heap.get?_push_size _ rfl;have tS:Shared.TypeIs { s with heap:=s.heap.push (fresh led) } (.ref s.heap.objs.size) "set":=⟨_,gS,rfl⟩
  have i1:=F.called_set.init.lookup;have i2:=F.called_set.init.bind (.ref s.heap.objs.size)
  repeat (any_goals (first | assumption | wp_step))
  refine codeAny_mono (codeAny_call_builtin (R:=wants (fun r s2=>r=.none∧∃ h' tk,s2={ s with heap:=h',toks:=tk }∧J s.heap.objs.size items.size h'∧∀ b o,b < s.heap.objs.size→s.heap.get? b=some o→h'.get? b=some o) E)
   F.called_set.init.plain F.entry_set_init (check_set_init_1 tS ?_)) fun r2 s2 hr2=>?_
  ·obtain ⟨ol,gl,cl,nl,dl⟩:=hl;obtain ⟨k1,k2,k3,k4⟩:=ol;simp only at cl dl;subst cl dl;have gl1:(s.heap.push (fresh led)).get? l=some { cls:=.type "list",dict:=k2,data:=.seq items nl,slots:=k4 }:=Heap.get?_push_of_some _ gl;have z1:=F.sub_list_set;have z2:=F.sub_list_frozenset;have z3:(Value.type "list" == Value.type "dict")=false:=by decide
   have ll:(s.heap.push (fresh led)).IsList l items:=⟨_,gl1,rfl,nl,rfl⟩
   have lS:l < s.heap.objs.size:=Heap.lt_size gl;unfold Builtin.«set.__init__» noKeywords Builtin.Frozenset.updateFrom;generalize pe:pyIter=PI
   wp_walk
   subst pe;refine wpAny_pyIter_list ll (wpAny_bind (wpAny_runValue ?_));have szp:(s.heap.push (fresh led)).objs.size=s.heap.objs.size + 1:=Heap.size_push ..;refine Jqu (s:={ s with heap:=s.heap.push (fresh led) }) (I:=(s.heap.push (fresh led)).objs.size) (l:=l) (items:=items) (by simp [hh]) (Nat.ne_of_lt (by rw [szp]; exact Nat.lt_succ_of_lt lS)) (Nat.ne_of_lt (by rw [szp]; exact Nat.lt_succ_self _)) (Nat.ne_of_gt lS) (J s.heap.objs.size) (fun i j h h'=>hJ _ _ i j h h')
    (fun i v s' E' Q' hv j q=>hadd _ i v _ s' E' Q' (by show A.units + 1 + 1 + 1≤A.units + 4; omega) hv j q) (items.size - 0) 0 _ _ rfl (Nat.zero_le _) ⟨_,Heap.get?_push_size _ rfl,rfl,rfl⟩ (ll.push _) ?_ ?_
   ·exact h0 led _ (Heap.get?_push_of_some _ gS) fun b o e=>Heap.get?_push_of_some _ (Heap.get?_push_of_some _ e)
   ·intro h' tk' keep j;refine wpAny_pure (wpAny_pure ⟨rfl,h',tk',rfl,j,fun b o hb e=>keep b o (Nat.ne_of_lt hb) (Nat.ne_of_lt (by rw [szp]; exact Nat.lt_succ_of_lt hb)) (Heap.get?_push_of_some _ (Heap.get?_push_of_some _ e))⟩)
  ·rcases r2 with e | f2
   ·exact hr2
   cases f2 with
   | ret r =>
    obtain ⟨rfl,h',tk,rfl,j,keep⟩:=hr2
    repeat (any_goals (first | assumption | wp_step))
    exact h _ _ j keep
   | _=>exact hr2.elim
 | _=>exact hr.elim
end
end HS
namespace L2
open PySem PySem.Spec PyProof.Rows HS
open Classical in
noncomputable def dg {α:Type} (D:List α) (x:α):List α:=if x∈D then D else D ++ [x]
theorem JoA {α:Type} {D:List α} {x:α} (h:x∈D):dg D x=D:=by unfold dg; exact if_pos h
theorem Jjx {α:Type} {D:List α} {x:α} (h:¬ x∈D):dg D x=D ++ [x]:=by unfold dg; exact if_neg h
noncomputable def Jhi {α:Type} (l:List α):List α:=l.foldl dg []
theorem JhK {α:Type}:∀ (l D:List α),(l.foldl dg D).length≤D.length + l.length
 | [],D=>Nat.le_refl _
 | x :: l,D=>by
  rw [List.foldl_cons];have z:=JhK l (dg D x);by_cases h:x∈D
  ·rw [JoA h] at z ⊢; simp only [List.length_cons]; omega
  ·rw [Jjx h] at z ⊢; rw [List.length_append] at z; simp only [List.length_cons,List.length_nil] at z ⊢; omega
theorem JnH {α:Type} (l:List α):(Jhi l).length≤l.length:=by have:=JhK l []; simpa [Jhi] using this
theorem Jjo {α:Type}:∀ (l D:List α),(D ++ l).Nodup→l.foldl dg D=D ++ l
 | [],D,_=>by simp
 | x :: l,D,h=>by
  have hx:¬ x∈D:=fun q=>by
   rw [List.nodup_append] at h;exact h.2.2 x q x (List.mem_cons_self ..) rfl
  rw [List.foldl_cons,Jjx hx,Jjo l (D ++ [x]) (by simpa using h)];simp
theorem Jjw {α:Type} {l:List α} (h:l.Nodup):(Jhi l).length=l.length:=by unfold Jhi; rw [Jjo l [] (by simpa using h)]; simp
theorem Jg5 {α:Type} {l:List α} {i:Nat} {x:α} (h:l[i]?=some x):(l.take (i + 1)).foldl dg []=dg ((l.take i).foldl dg []) x:=by
 rw [List.take_succ,h];simp
def szO (a:Addr) (n:Nat):HO:=.ext fun h=>∃ o es ep t,h.get? a=some o∧o.ExactSet∧o.data=.set es ep t∧t.fits es.size=true∧es.size=n∧n≤1000
theorem JoO {P:Program} {w:World} {H:Hp} {h:Heap} {a:Addr} {n:Nat} {o:Obj} {es:Array (Int×Value)} {ep:Nat} {t:SetTable} (h1:h.get? a=some o) (h2:o.ExactSet) (h3:o.data=.set es ep t) (h4:t.fits es.size=true) (h5:es.size=n) (h6:n≤1000) :
  YA P w H h a (szO a n):=⟨⟨o,es,ep,t,h1,h2,h3,h4,h5,h6⟩,⟨o,h1⟩,fun g1 g2 ⟨o,es,ep,t,e1,r⟩ k=>⟨o,es,ep,t,k o e1,r⟩⟩
section
variable {X:Cx}
theorem Jnf:Yv X (.builtin "len") (fun xs H Q=>∃ a n,xs=[.ref a]∧H a=some (szO a n)∧Q (.int n) H):=by
 intro pins s σ H xs us Q I r h;obtain ⟨a,n,rfl,hn,q⟩:=h;obtain ⟨u,rfl,ru⟩:=JI.one r;cases ru;obtain ⟨⟨o,es,ep,t,e1,e2,e3,e4,rfl,e6⟩,_⟩:=(show YA X.prog X.w H s.heap a (szO a n) from I.hok a _ hn)
 exact call_len_set e1 e2 e3 e4 (by omega) ⟨.int es.size,H,(I.tok _).tok _,⟨_,rfl⟩,q⟩
theorem JdS:∀ {vs:List V} {us:List Value} {i:Nat} {x:V},JI vs us→vs[i]?=some x→∃ u,us[i]?=some u∧JR x u
 | _,_,i,x,.nil,h=>by simp at h
 | _,_,0,x,.cons r t,h=>by
  cases h;exact ⟨_,rfl,r⟩
 | _,_,i + 1,x,.cons r t,h=>JdS (i:=i) t (by simpa using h)
def JfR (K:PySem.W.Frag) (H:Hp) (vs:List V) (kss:List (List JP)):Prop:=vs.length=kss.length∧∀ (i:Nat) v ks,vs[i]?=some v→kss[i]?=some ks→∃ a,v=.ref a∧JX K H a (ks.map kV)
theorem Jmu {P:Program} {w:World}:∀ {ks:List JP} {us:List Value},JI (ks.map kV) us→ItemsAre (YC P w) ks us
 | [],_,r=>by cases r; exact .nil
 | k :: ks,_,r=>by
  cases r with
  | cons r rr=>exact .cons (JhI r) (Jmu rr)
theorem JnV {pins:List (Addr×Obj)} {σ:St} {H:Hp} {s:Shared} {a:Addr} {ks:List JP} (I:Jn X pins σ H s) (h:JX X.K H a (ks.map kV)):TK X.prog X.w s.heap ks a:=by
 obtain ⟨its,r,⟨o,e,c,n,d⟩,_⟩:=I.tuple h;exact ⟨o,its.toArray,n,e,c,d,by simpa using Jmu r⟩
theorem JjQ {prog:Program} {w:World} {h h':Heap} {ks:List JP} {a:Addr} (hk:TK prog w h ks a) (k:∀ o,h.get? a=some o→(∃ its n,o.data=.seq its n)→h'.get? a=some o):TK prog w h' ks a:=by
 obtain ⟨o,its,n,e,c,d,i⟩:=hk;exact ⟨o,its,n,k o e ⟨its,n,d⟩,c,d,i⟩
def JrC (K:PySem.W.Frag):List V→Hp→VK→Prop:=fun xs H Q=>∃ l vs kss,xs=[.ref l]∧Jp K H l vs∧JfR K H vs kss∧kss.length≤64∧∀ p,H p=none→Q (.ref p) (upd H p (szO p (Jhi kss).length))
theorem JpO (hc:X.calm=true) (hu:X.A.units + 64 < cLine):Yv X (.type "set") (JrC X.K):=by
 intro pins s σ H xs us Q I r h;obtain ⟨l,vs,kss,rfl,hl,⟨tl,tt⟩,hz,q⟩:=h;obtain ⟨u,rfl,ru⟩:=JI.one r;cases ru;obtain ⟨its,rv,pl,_⟩:=I.list hl;have rlen:=rv.length;have at_:∀ (i:Nat) v,its.toArray[i]?=some v→∃ ks a,kss[i]?=some ks∧v=.ref a∧TK X.prog X.w s.heap ks a:=fun i v hv=>by
  have hi:i < its.length:=by
   have:=(Array.getElem?_eq_some_iff.mp hv).1;simpa using this
  obtain ⟨x,hx⟩:∃ x,vs[i]?=some x:=⟨vs[i],List.getElem?_eq_getElem (by omega)⟩
  obtain ⟨ks,hks⟩:∃ ks,kss[i]?=some ks:=⟨kss[i],List.getElem?_eq_getElem (by omega)⟩
  obtain ⟨a,rfl,ha⟩:=tt i x ks hx hks;obtain ⟨u,hu1,hu2⟩:=JdS rv hx;have e:v=u:=by
   rw [List.getElem?_toArray] at hv;exact Option.some.inj (hv.symm.trans hu1)
  subst e;cases (show v=.ref a from hu2);exact ⟨ks,a,hks,rfl,JnV I ha⟩
 have hsz:its.toArray.size=kss.length:=by rw [List.size_toArray]; omega
 refine Jih (J:=fun S i h'=>(∀ b o,b < s.heap.objs.size→s.heap.get? b=some o→(∃ its n,o.data=.seq its n)→h'.get? b=some o)∧∃ o es ep t,h'.get? S=some o∧o.ExactSet∧o.data=.set es ep t∧Je4 X.prog X.w h' S es t ((kss.take i).foldl dg []))
  (I.ok.hd hc) pl.isList ?_ ?_ ?_ ?_
 ·intro led h' g keep;refine ⟨fun b o _ e _=>keep b o e,_,#[],0,_,g,⟨rfl,rfl,rfl⟩,rfl,⟨.inl rfl,rfl,rfl,fun a b _ hb=>absurd hb (Nat.not_lt_zero _),fun j hj=>by simp [SetTable.fresh] at hj,Nat.zero_le _,fun z hz=>by simp [SetTable.fresh] at hz⟩,?_,fun e he=>by simp at he,fun ks hks=>?_,rfl⟩
  ·show 0 * 5 < 7 * 3
   decide
  ·rw [List.take_zero] at hks; exact nomatch hks
 ·rintro S Ia i j h1 h2 ⟨k1,o,es,ep,t,e1,e2,e3,SA⟩ ⟨oi,i1,i2,i3⟩ keep;have seq:∀ b o',h1.get? b=some o'→(∃ its n,o'.data=.seq its n)→h2.get? b=some o':=fun b o' e ⟨its,n,d⟩=>keep b o' (by
   rintro rfl;rw [i1] at e; cases e;rw [i3] at d; cases d) e
  refine ⟨fun b o' hb e d=>seq b o' (k1 b o' hb e d) d,o,es,ep,t,keep S o (by
   rintro rfl;rw [i1] at e1; cases e1;rw [i3] at e3; cases e3) e1,e2,e3,SA.tab,SA.full,fun e he=>?_,fun ks hks=>?_,SA.siz⟩
  ·obtain ⟨ks,a1,a,a2,a3⟩:=SA.els e he;exact ⟨ks,a1,a,a2,JjQ a3 fun o' e' d=>seq _ _ e' d⟩
  ·obtain ⟨a,a1,a2⟩:=SA.all ks hks;exact ⟨a,a1,JjQ a2 fun o' e' d=>seq _ _ e' d⟩
 ·rintro S i v A' s' E' Q' hA hv ⟨k1,o,es,ep,t,e1,e2,e3,SA⟩ hQ;obtain ⟨ks,a,hks,rfl,hk⟩:=at_ i v hv;have hk':TK X.prog X.w s'.heap ks a:=JjQ hk fun o' e' d=>k1 a o' (Heap.lt_size e') e' d
  have hlt:((kss.take i).foldl dg []).length < 64:=by
   have z:=JhK (kss.take i) [];have z2:=(List.getElem?_eq_some_iff.mp hks).1;rw [List.length_take] at z;simp only [List.length_nil] at z;omega
  refine JsD (by omega) e1 e2 e3 SA hk' hlt fun b h' tk es' ep' t' o' sb g1 g2 g3 g4=>hQ b h' tk sb ⟨fun b' o2 hb e d=>?_,o',es',ep',t',g1,g2,g3,?_⟩
  ·have z:=k1 b' o2 hb e d;have hne:b'≠S:=by
    rintro rfl;rw [e1] at z; cases z;obtain ⟨its,n,d⟩:=d;rw [e3] at d; cases d
   exact (sb.2 b' hne).trans z
  ·rw [Jg5 hks];have e:dg ((kss.take i).foldl dg []) ks=dd ((kss.take i).foldl dg []) ks:=by unfold dg dd; split <;> rfl
   rw [e];exact g4
 ·rintro h' tk ⟨_,o,es,ep,t,e1,e2,e3,SA⟩ keep;rw [hsz,List.take_length] at SA;have hf:H s.heap.objs.size=none:=I.hok.fresh (Nat.le_refl _);refine ⟨.ref s.heap.objs.size,_,I.laid (fun b u e=>keep b u (Heap.lt_size e) e) (Nat.le_refl _) (JoO e1 e2 e3 SA.tab.fits SA.siz ?_),rfl,q _ hf⟩;have:=JnH kss;show (Jhi kss).length≤1000;omega
def JrD (K:PySem.W.Frag):List V→Hp→VK→Prop:=fun xs H Q=>∃ l ss,xs=[.ref l]∧Jp K H l (ss.map V.str)∧ss.length≤64∧∀ p,H p=none→Q (.ref p) (upd H p (szO p (Jhi ss).length))
theorem JpP (hc:X.calm=true):Yv X (.type "set") (JrD X.K):=by
 intro pins s σ H xs us Q I r h;obtain ⟨l,ss,rfl,hl,hz,q⟩:=h;obtain ⟨u,rfl,ru⟩:=JI.one r;cases ru;obtain ⟨its,rv,pl,_⟩:=I.list hl;have rlen:=rv.length;rw [List.length_map] at rlen;have at_:∀ (i:Nat) v,its.toArray[i]?=some v→∃ x t,ss[i]?=some x∧v=.str x t:=fun i v hv=>by
  have hi:i < its.length:=by
   have:=(Array.getElem?_eq_some_iff.mp hv).1;simpa using this
  obtain ⟨x,hx⟩:∃ x,ss[i]?=some x:=⟨ss[i],List.getElem?_eq_getElem (by omega)⟩
  obtain ⟨u,hu1,hu2⟩:=JdS (i:=i) (x:=.str x) rv (by rw [List.getElem?_map,hx]; rfl);have e:v=u:=by
   rw [List.getElem?_toArray] at hv;exact Option.some.inj (hv.symm.trans hu1)
  subst e;obtain ⟨t,e⟩:=hu2;exact ⟨x,t,hx,e⟩
 have hsz:its.toArray.size=ss.length:=by rw [List.size_toArray]; omega
 refine Jih (J:=fun S i h'=>∃ f,h'.SetOf (YC X.prog X.w) S f ((ss.take i).foldl dg []).length∧∀ x:Str,f (.inr x)=true↔x∈(ss.take i).foldl dg []) (I.ok.hd hc) pl.isList ?_ ?_ ?_ ?_
 ·intro led h' g keep;refine ⟨fun _=>false,⟨_,#[],0,_,g,⟨rfl,rfl,rfl⟩,rfl,fun e he=>by simp at he,fun k=>by simp,by decide,rfl,rfl⟩,fun x=>?_⟩;rw [List.take_zero];simp
 ·rintro S Ia i j h1 h2 ⟨f,⟨o,es,ep,t,e1,e2,e3,r⟩,hf⟩ ⟨oi,i1,i2,i3⟩ keep;refine ⟨f,⟨o,es,ep,t,keep S o ?_ e1,e2,e3,r⟩,hf⟩;rintro rfl;rw [i1] at e1; cases e1;rw [i3] at e3; cases e3
 ·rintro S i v A' s' E' Q' hA hv ⟨f,hS,hf⟩ hQ;obtain ⟨x,t,hx,rfl⟩:=at_ i v hv;have hlt:((ss.take i).foldl dg []).length + 1 < scanBound:=by
   have z:=JhK (ss.take i) [];have z2:=(List.getElem?_eq_some_iff.mp hx).1;rw [List.length_take] at z;simp only [List.length_nil] at z;show _ + 1 < 4096;omega
  unfold setAdd;refine wpAny_holding (wpAny_bind ((YC X.prog X.w).pyHash (Jbg X.prog X.w x t) ?_));refine wpAny_setAddHashed_of (knd:=YC X.prog X.w) (s:={ s' with toks:=s'.toks + 1 }) (Jbg X.prog X.w x t) rfl hS hlt fun h' sb hS2=>?_
  refine hQ _ h' _ sb ⟨fun k'=>f k' || decide (k'=.inr x),?_,?_⟩
  ·rw [Jg5 hx];by_cases hin:x∈(ss.take i).foldl dg []
   ·rw [JoA hin];have e:=(hf x).mpr hin;rw [if_pos e] at hS2;exact hS2
   ·rw [Jjx hin];have e:¬ f (.inr x)=true:=fun w=>hin ((hf x).mp w)
    rw [if_neg e] at hS2;rw [List.length_append];exact hS2
  ·intro y;rw [Jg5 hx,Bool.or_eq_true,hf y,decide_eq_true_eq];by_cases hin:x∈(ss.take i).foldl dg []
   ·rw [JoA hin];exact ⟨fun z=>z.elim id fun e=>(Sum.inr.inj e) ▸ hin,.inl⟩
   ·rw [Jjx hin,List.mem_append,List.mem_singleton];exact ⟨fun z=>z.imp id fun e=>Sum.inr.inj e,fun z=>z.imp id fun e=>by rw [e]⟩
 ·rintro h' tk ⟨f,⟨o,es,ep,t,e1,e2,e3,_,_,_,e7,e8⟩,hf⟩ keep;rw [hsz,List.take_length] at e8;have hfr:H s.heap.objs.size=none:=I.hok.fresh (Nat.le_refl _);refine ⟨.ref s.heap.objs.size,_,I.laid (fun b u e=>keep b u (Heap.lt_size e) e) (Nat.le_refl _) (JoO e1 e2 e3 e7 e8 ?_),rfl,q _ hfr⟩;have:=JnH ss;show (Jhi ss).length≤1000;omega
def JtY (K:PySem.W.Frag):List V→Hp→VK→Prop:=fun xs H Q=>JrD K xs H Q∨JrC K xs H Q
theorem JpQ (hc:X.calm=true) (hu:X.A.units + 64 < cLine):Yv X (.type "set") (JtY X.K):=by
 intro pins s σ H xs us Q I r h;rcases h with h | h
 ·exact JpP hc pins s σ H xs us Q I r h
 ·exact JpO hc hu pins s σ H xs us Q I r h
end
end L2
namespace KS
open PySem PySem.W PyProof.Rows
section
variable {O:KeyOrd} {key:Nat→O.α} {n:Nat}
def Ok (O:KeyOrd) (key:Nat→O.α) (n:Nat) {α:Type} (Post:α→Prop):KasT α→Prop
 | .ret a=>Post a
 | .ask i j k=>i < n∧j < n∧Ok O key n Post (k (O.blt (key i) (key j)))
theorem Ok.bind {α β:Type} {Post:β→Prop} {f:α→KasT β}:∀ {t:KasT α},Ok O key n (fun a=>Ok O key n Post (f a)) t→Ok O key n Post (t.bind f)
 | .ret _,h=>h
 | .ask _ _ _,h=>⟨h.1,h.2.1,Ok.bind h.2.2⟩
theorem Ok.wp {α:Type} {Post:α→Prop} {cmp:Nat→Nat→(Bool→Shared→Prop)→Shared→Prop} {Q:α→Shared→Prop} {s:Shared} (hc:∀ i j C,i < n→j < n→C (O.blt (key i) (key j)) s→cmp i j C s) (hq:∀ a,Post a→Q a s):∀ {t:KasT α},Ok O key n Post t→t.kasWp cmp Q s
 | .ret _,h=>hq _ h
 | .ask i j k,h=>hc i j _ h.1 h.2.1 (Ok.wp hc hq h.2.2)
def Pm (n:Nat) (p:Array Nat):Prop:=p.Perm (List.toArray (List.range n))
theorem Pm.size {p:Array Nat} (h:Pm n p):p.size=n:=by rw [Array.Perm.size_eq h]; simp
theorem Pm.lt {p:Array Nat} (h:Pm n p) (h0:0 < n) (i:Nat):p.getD i 0 < n:=by
 by_cases hi:i < p.size
 ·have hm:p[i]∈p:=Array.getElem_mem hi;have hm2:p[i]∈List.toArray (List.range n):=h.mem_iff.mp hm;rw [List.mem_toArray,List.mem_range] at hm2;simpa [Array.getD,hi] using hm2
 ·simpa [Array.getD,hi] using h0
def Kp (key:Nat→O.α) (p:Array Nat) (i:Nat):O.α:=key (p.getD i 0)
def Srt (O:KeyOrd) (key:Nat→O.α) (p:Array Nat) (m:Nat):Prop:=∀ i j,i≤j→j < m→O.kle (Kp key p i) (Kp key p j)
def Fal (O:KeyOrd) (key:Nat→O.α) (p:Array Nat) (m:Nat):Prop:=∀ i j,i≤j→j < m→O.kle (Kp key p j) (Kp key p i)
theorem JfG {p q:Array Nat} {i j:Nat} (h:p[i]?=q[j]?):p.getD i 0=q.getD j 0:=by rw [Array.getD_eq_getD_getElem?,Array.getD_eq_getD_getElem?,h]
theorem Ji5 {p:Array Nat} {i j:Nat} (hj:j≤p.size) (k:Nat):Kp key (kas_rev p i j) k=if i≤k∧k < j then Kp key p (i + j - 1 - k) else Kp key p k:=by
 have e:=getElem?_mirror_all (i:=i) hj k;unfold Kp kas_rev;split
 ·rename_i h;rw [if_pos h] at e;rw [JfG e]
 ·rename_i h;rw [if_neg h] at e;rw [JfG e]
theorem JgE {p:Array Nat} (i j:Nat) (h:Pm n p):Pm n (kas_rev p i j):=(mirror_perm p i j _).trans h
theorem JtA {p:Array Nat} {s d:Nat} (hs:s < p.size) (hd:d≤s) (k:Nat):Kp key (bubble p s d) k=if k=s - d then Kp key p s else if s - d < k∧k≤s then Kp key p (k - 1) else Kp key p k:=by
 have e:=getElem?_bubble hs d hd k;unfold Kp;by_cases h1:k=s - d
 ·rw [if_pos h1] at e ⊢; rw [JfG e]
 ·rw [if_neg h1] at e ⊢;by_cases h2:s - d < k∧k≤s
  ·rw [if_pos h2] at e ⊢; rw [JfG e]
  ·rw [if_neg h2] at e ⊢; rw [JfG e]
theorem nlt {a b:O.α} (h:¬ O.blt a b=true):O.kle b a:=by
 show O.blt a b=false;simpa using h
theorem JmS {Post:Nat→Prop} {p:Array Nat} (hp:Pm n p) (h0:0 < n):∀ (f a:Nat),1≤a→Srt O key p a→(∀ m,a≤m→m≤a + f→Srt O key p m→(m < a + f→O.klt (Kp key p m) (Kp key p (m - 1)))→Post m)→Ok O key n Post (kas_asc p f a)
 | 0,a,h1,hs,hq=>hq a (Nat.le_refl _) (Nat.le_refl _) hs fun h=>absurd h (Nat.lt_irrefl _)
 | f + 1,a,h1,hs,hq=>by
  refine ⟨hp.lt h0 _,hp.lt h0 _,?_⟩;dsimp only;by_cases hc:O.blt (key (p.getD a 0)) (key (p.getD (a - 1) 0))=true
  ·rw [if_pos hc];exact hq a (Nat.le_refl _) (by omega) hs fun _=>hc
  ·rw [if_neg hc];have hle:O.kle (Kp key p (a - 1)) (Kp key p a):=nlt hc;refine JmS hp h0 f (a + 1) (by omega) (fun i j hij hj=>?_) fun m g1 g2 g3 g4=>hq m (by omega) (by omega) g3 fun h=>g4 (by omega)
   by_cases hja:j < a
   ·exact hs i j hij hja
   ·obtain rfl:j=a:=by omega
    by_cases hia:i=j
    ·subst hia; exact O.kle_refl _
    ·exact O.kle_trans (hs i (j - 1) (by omega) (by omega)) hle
def Dsc (O:KeyOrd) (key:Nat→O.α) (p:Array Nat) (a q:Nat):Prop:=q + 1≤a∧Fal O key p a∧∀ i,a - (q + 1)≤i→i < a→O.kle (Kp key p i) (Kp key p (a - 1))
theorem Dsc.rev {p:Array Nat} {a q:Nat} (ha:a≤p.size) (h:Dsc O key p a q):(∀ k,Kp key (kas_rev p (a - (q + 1)) a) k=Kp key p k):=by
 obtain ⟨h1,h2,h3⟩:=h;have same:∀ i,a - (q + 1)≤i→i < a→Kp key p i=Kp key p (a - 1):=fun i g1 g2=>O.kle_antisymm (h3 i g1 g2) (h2 i (a - 1) (by omega) (by omega))
 intro k;rw [Ji5 ha];split
 ·rename_i h;rw [same _ (by omega) (by omega),same k h.1 h.2]
 ·rfl
theorem Dsc.congr {p p':Array Nat} {a q:Nat} (h:Dsc O key p a q) (e:∀ k,Kp key p' k=Kp key p k):Dsc O key p' a q :=
 ⟨h.1,fun i j hij hj=>by rw [e,e]; exact h.2.1 i j hij hj,fun i g1 g2=>by rw [e,e]; exact h.2.2 i g1 g2⟩
theorem Dsc.next {p:Array Nat} {a q:Nat} (h:Dsc O key p a q) (hlt:O.klt (Kp key p a) (Kp key p (a - 1))):Dsc O key p (a + 1) 0:=by
 refine ⟨by omega,fun i j hij hj=>?_,fun i g1 g2=>?_⟩
 ·by_cases hja:j < a
  ·exact h.2.1 i j hij hja
  ·obtain rfl:j=a:=by omega
   by_cases hia:i=j
   ·subst hia; exact O.kle_refl _
   ·have:=h.1;exact O.kle_trans (O.kle_of_klt hlt) (h.2.1 i (j - 1) (by omega) (by omega))
 ·obtain rfl:i=a:=by omega
  exact O.kle_refl _
theorem Dsc.same {p:Array Nat} {a q:Nat} (h:Dsc O key p a q) (e:Kp key p a=Kp key p (a - 1)):Dsc O key p (a + 1) (q + 1):=by
 have h1:=h.1;refine ⟨by omega,fun i j hij hj=>?_,fun i g1 g2=>?_⟩
 ·by_cases hja:j < a
  ·exact h.2.1 i j hij hja
  ·obtain rfl:j=a:=by omega
   by_cases hia:i=j
   ·subst hia; exact O.kle_refl _
   ·rw [e];exact h.2.1 i (j - 1) (by omega) (by omega)
 ·show O.kle (Kp key p i) (Kp key p (a + 1 - 1));rw [Nat.add_sub_cancel,e];by_cases hia:i=a
  ·subst hia; rw [e]; exact O.kle_refl _
  ·exact h.2.2 i (by omega) (by omega)
theorem JhM {Post:Array Nat×Nat×Nat→Prop} (h0:0 < n):∀ (f:Nat) (p:Array Nat) (a q:Nat),Pm n p→a + f≤n→Dsc O key p a q→(∀ p' a' q',Pm n p'→a≤a'→a'≤a + f→Dsc O key p' a' q'→Post (p',a',q'))→Ok O key n Post (kas_desc f p a q)
 | 0,p,a,q,hp,hn,hd,hq=>hq p a q hp (Nat.le_refl _) (Nat.le_refl _) hd
 | f + 1,p,a,q,hp,hn,hd,hq=>by
  have hz:=hp.size;refine ⟨hp.lt h0 _,hp.lt h0 _,?_⟩;dsimp only;by_cases hc:O.blt (key (p.getD a 0)) (key (p.getD (a - 1) 0))=true
  ·rw [if_pos hc];have hd2:=hd.next hc;by_cases hq0:q > 0
   ·rw [if_pos hq0];have e:=hd.rev (by omega);exact JhM h0 f _ (a + 1) 0 (JgE _ _ hp) (by omega) (hd2.congr e) fun p' a' q' g1 g2 g3 g4=>hq p' a' q' g1 (by omega) (by omega) g4
   ·rw [if_neg hq0];exact JhM h0 f p (a + 1) 0 hp (by omega) hd2 fun p' a' q' g1 g2 g3 g4=>hq p' a' q' g1 (by omega) (by omega) g4
  ·rw [if_neg hc];refine ⟨hp.lt h0 _,hp.lt h0 _,?_⟩;dsimp only;by_cases hc2:O.blt (key (p.getD (a - 1) 0)) (key (p.getD a 0))=true
   ·rw [if_pos hc2];exact hq p a q hp (Nat.le_refl _) (by omega) hd
   ·rw [if_neg hc2];have e:Kp key p a=Kp key p (a - 1):=O.kle_antisymm (nlt hc2) (nlt hc);exact JhM h0 f p (a + 1) (q + 1) hp (by omega) (hd.same e) fun p' a' q' g1 g2 g3 g4=>hq p' a' q' g1 (by omega) (by omega) g4
theorem JlI {Post:Nat×Array Nat→Prop} (h0:0 < n) {a nrem:Nat} {p:Array Nat} (hp:Pm n p) (h1:1≤a) (ha:a≤nrem) (hn:nrem≤n) (hf:Fal O key p a) (hq:∀ m p',Pm n p'→1≤m→m≤nrem→Srt O key p' m→Post (m,p')):Ok O key n Post (kas_tail3 a nrem p):=by
 have hz:=hp.size;unfold kas_tail3;refine Ok.bind (JmS (JgE 0 a hp) h0 (nrem - a) a h1 (fun i j hij hj=>?_) fun m g1 g2 g3 _=>hq m _ (JgE 0 a hp) (by omega) (by omega) g3);rw [Ji5 (by omega),Ji5 (by omega),if_pos ⟨Nat.zero_le _,by omega⟩,if_pos ⟨Nat.zero_le _,hj⟩];exact hf _ _ (by omega) (by omega)
theorem Jig {Post:Nat×Array Nat→Prop} (h0:0 < n) {a nrem:Nat} {p:Array Nat} (hp:Pm n p) (h1:1≤a) (ha:a + 1≤nrem) (hn:nrem≤n) (hf:Fal O key p a) (hlt:O.klt (Kp key p a) (Kp key p (a - 1))) (hq:∀ m p',Pm n p'→1≤m→m≤nrem→Srt O key p' m→Post (m,p')) :
  Ok O key n Post (kas_descPart a nrem p):=by
 have hd:Dsc O key p a 0:=⟨h1,hf,fun i g1 g2=>by
  obtain rfl:i=a - 1:=by omega
  exact O.kle_refl _⟩
 unfold kas_descPart;refine Ok.bind (JhM h0 _ p (a + 1) 0 hp (by omega) (hd.next hlt) fun p' a' q' g1 g2 g3 g4=>?_);have hz:=g1.size;dsimp only;split
 ·refine JlI h0 (JgE _ _ g1) (by omega) (by omega) hn (fun i j hij hj=>?_) hq;rw [g4.rev (by omega),g4.rev (by omega)];exact g4.2.1 i j hij hj
 ·exact JlI h0 g1 (by omega) (by omega) hn g4.2.1 hq
theorem Jre {Post:Nat×Array Nat→Prop} (h0:0 < n) {p:Array Nat} (hp:Pm n p) (hq:∀ m p',Pm n p'→1≤m→m≤n→Srt O key p' m→Post (m,p')):Ok O key n Post (kas_count n p):=by
 have hz:=hp.size;unfold kas_count;refine Ok.bind (JmS hp h0 (n - 1) 1 (Nat.le_refl _) (fun i j hij hj=>?_) fun m g1 g2 g3 g4=>?_)
 ·obtain rfl:i=j:=by omega
  exact O.kle_refl _
 ·by_cases hm:(m == n)=true
  ·rw [if_pos hm];exact hq m p hp g1 (by omega) g3
  ·rw [if_neg hm];have hmn:m≠n:=fun e=>hm (by simp [e])
   have hlt:=g4 (by omega);by_cases hm1:m > 1
   ·rw [if_pos hm1];refine ⟨hp.lt h0 _,hp.lt h0 _,?_⟩;dsimp only;by_cases hc:O.blt (key (p.getD 0 0)) (key (p.getD (m - 1) 0))=true
    ·rw [if_pos hc];exact hq m p hp g1 (by omega) g3
    ·rw [if_neg hc];have all:∀ i,i < m→Kp key p i=Kp key p (m - 1):=fun i hi=>by
      refine O.kle_antisymm (g3 i (m - 1) (by omega) (by omega)) ?_;exact O.kle_trans (nlt hc) (g3 0 i (Nat.zero_le _) hi)
     have e:∀ k,Kp key (kas_rev p 0 m) k=Kp key p k:=fun k=>by
      rw [Ji5 (by omega)];split
      ·rename_i h;rw [all _ (by omega),all k h.2]
      ·rfl
     refine Jig h0 (JgE 0 m hp) g1 (by omega) (Nat.le_refl _) (fun i j hij hj=>?_) (by rw [e,e]; exact hlt) hq;rw [e,e,all i (by omega),all j hj];exact O.kle_refl _
   ·rw [if_neg hm1];refine Jig h0 hp g1 (by omega) (Nat.le_refl _) (fun i j hij hj=>?_) hlt hq;obtain rfl:i=j:=by omega
    exact O.kle_refl _
theorem Jis {Post:Nat→Prop} (h0:0 < n) {p:Array Nat} (hp:Pm n p) {k:Nat} (hs:Srt O key p k):∀ (f l r:Nat),l≤r→r≤k→r - l≤f→(∀ i,i < l→O.kle (Kp key p i) (Kp key p k))→(∀ i,r≤i→i < k→O.klt (Kp key p k) (Kp key p i)) →
  (∀ m,m≤k→(∀ i,i < m→O.kle (Kp key p i) (Kp key p k))→(∀ i,m≤i→i < k→O.klt (Kp key p k) (Kp key p i))→Post m)→Ok O key n Post (kas_place p k f l r)
 | 0,l,r,h1,h2,h3,h4,h5,hq=>by
  obtain rfl:l=r:=by omega
  exact hq l h2 h4 h5
 | f + 1,l,r,h1,h2,h3,h4,h5,hq=>by
  unfold kas_place;by_cases hlr:l≥r
  ·rw [if_pos hlr];obtain rfl:l=r:=by omega
   exact hq l h2 h4 h5
  ·rw [if_neg hlr];refine ⟨hp.lt h0 _,hp.lt h0 _,?_⟩;dsimp only;by_cases hc:O.blt (key (p.getD k 0)) (key (p.getD ((l + r) / 2) 0))=true
   ·rw [if_pos hc];refine Jis h0 hp hs f l _ (by omega) (by omega) (by omega) h4 (fun i g1 g2=>?_) hq;exact O.klt_of_klt_of_kle hc (hs ((l + r) / 2) i g1 g2)
   ·rw [if_neg hc];refine Jis h0 hp hs f _ r (by omega) h2 (by omega) (fun i g=>?_) h5 hq;exact O.kle_trans (hs i ((l + r) / 2) (by omega) (by omega)) (nlt hc)
theorem JpW {Post:Array Nat→Prop} (h0:0 < n):∀ (f:Nat) (p:Array Nat) (k:Nat),Pm n p→k + f=n→Srt O key p k→(∀ p',Pm n p'→Srt O key p' n→Post p')→Ok O key n Post (kas_bin f p k)
 | 0,p,k,hp,hk,hs,hq=>hq p hp (by rw [← hk]; exact hs)
 | f + 1,p,k,hp,hk,hs,hq=>by
  have hz:=hp.size;unfold kas_bin;refine Ok.bind (Jis h0 hp hs k 0 k (Nat.zero_le _) (Nat.le_refl _) (by omega) (fun i g=>absurd g (Nat.not_lt_zero _)) (fun i g1 g2=>by omega) fun m g1 g2 g3=>?_);have e:∀ i,Kp key (bubble p k (k - m)) i=if i=m then Kp key p k else if m < i∧i≤k then Kp key p (i - 1) else Kp key p i:=fun i=>by
   have z:=JtA (key:=key) (p:=p) (s:=k) (d:=k - m) (by omega) (by omega) i;rw [show k - (k - m)=m by omega] at z;exact z
  refine JpW h0 f _ (k + 1) ((bubble_perm p k (k - m)).trans hp) (by omega) (fun i j hij hj=>?_) hq;rw [e,e];rcases Nat.lt_trichotomy i m with a | a | a
  ·rw [if_neg (by omega),if_neg (by omega)];rcases Nat.lt_trichotomy j m with b | b | b
   ·rw [if_neg (by omega),if_neg (by omega)];exact hs i j hij (by omega)
   ·rw [if_pos b];exact g2 i a
   ·rw [if_neg (by omega),if_pos ⟨b,by omega⟩];exact hs i (j - 1) (by omega) (by omega)
  ·rw [if_pos a];by_cases b:j=m
   ·rw [if_pos b]; exact O.kle_refl _
   ·rw [if_neg b,if_pos ⟨by omega,by omega⟩];exact O.kle_of_klt (g3 (j - 1) (by omega) (by omega))
  ·rw [if_neg (by omega),if_pos ⟨a,by omega⟩,if_neg (by omega),if_pos ⟨by omega,by omega⟩];exact hs (i - 1) (j - 1) (by omega) (by omega)
theorem Jr6 {Post:Array Nat→Prop} (h0:0 < n) (hq:∀ p,Pm n p→Srt O key p n→Post p):Ok O key n Post (kas_sort n):=by
 unfold kas_sort;refine Ok.bind (Jre h0 (Array.Perm.refl _) fun m p g1 g2 g3 g4=>?_);dsimp only;split
 ·rename_i h;have e:max m 1=m:=by omega
  rw [e];exact JpW h0 (n - m) p m g1 (by omega) g4 hq
 ·obtain rfl:m=n:=by omega
  exact hq p g1 g4
end
end KS
namespace KS
open PySem PySem.W PyProof.Rows
def Zo:KeyOrd where
 α:=List Nat×List Nat
 blt a b:=if a.1=b.1 then decide (a.2 < b.2) else decide (a.1 < b.1)
 irrefl a:=by rw [if_pos rfl]; exact strKind.irrefl a.2
 trans a b c h1 h2:=by
  by_cases e1:a.1=b.1
  ·rw [if_pos e1] at h1;by_cases e2:b.1=c.1
   ·rw [if_pos e2] at h2;rw [if_pos (e1.trans e2)];exact strKind.trans _ _ _ h1 h2
   ·rw [if_neg e2] at h2;rw [if_neg (fun e=>e2 (e1.symm.trans e)),e1];exact h2
  ·rw [if_neg e1] at h1;by_cases e2:b.1=c.1
   ·rw [if_pos e2] at h2;rw [if_neg (fun e=>e1 (e.trans e2.symm)),← e2];exact h1
   ·rw [if_neg e2] at h2;have h3:=strKind.trans _ _ _ h1 h2;have hne:¬ a.1=c.1:=fun e=>by
     rw [e] at h3;have:=strKind.irrefl c.1;rw [this] at h3;cases h3
    rw [if_neg hne];exact h3
 negTrans a b c h:=by
  by_cases e1:a.1=b.1
  ·by_cases e2:b.1=c.1
   ·rw [if_pos (e1.trans e2)] at h;rw [if_pos e1,if_pos e2];exact strKind.negTrans _ _ _ h
   ·rw [if_neg (fun e=>e2 (e1.symm.trans e))] at h;rw [if_neg e2,← e1];exact .inr h
  ·by_cases e2:b.1=c.1
   ·rw [if_neg (fun e=>e1 (e.trans e2.symm))] at h;rw [if_neg e1,e2];exact .inl h
   ·rw [if_neg e1,if_neg e2];by_cases e3:a.1=c.1
    ·rw [if_pos e3] at h;cases h4:decide (a.1 < b.1) with
     | true=>exact .inl rfl
     | false =>
      refine .inr ?_;cases h5:decide (b.1 < c.1) with
      | true=>rfl
      | false =>
       rw [← e3] at h5;exact absurd (strKind.total _ _ h4 h5) e1
    ·rw [if_neg e3] at h;exact strKind.negTrans _ _ _ h
 total a b h1 h2:=by
  by_cases e:a.1=b.1
  ·rw [if_pos e] at h1;rw [if_pos e.symm] at h2;exact Prod.ext e (strKind.total _ _ h1 h2)
  ·rw [if_neg e] at h1;rw [if_neg (fun q=>e q.symm)] at h2;exact absurd (strKind.total _ _ h1 h2) e
section
variable {prog:Program} {w:World} {A:Around} {E:Value→Shared→Prop} {s:Shared}
def JeL (h:Heap) (a:Addr) (x y:Str):Prop:=∃ o n t u,h.get? a=some o∧o.cls=.type "tuple"∧o.data=.seq #[.str x t,.str y u] n
def pk (x:Str×Str):Zo.α:=(x.1.cps.toList,x.2.cps.toList)
theorem JnL {x y:Str} (h:x.cps.toList=y.cps.toList):x=y:=by
 cases x; cases y;congr 1;exact Array.toList_inj.mp h
theorem JnG {x y:Str} {t u:Tok} {Q:Bool→Shared→Prop} (h:Q (decide (x=y)) s):wpAny (model prog w) A (eqBool (.str x t) (.str y u)) Q E s:=by
 refine (L2.YC prog w).eqBool (L2.Jbg prog w x t) (L2.Jbg prog w y u) ?_;rw [L2.Jpu];exact h
theorem Jri {a b:Addr} {p q:Str×Str} {Q:Bool→Shared→Prop} (ha:JeL s.heap a p.1 p.2) (hb:JeL s.heap b q.1 q.2) (h:Q (Zo.blt (pk p) (pk q)) s):wpAny (model prog w) A (keyLt' (tuples' true) (.ref a) (.ref b)) Q E s:=by
 obtain ⟨o,n,t,u,h1,_,h3⟩:=ha;obtain ⟨o',n',t',u',g1,_,g3⟩:=hb;refine kat_lt h1 h3 g1 g3 (kat_cons (JnG (kat_go (fun e=>?_) (fun e=>?_))))
 ·have e1:p.1=q.1:=of_decide_eq_true e;refine kat_yes (kat_cons (JnG (kat_go (fun e=>?_) (fun e=>?_))))
  ·have e2:p.2=q.2:=of_decide_eq_true e;refine kat_yes (kat_nil ?_);have hf:Zo.blt (pk p) (pk q)=false:=by
    have:pk p=pk q:=by unfold pk; rw [e1,e2]
    rw [this];exact Zo.irrefl _
   rw [hf] at h;exact h
  ·refine kat_no (kat_one _ _ ?_);have hf:Zo.blt (pk p) (pk q)=decide (p.2.cps.toList < q.2.cps.toList):=by
    show (if p.1.cps.toList=q.1.cps.toList then _ else _)=_;rw [if_pos (by rw [e1])];rfl
   rw [hf] at h;exact PySem.P.lt_str h
 ·have e1:¬ p.1=q.1:=of_decide_eq_false e;refine kat_no ?_;have hf:Zo.blt (pk p) (pk q)=decide (p.1.cps.toList < q.1.cps.toList):=by
   show (if p.1.cps.toList=q.1.cps.toList then _ else _)=_;rw [if_neg (fun z=>e1 (JnL z))];rfl
  rw [hf] at h;exact oneLt_str h
def dfl:Str×Str:=(Str.empty,Str.empty)
def ky (ps:List (Str×Str)) (i:Nat):Zo.α:=pk (ps.getD i dfl)
def JaA (vs:List Value) (p:Array Nat):Array Value:=List.toArray (p.toList.map fun i=>vs.getD i Value.none)
theorem Jl3 (n:Nat):Pm n (List.toArray (List.range n)):=Array.Perm.refl _
theorem Jpf (vs:List Value):JaA vs (List.toArray (List.range vs.length))=vs.toArray:=by
 unfold JaA;congr 1;apply List.ext_getElem?;intro i;rw [List.getElem?_map];by_cases hi:i < vs.length
 ·simp [hi]
 ·simp [hi]
theorem Jo3 {a:Addr} {vs:List Value} {ps:List (Str×Str)} {n:Nat} {P:PySem.Fin→Shared→Prop} (ho:s.heap.get? a=some (seqObj "list" vs.toArray n)) (hlen:vs.length=ps.length) (h64:vs.length < 64)
  (hp:∀ (i:Nat) v p,vs[i]?=some v→ps[i]?=some p→∃ b,b≠a∧v=.ref b∧JeL s.heap b p.1 p.2)
  (h:∀ p:Array Nat,Pm vs.length p→Srt Zo (ky ps) p vs.length→P (.done (.ret .none)) { s with heap:=sortedHeap s.heap a vs (JaA vs p) }) :
  wpAny (model prog w) A (Builtin.«list.sort» ⟨[.ref a],[]⟩) P E s:=by
 have hlt:a < s.heap.objs.size:=Heap.lt_size ho;obtain ⟨e1,g1⟩:∃ e1,(s.heap.update a (Obj.mapSeq fun _=>#[])).get? a=some (seqObj "list" #[] e1):=⟨_,get?_update_seq ho fun _=>#[]⟩
 have big:vs.length≤sizeLine:=by rw [sizeLine_eq]; omega
 rw [list_sort_plain];refine wpAny_bind (listItems_at ho rfl (wpAny_bind (listUpdate_at ho rfl (wpAny_bind (seqEpoch_at g1 rfl (wpAny_bind (wpAny_newTuple (wpAny_bind (wpAny_newList (wpAny_holding ?_))) (by simpa using big))))) (by simpa using big))));generalize hh6:(((s.heap.update a (Obj.mapSeq fun _=>#[])).push (seqObj "tuple" vs.toArray 0)).push (seqObj "list" #[] 0))=h6;have g6:h6.get? a=some (seqObj "list" #[] e1):=by
  rw [← hh6];exact Heap.get?_push_of_some _ (Heap.get?_push_of_some _ g1)
 have keep:∀ b o,b≠a→s.heap.get? b=some o→h6.get? b=some o:=fun b o hb e=>by
  rw [← hh6];refine Heap.get?_push_of_some _ (Heap.get?_push_of_some _ ?_);rw [Heap.get?_update_ne _ _ _ _ hb];exact e
 have hp6:∀ (i:Nat) v p,vs[i]?=some v→ps[i]?=some p→∃ b,v=.ref b∧JeL h6 b p.1 p.2:=fun i v p hv hq=>by
  obtain ⟨b,hb,e,o,n,t,u,z1,z2⟩:=hp i v p hv hq;exact ⟨b,e,o,n,t,u,keep b o hb z1,z2⟩
 have hfin:∀ p:Array Nat,Pm vs.length p→(JaA vs p).size≤sizeLine + 1:=fun p hpm=>by
  unfold JaA;rw [List.size_toArray,List.length_map,Array.length_toList,hpm.size];exact Nat.le_succ_of_le big
 have eH:∀ out,h6.update a (Obj.mapSeq fun _=>out)=sortedHeap s.heap a vs out:=fun out=>by rw [← hh6]; rfl
 have sz:vs.toArray.size=vs.length:=List.size_toArray;show wpAny (model prog w) A _ P E { s with heap:=h6 };dsimp only;rw [sz];by_cases h2:vs.length < 2
 ·rw [if_pos h2,if_pos h2];refine wpAny_bind (wpAny_pure ?_);rw [StateT.run_pure];refine wpAny_bind (wpAny_pure ?_);dsimp only;have eo:(arrOf (SortSt.mk' general' (vs.toArray.zip vs.toArray) #[] 7 none)).map (·.2)=JaA vs (List.toArray (List.range vs.length)):=by
   rw [Jpf];show (vs.toArray.zip vs.toArray).map (·.2)=_;simp [List.map_snd_zip]
  rw [eo];refine wpAny_bind (seqEpoch_at g6 rfl (wpAny_bind (listUpdate_at g6 rfl ?_ (hsz2:=hfin _ (Jl3 _)))));rw [if_neg (by simp)];show wpAny _ _ _ _ _ { s with heap:=h6.update a (Obj.mapSeq fun _=>JaA vs (List.toArray (List.range vs.length))) };rw [eH];refine wpAny_pure (h _ (Jl3 _) fun i j hij hj=>?_);obtain rfl:i=j:=by omega
  exact Zo.kle_refl _
 ·rw [if_neg h2,if_neg h2];have tups:∀ (vs:List Value) (ps:List (Str×Str)),vs.length=ps.length→(∀ (i:Nat) v p,vs[i]?=some v→ps[i]?=some p→∃ b,v=.ref b∧JeL h6 b p.1 p.2)→∃ fs:List Value,KatTups h6 vs fs∧fs.length=vs.length∧∀ v∈fs,∃ x t,v=.str x t:=by
   intro vs
   induction vs with
   | nil=>exact fun ps _ _=>⟨[],.nil,rfl,fun v hv=>nomatch hv⟩
   | cons v r ih =>
    intro ps hl hq;cases ps with
    | nil=>cases hl
    | cons p ps =>
     obtain ⟨b,rfl,o,n,t,u,z1,z2,z3⟩:=hq 0 v p rfl rfl;obtain ⟨fs,y1,y2,y3⟩:=ih ps (by simpa using hl) fun i v' p' a1 a2=>hq (i + 1) v' p' (by simpa using a1) (by simpa using a2)
     refine ⟨.str p.1 t :: fs,.cons z1 z2 z3 rfl y1,by simp [y2],fun v' hv'=>?_⟩;rcases List.mem_cons.mp hv' with rfl | q
     ·exact ⟨_,_,rfl⟩
     ·exact y3 v' q
  obtain ⟨fs,f1,f2,f3⟩:=tups vs ps hlen hp6;refine wpAny_bind (kat_kind (s:={ s with heap:=h6 }) f1 (by omega) (T:=.type "str") (fun v hv=>?_) (by decide) ?_)
  ·obtain ⟨x,t,rfl⟩:=f3 v hv;exact .now
  have ek:(Value.type "str" != Value.type "tuple")=true:=by decide
  rw [ek];refine wpAny_bind (wpAny_mono (kat_run (E:=E) (ks:=vs) (vs:=vs) (G:=fun p s'=>s'={ s with heap:=h6 }∧Pm vs.length p∧Srt Zo (ky ps) p vs.length)
   (Q:=fun st' s'=>∃ p:Array Nat,s'={ s with heap:=h6 }∧Pm vs.length p∧Srt Zo (ky ps) p vs.length∧arrOf st'=p.map (kas_item (vs.toArray.zip vs.toArray))∧failedOf st'=none) rfl (by omega) h64
   (fun p st' s' b1 b2 b3 b4=>⟨p,b4.1,b4.2.1,b4.2.2,b2,b3⟩) ?_) ?_ fun _ _ e=>e)
  ·refine Ok.wp (O:=Zo) (key:=ky ps) (n:=vs.length) (Post:=fun p=>Pm vs.length p∧Srt Zo (ky ps) p vs.length) (fun i j C hi hj hC=>?_) (fun p q=>⟨rfl,q.1,q.2⟩) (Jr6 (by omega) fun p q1 q2=>⟨q1,q2⟩);have at_:∀ i,i < vs.length→∃ b,vs.getD i Value.none=.ref b∧JeL h6 b (ps.getD i dfl).1 (ps.getD i dfl).2:=fun i hi=>by
    have hi':i < ps.length:=by omega
    obtain ⟨b,e,pb⟩:=hp6 i vs[i] ps[i] (List.getElem?_eq_getElem hi) (List.getElem?_eq_getElem hi');refine ⟨b,?_,?_⟩
    ·rw [List.getD_eq_getElem?_getD,List.getElem?_eq_getElem hi]; exact e
    ·rw [List.getD_eq_getElem?_getD,List.getElem?_eq_getElem hi']; exact pb
   obtain ⟨b,eb,pb⟩:=at_ i hi;obtain ⟨c,ec,pc⟩:=at_ j hj;show wpAny (model prog w) A (keyLt' (tuples' true) (vs.getD i Value.none) (vs.getD j Value.none)) C (fun _ _=>False) { s with heap:=h6 };rw [eb,ec];exact Jri (s:={ s with heap:=h6 }) pb pc hC
  ·rintro ⟨⟨⟩,st'⟩ s' ⟨p,rfl,q1,q2,q3,q4⟩;dsimp only;have eo:(arrOf st').map (·.2)=JaA vs p:=kat_snds rfl q3;rw [eo,q4];refine wpAny_bind (seqEpoch_at g6 rfl (wpAny_bind (listUpdate_at g6 rfl ?_ (hsz2:=hfin p q1))));dsimp only;rw [if_neg (by simp)];show wpAny _ _ _ _ _ { s with heap:=h6.update a (Obj.mapSeq fun _=>JaA vs p) };rw [eH];exact wpAny_pure (h p q1 q2)
theorem JlO {l:Addr} {vs:List Value} {ps:List (Str×Str)} {Q:Value→Shared→Prop} (hl:s.heap.IsList l vs.toArray) (hlen:vs.length=ps.length) (h64:vs.length < 64)
  (hp:∀ (i:Nat) v p,vs[i]?=some v→ps[i]?=some p→∃ b,v=.ref b∧JeL s.heap b p.1 p.2)
  (h:∀ p:Array Nat,Pm vs.length p→Srt Zo (ky ps) p vs.length→Q (.ref (s.heap.objs.size + 1)) { s with heap:=sortedAll s.heap vs (JaA vs p) }) :
  wpAny (model prog w) A (call (.builtin "sorted") [.ref l]) Q E s:=by
 have big:vs.length≤sizeLine:=by rw [sizeLine_eq]; omega
 refine Calls.call_function_entry kind_sorted plain_sorted entry_sorted (args_sorted1 _) ?_;unfold Builtin.«sorted»;refine wpAny_bind (m:=checkCount "sorted" 1 1 _) (wpAny_pure (wpAny_bind (collect_list hl (wpAny_bind (wpAny_newList ?_ (by simpa using big))) (by simpa using big))));generalize hh1:((s.heap.push (seqObj "list" #[] 0)).update s.heap.objs.size (Obj.mapSeq (· ++ vs.toArray)))=h1;have z1:h1.objs.size=s.heap.objs.size + 1:=by rw [← hh1,Heap.size_update,size_push']
 have g1:(h1.push (seqObj "list" vs.toArray 0)).get? (s.heap.objs.size + 1)=some (seqObj "list" vs.toArray 0):=by rw [← z1]; exact Heap.get?_push_size _ rfl
 have keep:∀ b o,s.heap.get? b=some o→(h1.push (seqObj "list" vs.toArray 0)).get? b=some o:=fun b o q=>by
  have hb:b < s.heap.objs.size:=Heap.lt_size q;refine Heap.get?_push_of_some _ ?_;rw [← hh1,Heap.get?_update_ne _ _ _ _ (Nat.ne_of_lt hb)];exact Heap.get?_push_of_some _ q
 show wpAny _ _ _ _ _ { s with heap:=h1.push (seqObj "list" vs.toArray 0) };rw [z1];refine wpAny_bind (wpAny_holding (wpAny_call_entry slot_list_sort ⟨_,g1,rfl⟩ entry_list_sort (Jo3 (s:={ s with heap:=h1.push (seqObj "list" vs.toArray 0) }) g1 hlen h64 (fun i v p hv hq=>?_) fun p q1 q2=>⟨_,rfl,?_⟩) (args_list_sort _)))
 ·obtain ⟨b,e,o,n,t,u,y1,y2⟩:=hp i v p hv hq;exact ⟨b,Nat.ne_of_lt (Nat.lt_succ_of_lt (Heap.lt_size y1)),e,o,n,t,u,keep b o y1,y2⟩
 ·refine wpAny_pure ⟨_,rfl,?_⟩;have z:=h p q1 q2;unfold sortedAll at z;rw [hh1] at z;exact z
end
end KS
namespace L2
open PySem PySem.Spec PyProof.Rows KS
def sle (a b:Str):Prop:=strKind.kle a.cps.toList b.cps.toList
def ple (p q:Str×Str):Prop:=Zo.kle (pk p) (pk q)
theorem Jo4 {a b c:Str} (h1:sle a b) (h2:sle b c):sle a c:=KeyOrd.kle_trans h1 h2
theorem Jqt {a b:Str} (h1:sle a b) (h2:sle b a):a=b:=JnL (KeyOrd.kle_antisymm h1 h2)
theorem Ji4:∀ {p:Str} {l:List Str},risingS p l=true→(∀ x∈l,sle p x)∧l.Pairwise sle
 | p,[],_=>⟨(fun x hx=>nomatch hx),.nil⟩
 | p,x :: r,h=>by
  have h':(!ltCps x.cps.toList p.cps.toList && risingS x r)=true:=h;rw [Bool.and_eq_true] at h';obtain ⟨a,b⟩:=Ji4 h'.2;have hx:sle p x:=by
   have z:=h'.1;rw [ltCps_eq] at z;show decide (x.cps.toList < p.cps.toList)=false;simpa using z
  refine ⟨fun y hy=>?_,List.pairwise_cons.mpr ⟨a,b⟩⟩;rcases List.mem_cons.mp hy with rfl | hy
  ·exact hx
  ·exact Jo4 hx (a y hy)
theorem Jn3 {l:List Str} (h:sortedS l=true):l.Pairwise sle:=by
 cases l with
 | nil=>exact .nil
 | cons x r =>
  obtain ⟨a,b⟩:=Ji4 (p:=x) (l:=r) h;exact List.pairwise_cons.mpr ⟨a,b⟩
theorem JkM:∀ {us:List Value} {ss:List Str},StrsAre us ss→JI (ss.map V.str) us
 | _,_,.nil=>.nil
 | _,_,.cons x t h=>.cons ⟨t,rfl⟩ (JkM h)
section
variable {X:Cx}
def Js5 (K:PySem.W.Frag):List V→Hp→VK→Prop:=fun xs H Q=>∃ (l:Addr) (ss:List Str),xs=[.ref l]∧Jp K H l (ss.map V.str)∧ss.length < 64∧∀ (p:Addr) (ss':List Str),H p=none→ss'.Perm ss→ss'.Pairwise sle→Q (.ref p) (upd H p (.lst (ss'.map V.str)))
theorem Jf6:Yv X (.builtin "sorted") (Js5 X.K):=by
 intro pins s σ H xs us Q I r h;obtain ⟨l,ss,rfl,hl,hz,q⟩:=h;obtain ⟨u,rfl,ru⟩:=JI.one r;cases ru;obtain ⟨its,rv,pl,_⟩:=I.list hl;have rlen:=rv.length;rw [List.length_map] at rlen;refine sorted_strs pl.isList (JjS rv) (by omega) fun out ss' a1 a2 a3=>?_
 obtain ⟨e,he⟩:=sortedAll_at s.heap its out;have hf:H (s.heap.objs.size + 1)=none:=I.hok.fresh (Nat.le_succ _);have hv:=JkM a1;refine ⟨.ref (s.heap.objs.size + 1),_,I.laid (t':=s.toks) (o:=.lst (ss'.map V.str)) (fun b u=>sortedAll_old) (Nat.le_succ _) ⟨?_,out.toList,e,hv,he⟩,rfl,q _ ss' hf a2 (Jn3 a3)⟩;rw [List.length_map,a2.length_eq];exact Nat.le_trans (Nat.le_of_lt hz) (by decide)
def Zp (K:PySem.W.Frag) (H:Hp) (zs:List (V×(Str×Str))):Prop:=∀ z∈zs,∃ a,z.1=.ref a∧JX K H a [.str z.2.1,.str z.2.2]
def Js4 (K:PySem.W.Frag):List V→Hp→VK→Prop:=fun xs H Q=>∃ (l:Addr) (zs:List (V×(Str×Str))),xs=[.ref l]∧Jp K H l (zs.map (·.1))∧Zp K H zs∧zs.length < 64∧∀ (p:Addr) (zs':List (V×(Str×Str))),H p=none→zs'.Perm zs→(zs'.map (·.2)).Pairwise ple→Q (.ref p) (upd H p (.lst (zs'.map (·.1))))
theorem JoK:∀ {vs:List V} {us:List Value},JI vs us→∀ (p:List Nat),(∀ i∈p,i < vs.length)→JI (p.map fun i=>vs.getD i .non) (p.map fun i=>us.getD i Value.none):=by
 intro vs us r p
 induction p with
 | nil=>exact fun _=>.nil
 | cons i p ih =>
  intro h;have hi:=h i (List.mem_cons_self ..);obtain ⟨u,hu,ru⟩:=JdS (i:=i) r (List.getElem?_eq_getElem hi);refine .cons ?_ (ih fun j hj=>h j (List.mem_cons_of_mem _ hj));show JR (vs.getD i .non) (us.getD i Value.none);rw [List.getD_eq_getElem?_getD,List.getD_eq_getElem?_getD,hu,List.getElem?_eq_getElem hi];exact ru
theorem Jpb {α:Type} {l:List α} {d:α} {p:Array Nat} (h:Pm l.length p):(p.toList.map fun i=>l.getD i d).Perm l:=by
 have h1:p.toList.Perm (List.range l.length):=by
  have:=Array.perm_iff_toList_perm.mp h;simpa using this
 have h2:=h1.map fun i=>l.getD i d
 refine h2.trans (List.Perm.of_eq ?_);apply List.ext_getElem?;intro i;rw [List.getElem?_map];by_cases hi:i < l.length
 ·simp [hi]
 ·simp [hi]
theorem JoD:Yv X (.builtin "sorted") (Js4 X.K):=by
 intro pins s σ H xs us Q I r h;obtain ⟨l,zs,rfl,hl,hp,hz,q⟩:=h;obtain ⟨u,rfl,ru⟩:=JI.one r;cases ru;obtain ⟨its,rv,pl,_⟩:=I.list hl;have rlen:=rv.length;rw [List.length_map] at rlen;refine JlO (ps:=zs.map (·.2)) pl.isList (by rw [List.length_map]; omega) (by omega) (fun i v p hv hq=>?_) fun p pm so=>?_
 ·rw [List.getElem?_map] at hq;obtain ⟨z,hz1,hz2⟩:=Option.map_eq_some_iff.mp hq;obtain ⟨a,ea,ha⟩:=hp z (List.mem_of_getElem? hz1);obtain ⟨u,hu,ru⟩:=JdS (i:=i) (x:=z.1) rv (by rw [List.getElem?_map,hz1]; rfl);rw [hv] at hu;cases hu;rw [ea] at ru;cases (show v=.ref a from ru);obtain ⟨its',r',⟨o,e,c,n,d⟩,_⟩:=I.tuple ha;cases r' with
  | cons r1 rr =>
   cases rr with
   | cons r2 rr =>
    cases rr;obtain ⟨t,e1⟩:=r1;obtain ⟨t',e2⟩:=r2;subst e1 e2;rw [← hz2];exact ⟨a,rfl,o,n,t,t',e,c,d⟩
 ·obtain ⟨e,he⟩:=sortedAll_at s.heap its (JaA its p);have hf:H (s.heap.objs.size + 1)=none:=I.hok.fresh (Nat.le_succ _);have pmz:Pm zs.length p:=by rw [rlen]; exact pm
  have hlt:∀ i∈p.toList,i < zs.length:=fun i hi=>by
   have:=(Array.perm_iff_toList_perm.mp pmz).mem_iff.mp hi;simpa using this
  let d:V×(Str×Str):=(.non,dfl)
  have e1:(p.toList.map fun i=>zs.getD i d).map (·.1)=p.toList.map fun i=>(zs.map (·.1)).getD i .non:=by
   rw [List.map_map];refine List.map_congr_left fun i hi=>?_
   have:=hlt i hi;simp [List.getD_eq_getElem?_getD,List.getElem?_eq_getElem this]
  have e2:(p.toList.map fun i=>zs.getD i d).map (·.2)=p.toList.map fun i=>(zs.map (·.2)).getD i dfl:=by
   rw [List.map_map];refine List.map_congr_left fun i hi=>?_
   have:=hlt i hi;simp [List.getD_eq_getElem?_getD,List.getElem?_eq_getElem this]
  have hv:JI ((p.toList.map fun i=>zs.getD i d).map (·.1)) (JaA its p).toList:=by
   rw [e1];have z:=JoK rv p.toList (fun i hi=>by rw [List.length_map]; exact hlt i hi);unfold JaA;rw [List.toList_toArray];exact z
  refine ⟨.ref (s.heap.objs.size + 1),_,I.laid (t':=s.toks) (o:=.lst ((p.toList.map fun i=>zs.getD i d).map (·.1))) (fun b u=>sortedAll_old) (Nat.le_succ _) ⟨?_,(JaA its p).toList,e,hv,he⟩,rfl,q _ (p.toList.map fun i=>zs.getD i d) hf (Jpb pmz) ?_⟩
  ·rw [List.length_map,List.length_map,Array.length_toList,pmz.size];exact Nat.le_trans (Nat.le_of_lt hz) (by decide)
  ·rw [e2,List.pairwise_map,List.pairwise_iff_getElem];intro i j hi hj hij;rw [Array.length_toList] at hi hj;have z:=so i j (Nat.le_of_lt hij) (by rw [← rlen,← pmz.size]; exact hj);unfold Kp ky at z;rw [Array.getD_eq_getD_getElem?,Array.getD_eq_getD_getElem?,Array.getElem?_eq_getElem hi,Array.getElem?_eq_getElem hj] at z;exact z
theorem JkX {P P':Program} {w w':World}:∀ {ks:List JP} {us:List Value},ItemsAre (YC P w) ks us→ItemsAre (YC P' w') ks us
 | _,_,.nil=>.nil
 | _,_,.cons h t=>.cons h (JkX t)
theorem JoM {P P':Program} {w w':World} {h:Heap} {ks:List JP} {a:Addr} (hk:HS.TK P w h ks a):HS.TK P' w' h ks a:=let ⟨o,its,n,e,c,d,i⟩:=hk; ⟨o,its,n,e,c,d,JkX i⟩
theorem Jt7 {A:Around} {s:Shared} {P:Program} {w:World} {x y:List JP} {a b:Addr} (hu:A.units < cLine) (hx:HS.TK P w s.heap x a) (hy:HS.TK P w s.heap y b):SeqAt.EqAt A s (.ref a) (.ref b) (decide (x=y)) :=
 fun prog w E Q hq=>wpAny_eqBool_tuple hu (JoM hx) (JoM hy) hq
open Classical in
def JuJ (K:PySem.W.Frag) (neg:Bool):R2:=fun x y H Q=>∃ a l vs ks kss,x=.ref a∧y=.ref l∧JX K H a (ks.map kV)∧Jp K H l vs∧JfR K H vs kss∧Q (.bl (if neg then !decide (ks∈kss) else decide (ks∈kss))) H
open Classical in
theorem Jlj (hu:X.A.units + 1 < cLine):Z7 X (compareOp .NotIn) (JuJ X.K true):=by
 intro pins s σ H x y v u Q I rx ry h;obtain ⟨a,l,vs,ks,kss,rfl,rfl,ha,hl,⟨tl,tt⟩,q⟩:=h;cases rx;cases ry;obtain ⟨its,rv,pl,_⟩:=I.list hl;have rlen:=rv.length;have hk:=JnV I ha;let e:Value→Bool:=fun u=>match u with
  | .ref b=>decide (HS.TK X.prog X.w s.heap ks b)
  | _=>false
 have at_:∀ (i:Nat) v,its[i]?=some v→∃ k2 b,kss[i]?=some k2∧v=.ref b∧HS.TK X.prog X.w s.heap k2 b:=fun i v hv=>by
  have hi:=(List.getElem?_eq_some_iff.mp hv).1;obtain ⟨x,hx⟩:∃ x,vs[i]?=some x:=⟨vs[i],List.getElem?_eq_getElem (by omega)⟩
  obtain ⟨k2,hk2⟩:∃ k2,kss[i]?=some k2:=⟨kss[i],List.getElem?_eq_getElem (by omega)⟩
  obtain ⟨b,rfl,hb⟩:=tt i x k2 hx hk2;obtain ⟨u,hu1,hu2⟩:=JdS rv hx;rw [hv] at hu1;cases hu1;cases (show v=.ref b from hu2);exact ⟨k2,b,hk2,rfl,JnV I hb⟩
 have same:∀ {k2:List JP} {b:Addr},HS.TK X.prog X.w s.heap k2 b→decide (k2=ks)=decide (HS.TK X.prog X.w s.heap ks b):=fun {k2 b} hb=>by
  refine decide_eq_decide.mpr ⟨fun e=>e ▸ hb,fun h=>IsTupleKey.inj hb h⟩
 refine SeqAt.notIn_listAt e pl.isList (fun w hw=>?_) ⟨.bl _,H,I,rfl,?_⟩
 ·obtain ⟨i,hi⟩:=List.mem_iff_getElem?.mp (show w∈its by simpa using hw);obtain ⟨k2,b,_,rfl,hb⟩:=at_ i w hi;have z:=Jt7 (A:=X.A.in1) hu hb hk;rw [same hb] at z;exact z
 ·have e2:its.toArray.any e=decide (ks∈kss):=by
   rw [show its.toArray.any e=its.any e by simp,Bool.eq_iff_iff,List.any_eq_true,decide_eq_true_eq];constructor
   ·rintro ⟨w,hw,he⟩;obtain ⟨i,hi⟩:=List.mem_iff_getElem?.mp hw;obtain ⟨k2,b,h2,rfl,hb⟩:=at_ i w hi;have he':decide (HS.TK X.prog X.w s.heap ks b)=true:=he;rw [← same hb] at he';rw [← of_decide_eq_true he'];exact List.mem_of_getElem? h2
   ·intro hin;obtain ⟨i,hi⟩:=List.mem_iff_getElem?.mp hin;have hlt:=(List.getElem?_eq_some_iff.mp hi).1;obtain ⟨k2,b,h2,h3,hb⟩:=at_ i its[i] (List.getElem?_eq_getElem (by omega));rw [hi] at h2;cases h2;refine ⟨its[i],List.getElem_mem _,?_⟩;rw [h3];exact decide_eq_true hb
  rw [e2];exact q
def Js7 (K:PySem.W.Frag):R2:=fun x y H Q=>∃ a l vs,x=.ref a∧y=.ref l∧Jp K H a vs∧Jp K H l []∧Q (.bl vs.isEmpty) H
theorem Jef (hu:X.A.units < cLine):Z7 X (compareOp .Eq) (Js7 X.K):=by
 intro pins s σ H x y v u Q I rx ry h;obtain ⟨a,l,vs,rfl,rfl,ha,hl,q⟩:=h;cases rx;cases ry;obtain ⟨its,rv,pl,_⟩:=I.list ha;obtain ⟨its2,rv2,pl2,_⟩:=I.list hl;cases rv2;have rlen:=rv.length;cases vs with
 | nil =>
  cases rv;refine SeqAt.eq_listAt (e:=fun _=>true) pl.isList pl2.isList rfl hu (fun j h1 h2=>absurd h1 (Nat.not_lt_zero _)) ⟨.bl _,H,I,rfl,q⟩
 | cons v r=>exact SeqAt.eq_list_lengthsAt pl.isList pl2.isList (by rw [List.size_toArray,← rlen]; rfl) hu ⟨.bl _,H,I,rfl,q⟩
end
section
variable {tc:TT} {te:TE} {σc:St} {D:Addr} {H1:Hp} {Q:Hp→Prop} {K:PySem.W.Frag}
theorem Jjy {a:Addr} {xs:List V} (Pv:Nat→List V→Hp→Prop) (h00:σc[0]?=some none) (h01:σc[1]?=some none) (hq:∀ i ys H,Pv i ys H→Jp K H a xs) (h0:Pv 0 [] (upd H1 D (.lst []))) (hl:∀ i ys H,Pv i ys H→H D=some (.lst ys))
  (hs:∀ i x ys H,xs[i]?=some x→Pv i ys H→∃ b u v,x=.ref b∧JX K H b [u,v]∧tc ((σc.set 0 (some u)).set 1 (some v)) H fun c H3=>if c=true then te ((σc.set 0 (some u)).set 1 (some v)) H3 fun v' H4=>H4 D=some (.lst ys)∧ys.length < sizeLine∧Pv (i + 1) (ys ++ [v']) (upd H4 D (.lst (ys ++ [v']))) else Pv (i + 1) ys H3)
  (hd:∀ ys H,Pv xs.length ys H→Q H):JcR (Itl K a) (Jor K 2 (Jos (JaD 0) (Jos (JaD 1) Jtv))) tc te σc D H1 Q:=by
 refine ⟨fun i m ys H=>m=xs.length - i∧i≤xs.length∧Pv i ys H,⟨xs.length,by simp,Nat.zero_le _,h0⟩,?_⟩;rintro i m ys H ⟨rfl,hi,p⟩;refine ⟨hl _ _ _ p,?_⟩;by_cases hlt:i < xs.length
 ·refine .inr ⟨⟨xs,xs[i],hq _ _ _ p,by simp [hlt]⟩,Pv (i + 1),fun zs H' p'=>⟨xs.length - (i + 1),by omega,rfl,hlt,p'⟩,fun x H' y=>?_⟩;obtain ⟨e,y⟩:=y;subst e;have hx:=y xs (hq _ _ _ p);obtain ⟨b,u,v,rfl,hb,z⟩:=hs i x ys _ hx p;exact ⟨b,[u,v],rfl,hb,rfl,u,[v],rfl,v,[],rfl,rfl,((Je7.refl σc).set h00).set h01,z⟩
 ·have e:i=xs.length:=by omega
  subst e;exact .inl ⟨⟨xs,hq _ _ _ p,Nat.le_refl _⟩,hd _ _ p⟩
end
end L2
namespace L2
open PySem PySem.Spec PyProof.Rows
structure Md (K:PySem.W.Frag) (C:Addr) (x qual:Str) (st:Stmt) (ps:List Str) (f:Addr) (fd:FuncData):Prop where
 F:Fun K x qual st f fd
 b:Jci K fd ps []
 m:Jro K C x f
theorem JdM {X:Cx}:Jas (Zf X.prog X.w) X E0:=fun pins σ H s e s' I h=>by
 obtain ⟨ea,C,B,H2,_,_,_,_,q⟩:=h;exact q.elim
section
variable {tc:TT} {te:TE} {σc:St} {D:Addr} {H1:Hp} {Q:Hp→Prop} {K:PySem.W.Frag}
theorem JiL {a:Addr} {xs:List V} (Pv:Nat→List V→Hp→Prop) (h00:σc[0]?=some none) (hq:∀ i ys H,Pv i ys H→JX K H a xs) (h0:Pv 0 [] (upd H1 D (.lst []))) (hl:∀ i ys H,Pv i ys H→H D=some (.lst ys))
  (hs:∀ i x ys H,xs[i]?=some x→Pv i ys H→tc (σc.set 0 (some x)) H fun b H3=>if b=true then te (σc.set 0 (some x)) H3 fun v H4=>H4 D=some (.lst ys)∧ys.length < sizeLine∧Pv (i + 1) (ys ++ [v]) (upd H4 D (.lst (ys ++ [v]))) else Pv (i + 1) ys H3)
  (hd:∀ ys H,Pv xs.length ys H→Q H):JcR (Itt K a) (JaD 0) tc te σc D H1 Q :=
 JhN (n:=xs.length) (X1:=fun i x=>xs[i]?=some x) Pv h00 (fun i H hi ⟨ys,p⟩=>⟨⟨xs,xs[i],hq _ _ _ p,by simp [hi]⟩,fun x H' y=>⟨y.1,y.2 xs (hq _ _ _ p)⟩⟩) (fun H ⟨ys,p⟩=>⟨xs,hq _ _ _ p,Nat.le_refl _⟩) h0 hl (fun i x ys H _ hx p=>hs i x ys H hx p) hd
end
theorem JiY {α:Type} {R:α→α→Prop} (anti:∀ a b,R a b→R b a→a=b):∀ {l r:List α},l.Perm r→l.Pairwise R→r.Pairwise R→l=r
 | [],r,p,_,_=>(p.symm.eq_nil).symm
 | x :: l,[],p,_,_=>absurd p.eq_nil (by simp)
 | x :: l,y :: r,p,h1,h2=>by
  have hx:=List.pairwise_cons.mp h1;have hy:=List.pairwise_cons.mp h2;have e:x=y:=by
   have m1:x∈y :: r:=p.mem_iff.mp (List.mem_cons_self ..);have m2:y∈x :: l:=p.mem_iff.mpr (List.mem_cons_self ..);rcases List.mem_cons.mp m1 with q | q
   ·exact q
   ·rcases List.mem_cons.mp m2 with q' | q'
    ·exact q'.symm
    ·exact anti _ _ (hx.1 _ q') (hy.1 _ q)
  subst e;rw [JiY anti (List.perm_cons _ |>.mp p) hx.2 hy.2]
end L2
namespace L2
open PySem PySem.Spec PyProof.Rows
section
variable {X:Cx}
theorem JnB {ns:List Int} {us:List Value} (r:JI (ns.map V.int) us):∃ xs:Array (Int×Tok),us.toArray=intItems xs∧ns=xs.toList.map (·.1):=by
 induction ns generalizing us with
 | nil=>cases r; exact ⟨#[],by simp [intItems],rfl⟩
 | cons n ns ih =>
  cases r with
  | cons r1 r2 =>
   obtain ⟨t,rfl⟩:=r1;obtain ⟨xs,h1,h2⟩:=ih r2;refine ⟨((n,t) :: xs.toList).toArray,?_,by rw [h2]; rfl⟩;have e:∀ {a b:List Value},a.toArray=b.toArray→a=b:=fun h=>by simpa using h
   unfold intItems at h1 ⊢;rw [List.map_toArray];have h3:=congrArg Array.toList h1;rw [Array.toList_map] at h3;simp only [List.map_cons];rw [← h3]
def Jt0 (K:PySem.W.Frag):List V→Hp→VK→Prop:=fun xs H Q=>∃ (l:Addr) (ns:List Int),xs=[.ref l]∧Jp K H l (ns.map V.int)∧0 < ns.length∧∀ M,M∈ns→(∀ a∈ns,a≤M)→Q (.int M) H
def JtZ (K:PySem.W.Frag):List V→Hp→VK→Prop:=fun xs H Q=>∃ (l:Addr) (ns:List Int),xs=[.ref l]∧Jp K H l (ns.map V.int)∧0 < ns.length∧∀ M,M∈ns→(∀ a∈ns,M≤a)→Q (.int M) H
theorem JpS (hc:X.calm=true):Yv X (.builtin "max") (Jt0 X.K):=by
 intro pins s σ H xs us Q I r h;obtain ⟨l,ns,rfl,hl,hne,q⟩:=h;obtain ⟨u,rfl,ru⟩:=JI.one r;cases ru;obtain ⟨its,rv,pl,_⟩:=I.list hl;obtain ⟨zs,e,rfl⟩:=JnB rv;have hsz:0 < zs.size:=by rw [List.length_map,Array.length_toList] at hne; exact hne
 have hl':=pl.isList;rw [e] at hl';refine max_intList (I.ok.hd hc) hl' hsz fun v h' tk hv hk=>?_
 obtain ⟨t,rfl⟩:=intItems_at hv;obtain ⟨h1,h2⟩:=argBest_gt (numAt zs) (zs.size - 1);refine ⟨.int (numAt zs _),H,I.kept hk,⟨_,rfl⟩,q _ ?_ fun a ha=>?_⟩
 ·rw [numAt_eq]; exact getD_mem (by rw [List.length_map,Array.length_toList]; omega)
 ·obtain ⟨j,hj,rfl⟩:=mem_getD ha;rw [List.length_map,Array.length_toList] at hj;rw [← numAt_eq]; exact h2 j (by omega)
theorem JpR (hc:X.calm=true):Yv X (.builtin "min") (JtZ X.K):=by
 intro pins s σ H xs us Q I r h;obtain ⟨l,ns,rfl,hl,hne,q⟩:=h;obtain ⟨u,rfl,ru⟩:=JI.one r;cases ru;obtain ⟨its,rv,pl,_⟩:=I.list hl;obtain ⟨zs,e,rfl⟩:=JnB rv;have hsz:0 < zs.size:=by rw [List.length_map,Array.length_toList] at hne; exact hne
 have hl':=pl.isList;rw [e] at hl';refine min_intList (I.ok.hd hc) hl' hsz fun v h' tk hv hk=>?_
 obtain ⟨t,rfl⟩:=intItems_at hv;obtain ⟨h1,h2⟩:=argBest_lt (numAt zs) (zs.size - 1);refine ⟨.int (numAt zs _),H,I.kept hk,⟨_,rfl⟩,q _ ?_ fun a ha=>?_⟩
 ·rw [numAt_eq]; exact getD_mem (by rw [List.length_map,Array.length_toList]; omega)
 ·obtain ⟨j,hj,rfl⟩:=mem_getD ha;rw [List.length_map,Array.length_toList] at hj;rw [← numAt_eq]; exact h2 j (by omega)
end
end L2
namespace L2
def JaQ:List Int→Int
 | []=>0
 | [a]=>a
 | a :: b :: l=>if a≤JaQ (b :: l) then JaQ (b :: l) else a
def JaP:List Int→Int
 | []=>0
 | [a]=>a
 | a :: b :: l=>if JaP (b :: l)≤a then JaP (b :: l) else a
theorem JgX:∀ {l:List Int},l≠[]→JaQ l∈l∧∀ x∈l,x≤JaQ l
 | [],h=>absurd rfl h
 | [a],_=>⟨List.mem_singleton.mpr rfl,fun x hx=>by rw [List.mem_singleton.mp hx]; exact Int.le_refl _⟩
 | a :: b :: l,_=>by
  obtain ⟨h1,h2⟩:=JgX (l:=b :: l) (by simp);show (if a≤JaQ (b :: l) then JaQ (b :: l) else a)∈_∧∀ x∈_,x≤(if a≤JaQ (b :: l) then JaQ (b :: l) else a);by_cases h:a≤JaQ (b :: l)
  ·rw [if_pos h];refine ⟨List.mem_cons_of_mem _ h1,fun x hx=>?_⟩;rcases List.mem_cons.mp hx with q | q
   ·rw [q]; exact h
   ·exact h2 x q
  ·rw [if_neg h];refine ⟨List.mem_cons_self ..,fun x hx=>?_⟩;rcases List.mem_cons.mp hx with q | q
   ·rw [q]; exact Int.le_refl _
   ·have:=h2 x q; omega
theorem JgW:∀ {l:List Int},l≠[]→JaP l∈l∧∀ x∈l,JaP l≤x
 | [],h=>absurd rfl h
 | [a],_=>⟨List.mem_singleton.mpr rfl,fun x hx=>by rw [List.mem_singleton.mp hx]; exact Int.le_refl _⟩
 | a :: b :: l,_=>by
  obtain ⟨h1,h2⟩:=JgW (l:=b :: l) (by simp);show (if JaP (b :: l)≤a then JaP (b :: l) else a)∈_∧∀ x∈_,(if JaP (b :: l)≤a then JaP (b :: l) else a)≤x;by_cases h:JaP (b :: l)≤a
  ·rw [if_pos h];refine ⟨List.mem_cons_of_mem _ h1,fun x hx=>?_⟩;rcases List.mem_cons.mp hx with q | q
   ·rw [q]; exact h
   ·exact h2 x q
  ·rw [if_neg h];refine ⟨List.mem_cons_self ..,fun x hx=>?_⟩;rcases List.mem_cons.mp hx with q | q
   ·rw [q]; exact Int.le_refl _
   ·have:=h2 x q; omega
theorem Jsr {l:List Int} {m:Int} (h1:m∈l) (h2:∀ x∈l,x≤m):m=JaQ l:=by
 have hne:l≠[]:=fun e=>by rw [e] at h1; cases h1
 obtain ⟨h3,h4⟩:=JgX hne;have:=h2 _ h3;have:=h4 _ h1;omega
theorem Jsp {l:List Int} {m:Int} (h1:m∈l) (h2:∀ x∈l,m≤x):m=JaP l:=by
 have hne:l≠[]:=fun e=>by rw [e] at h1; cases h1
 obtain ⟨h3,h4⟩:=JgW hne;have:=h2 _ h3;have:=h4 _ h1;omega
section
variable {α:Type}
def Yu (W:α→List α) (g:α→Bool) (c:Int):Nat→α→Bool→Int
 | 0,p,_=>if g p=true then 0 else c + 1
 | t + 1,p,r=>if g p=true then 0 else if (W p).isEmpty=true then c + 1 else
   if r=true then (if (JaP ((W p).map fun w=>Yu W g c t w false) + JaQ ((W p).map fun w=>Yu W g c t w true)) / 2 > JaP ((W p).map fun w=>Yu W g c t w false) then (JaP ((W p).map fun w=>Yu W g c t w false) + JaQ ((W p).map fun w=>Yu W g c t w true)) / 2 else JaP ((W p).map fun w=>Yu W g c t w false))
   else (if (JaP ((W p).map fun w=>Yu W g c t w false) + JaQ ((W p).map fun w=>Yu W g c t w true) + 1) / 2 < JaQ ((W p).map fun w=>Yu W g c t w true) then (JaP ((W p).map fun w=>Yu W g c t w false) + JaQ ((W p).map fun w=>Yu W g c t w true) + 1) / 2 else JaQ ((W p).map fun w=>Yu W g c t w true))
def ZP (W:α→List α) (g:α→Bool) (c:Int) (t:Nat) (p:α) (r:Bool):Int:=JaP ((W p).map fun w=>Yu W g c t w r)
def ZR (W:α→List α) (g:α→Bool) (c:Int) (t:Nat) (p:α) (r:Bool):Int:=JaQ ((W p).map fun w=>Yu W g c t w r)
variable {W:α→List α} {g:α→Bool} {c:Int} {t:Nat} {p:α} {r:Bool}
theorem JcW (h:g p=true):Yu W g c t p r=0:=by
 cases t with
 | zero=>show (if g p=true then 0 else c + 1)=0; rw [if_pos h]
 | succ t=>unfold Yu; rw [if_pos h]
theorem JcV (h:g p=false) (hw:W p=[]):Yu W g c t p r=c + 1:=by
 cases t with
 | zero=>show (if g p=true then 0 else c + 1)=_; rw [if_neg (by rw [h]; exact Bool.false_ne_true)]
 | succ t=>unfold Yu; rw [if_neg (by rw [h]; exact Bool.false_ne_true),if_pos (by rw [hw]; rfl)]
theorem JkS (h:g p=false):Yu W g c 0 p r=c + 1:=by
 show (if g p=true then 0 else c + 1)=_; rw [if_neg (by rw [h]; exact Bool.false_ne_true)]
theorem JkY {l:List α} (h:l≠[]):¬ (l.isEmpty=true):=fun e=>h (List.isEmpty_iff.mp e)
theorem JgU (h:g p=false) (hw:W p≠[]):Yu W g c (t + 1) p true=if (ZP W g c t p false + ZR W g c t p true) / 2 > ZP W g c t p false then (ZP W g c t p false + ZR W g c t p true) / 2 else ZP W g c t p false:=by
 unfold Yu ZP ZR; rw [if_neg (by rw [h]; exact Bool.false_ne_true),if_neg (JkY hw),if_pos rfl]
theorem JgT (h:g p=false) (hw:W p≠[]):Yu W g c (t + 1) p false=if (ZP W g c t p false + ZR W g c t p true + 1) / 2 < ZR W g c t p true then (ZP W g c t p false + ZR W g c t p true + 1) / 2 else ZR W g c t p true:=by
 unfold Yu ZP ZR; rw [if_neg (by rw [h]; exact Bool.false_ne_true),if_neg (JkY hw),if_neg Bool.false_ne_true]
theorem Jcv (hw:W p≠[]):(∃ w∈W p,ZP W g c t p r=Yu W g c t w r)∧∀ w∈W p,ZP W g c t p r≤Yu W g c t w r:=by
 have hne:(W p).map (fun w=>Yu W g c t w r)≠[]:=fun e=>hw (List.map_eq_nil_iff.mp e)
 obtain ⟨h1,h2⟩:=JgW hne;obtain ⟨w,h3,h4⟩:=List.mem_map.mp h1;exact ⟨⟨w,h3,h4.symm⟩,fun w hw=>h2 _ (List.mem_map.mpr ⟨w,hw,rfl⟩)⟩
theorem Jcx (hw:W p≠[]):(∃ w∈W p,ZR W g c t p r=Yu W g c t w r)∧∀ w∈W p,Yu W g c t w r≤ZR W g c t p r:=by
 have hne:(W p).map (fun w=>Yu W g c t w r)≠[]:=fun e=>hw (List.map_eq_nil_iff.mp e)
 obtain ⟨h1,h2⟩:=JgX hne;obtain ⟨w,h3,h4⟩:=List.mem_map.mp h1;exact ⟨⟨w,h3,h4.symm⟩,fun w hw=>h2 _ (List.mem_map.mpr ⟨w,hw,rfl⟩)⟩
theorem Ja0 (hc:0≤c):∀ (t:Nat) (p:α) (r:Bool),0≤Yu W g c t p r∧Yu W g c t p r≤c + 1
 | 0,p,r=>by
  show 0≤(if g p=true then 0 else c + 1)∧(if g p=true then 0 else c + 1)≤c + 1;split <;> omega
 | t + 1,p,r=>by
  cases hg:g p with
  | true=>rw [JcW hg]; omega
  | false =>
   by_cases hw:W p=[]
   ·rw [JcV hg hw]; omega
   ·obtain ⟨⟨w1,_,e1⟩,_⟩:=Jcv (W:=W) (g:=g) (c:=c) (t:=t) (p:=p) (r:=false) hw;obtain ⟨⟨w2,_,e2⟩,_⟩:=Jcx (W:=W) (g:=g) (c:=c) (t:=t) (p:=p) (r:=true) hw;have b1:=Ja0 hc t w1 false;have b2:=Ja0 hc t w2 true;rw [← e1] at b1;rw [← e2] at b2;cases r with
    | true=>rw [JgU hg hw]; split <;> omega
    | false=>rw [JgT hg hw]; split <;> omega
theorem Jpr (hc:0≤c) (hw:W p≠[]):0≤ZP W g c t p r∧ZP W g c t p r≤c + 1:=by
 obtain ⟨⟨w,_,e⟩,_⟩:=Jcv (W:=W) (g:=g) (c:=c) (t:=t) (r:=r) hw;rw [e]; exact Ja0 hc _ _ _
theorem JpC (hc:0≤c) (hw:W p≠[]):0≤ZR W g c t p r∧ZR W g c t p r≤c + 1:=by
 obtain ⟨⟨w,_,e⟩,_⟩:=Jcx (W:=W) (g:=g) (c:=c) (t:=t) (r:=r) hw;rw [e]; exact Ja0 hc _ _ _
theorem JgD:∀ (t:Nat) (p:α),Yu W g c t p true≤Yu W g c t p false + 1∧Yu W g c t p false≤Yu W g c t p true + 1
 | 0,p=>by
  show (if g p=true then 0 else c + 1)≤(if g p=true then 0 else c + 1) + 1∧_;exact ⟨by omega,by show (if g p=true then 0 else c + 1)≤(if g p=true then 0 else c + 1) + 1; omega⟩
 | t + 1,p=>by
  cases hg:g p with
  | true=>rw [JcW hg,JcW hg]; omega
  | false =>
   by_cases hw:W p=[]
   ·rw [JcV hg hw,JcV hg hw]; omega
   ·obtain ⟨⟨w1,m1,e1⟩,_⟩:=Jcv (W:=W) (g:=g) (c:=c) (t:=t) (p:=p) (r:=false) hw;obtain ⟨_,l2⟩:=Jcx (W:=W) (g:=g) (c:=c) (t:=t) (p:=p) (r:=true) hw;have b1:=JgD t w1;have b2:=l2 w1 m1;rw [← e1] at b1;rw [JgU hg hw,JgT hg hw];constructor <;> split <;> split <;> omega
theorem Jtm (hw:W p≠[]):ZP W g c t p true≤ZP W g c t p false + 1∧ZP W g c t p false≤ZP W g c t p true + 1:=by
 obtain ⟨⟨w1,m1,e1⟩,l1⟩:=Jcv (W:=W) (g:=g) (c:=c) (t:=t) (r:=true) hw;obtain ⟨⟨w2,m2,e2⟩,l2⟩:=Jcv (W:=W) (g:=g) (c:=c) (t:=t) (r:=false) hw;have:=JgD (W:=W) (g:=g) (c:=c) t w1;have:=JgD (W:=W) (g:=g) (c:=c) t w2;have:=l1 w2 m2;have:=l2 w1 m1;omega
theorem Jtu (hw:W p≠[]):ZR W g c t p true≤ZR W g c t p false + 1∧ZR W g c t p false≤ZR W g c t p true + 1:=by
 obtain ⟨⟨w1,m1,e1⟩,l1⟩:=Jcx (W:=W) (g:=g) (c:=c) (t:=t) (r:=true) hw;obtain ⟨⟨w2,m2,e2⟩,l2⟩:=Jcx (W:=W) (g:=g) (c:=c) (t:=t) (r:=false) hw;have:=JgD (W:=W) (g:=g) (c:=c) t w1;have:=JgD (W:=W) (g:=g) (c:=c) t w2;have:=l1 w2 m2;have:=l2 w1 m1;omega
def JaX (W:α→List α) (g:α→Bool) (c:Int) (t:Nat) (p:α) (k:Int) (r h:Bool):Option α:=(W p).find? fun w=>decide (Yu W g c t w r≤k) == h
theorem JlL {k:Int} (hw:W p≠[]):(JaX W g c t p k r true).isSome=decide (ZP W g c t p r≤k):=by
 obtain ⟨⟨w1,m1,e1⟩,l1⟩:=Jcv (W:=W) (g:=g) (c:=c) (t:=t) (r:=r) hw;unfold JaX;rw [Bool.eq_iff_iff,List.find?_isSome,decide_eq_true_eq];constructor
 ·rintro ⟨w,hm,he⟩;have he':Yu W g c t w r≤k:=by simpa using he
  have:=l1 w hm;omega
 ·intro h;exact ⟨w1,m1,by simp; omega⟩
theorem JlK {k:Int} (hw:W p≠[]):(JaX W g c t p k r false).isSome=decide (k < ZR W g c t p r):=by
 obtain ⟨⟨w1,m1,e1⟩,l1⟩:=Jcx (W:=W) (g:=g) (c:=c) (t:=t) (r:=r) hw;unfold JaX;rw [Bool.eq_iff_iff,List.find?_isSome,decide_eq_true_eq];constructor
 ·rintro ⟨w,hm,he⟩;have he':k < Yu W g c t w r:=by simpa using he
  have:=l1 w hm;omega
 ·intro h;exact ⟨w1,m1,by simp; omega⟩
def after (k:Int) (r:Bool) (b a:Int):Bool×Int×Bool :=
 if b > a then (!r,(if r then k + b else k - b),r) else if a > b then (r,(if r then k - a else k + a),r) else (r,(if r then k - a else k + a),!r)
def ZI (W:α→List α) (g:α→Bool) (c:Int) (t:Nat) (p:α) (k:Int) (r:Bool) (b a:Int):Bool :=
 (JaX W g c t p (after k r b a).2.1 (after k r b a).2.2 (after k r b a).1).isSome == ((after k r b a).1 == r)
theorem JiV {k b a:Int} (hw:W p≠[]):ZI W g c t p k true b a=if b > a then decide (ZR W g c t p true≤k + b) else if a > b then decide (ZP W g c t p true≤k - a) else decide (ZP W g c t p false≤k - a):=by
 unfold ZI after;by_cases h1:b > a
 ·rw [if_pos h1,if_pos h1];show ((JaX W g c t p (k + b) true false).isSome == false)=_;rw [JlK hw];by_cases h:k + b < ZR W g c t p true
  ·rw [decide_eq_true h,decide_eq_false (by omega)]; rfl
  ·rw [decide_eq_false h,decide_eq_true (by omega)]; rfl
 ·rw [if_neg h1,if_neg h1];by_cases h2:a > b
  ·rw [if_pos h2,if_pos h2];show ((JaX W g c t p (k - a) true true).isSome == true)=_;rw [JlL hw]; simp
  ·rw [if_neg h2,if_neg h2];show ((JaX W g c t p (k - a) false true).isSome == true)=_;rw [JlL hw]; simp
theorem JiU {k b a:Int} (hw:W p≠[]):ZI W g c t p k false b a=if b > a then decide (k - b < ZP W g c t p false) else if a > b then decide (k + a < ZR W g c t p false) else decide (k + a < ZR W g c t p true):=by
 unfold ZI after;by_cases h1:b > a
 ·rw [if_pos h1,if_pos h1];show ((JaX W g c t p (k - b) false true).isSome == false)=_;rw [JlL hw];by_cases h:ZP W g c t p false≤k - b
  ·rw [decide_eq_true h,decide_eq_false (by omega)]; rfl
  ·rw [decide_eq_false h,decide_eq_true (by omega)]; rfl
 ·rw [if_neg h1,if_neg h1];by_cases h2:a > b
  ·rw [if_pos h2,if_pos h2];show ((JaX W g c t p (k + a) false false).isSome == true)=_;rw [JlK hw]; simp
  ·rw [if_neg h2,if_neg h2];show ((JaX W g c t p (k + a) true false).isSome == true)=_;rw [JlK hw]; simp
def own (c k:Int) (r:Bool):Int:=if r then k else c - k
def JcI (W:α→List α) (g:α→Bool) (c:Int) (t:Nat) (p:α) (k:Int) (r:Bool) (b:Int):Option Int :=
 if ZI W g c t p k r b 0=true then some 0 else if b≤own c k r∧ZI W g c t p k r b b=true then some b else none
theorem JjD {k b a:Int} (hw:W p≠[]) (hb:0≤b) (ha:0≤a) (ha2:a≤own c k r) (h:ZI W g c t p k r b a=true):∃ a',JcI W g c t p k r b=some a'∧a'≤a:=by
 have r1:=Jtm (W:=W) (g:=g) (c:=c) (t:=t) hw;have r2:=Jtu (W:=W) (g:=g) (c:=c) (t:=t) hw;unfold JcI;by_cases h0:ZI W g c t p k r b 0=true
 ·exact ⟨0,by rw [if_pos h0],ha⟩
 ·rw [if_neg h0];have hab:¬ b > a:=fun hlt=>by
   apply h0;cases r with
   | true=>rw [JiV hw] at h ⊢; rw [if_pos hlt] at h; rw [if_pos (by omega)]; exact h
   | false=>rw [JiU hw] at h ⊢; rw [if_pos hlt] at h; rw [if_pos (by omega)]; exact h
  suffices hwin:ZI W g c t p k r b b=true from ⟨b,if_pos ⟨by omega,hwin⟩,by omega⟩
  cases r with
  | true =>
   rw [JiV hw] at h ⊢;rw [if_neg hab] at h;rw [if_neg (by omega),if_neg (by omega),decide_eq_true_eq];by_cases h2:a > b
   ·rw [if_pos h2,decide_eq_true_eq] at h; omega
   ·rw [if_neg h2,decide_eq_true_eq] at h; omega
  | false =>
   rw [JiU hw] at h ⊢;rw [if_neg hab] at h;rw [if_neg (by omega),if_neg (by omega),decide_eq_true_eq];by_cases h2:a > b
   ·rw [if_pos h2,decide_eq_true_eq] at h; omega
   ·rw [if_neg h2,decide_eq_true_eq] at h; omega
theorem Jp1 {k b a:Int} (hb:0≤b) (ho:0≤own c k r) (h:JcI W g c t p k r b=some a):0≤a∧a≤own c k r∧ZI W g c t p k r b a=true∧(a=0∨a=b):=by
 unfold JcI at h;by_cases h0:ZI W g c t p k r b 0=true
 ·rw [if_pos h0] at h; cases h; exact ⟨Int.le_refl _,ho,h0,.inl rfl⟩
 ·rw [if_neg h0] at h;by_cases h1:b≤own c k r∧ZI W g c t p k r b b=true
  ·rw [if_pos h1] at h; cases h; exact ⟨hb,h1.1,h1.2,.inr rfl⟩
  ·rw [if_neg h1] at h; cases h
def JcH (W:α→List α) (g:α→Bool) (c:Int) (t:Nat) (p:α) (k:Int) (r:Bool):Int :=
 if r then (if k - ZP W g c t p false + 1 > 0 then k - ZP W g c t p false + 1 else 0) else (if ZR W g c t p true - k > 0 then ZR W g c t p true - k else 0)
theorem Jp0 {k b:Int}:JcI W g c t p k r b=none↔¬ ZI W g c t p k r b 0=true∧¬ (b≤own c k r∧ZI W g c t p k r b b=true):=by
 unfold JcI;by_cases h0:ZI W g c t p k r b 0=true
 ·rw [if_pos h0]; exact ⟨fun h=>(nomatch h),fun h=>absurd h0 h.1⟩
 ·rw [if_neg h0];by_cases h1:b≤own c k r∧ZI W g c t p k r b b=true
  ·rw [if_pos h1]; exact ⟨fun h=>(nomatch h),fun h=>absurd h1 h.2⟩
  ·rw [if_neg h1]; exact ⟨fun _=>⟨h0,h1⟩,fun _=>rfl⟩
theorem Jje {k b:Int} (hw:W p≠[]) (hb:0≤b) (ho:0≤own c k r):JcI W g c t p k r b=none ↔
  (if r then (0 < b→k + b < ZR W g c t p true)∧(b≤k→k - b < ZP W g c t p false) else (0 < b→ZP W g c t p false≤k - b)∧(b≤c - k→ZR W g c t p true≤k + b)):=by
 rw [Jp0];cases r with
 | true =>
  have ho':0≤k:=ho;have e:own c k true=k:=rfl;rw [if_pos rfl,JiV hw,JiV hw,if_neg (show ¬ b > b by omega),if_neg (show ¬ b > b by omega),decide_eq_true_eq,e];by_cases hb0:b > 0
  ·rw [if_pos hb0,decide_eq_true_eq];constructor
   ·intro ⟨h1,h2⟩; exact ⟨fun _=>by omega,fun z=>Int.not_le.mp fun y=>h2 ⟨z,y⟩⟩
   ·intro ⟨h1,h2⟩; exact ⟨by have:=h1 hb0; omega,fun z=>by have:=h2 z.1; have:=z.2; omega⟩
  ·have e0:b=0:=by omega
   subst e0;rw [if_neg (show ¬ (0:Int) > 0 by omega),if_neg (show ¬ (0:Int) > 0 by omega),decide_eq_true_eq];constructor
   ·intro ⟨h1,h2⟩; exact ⟨fun _=>by omega,fun z=>by omega⟩
   ·intro ⟨h1,h2⟩; have:=h2 ho'; exact ⟨by omega,fun z=>by omega⟩
 | false =>
  have ho':0≤c - k:=ho;have e:own c k false=c - k:=rfl;rw [if_neg Bool.false_ne_true,JiU hw,JiU hw,if_neg (show ¬ b > b by omega),if_neg (show ¬ b > b by omega),decide_eq_true_eq,e];by_cases hb0:b > 0
  ·rw [if_pos hb0,decide_eq_true_eq];constructor
   ·intro ⟨h1,h2⟩; exact ⟨fun _=>by omega,fun z=>Int.not_lt.mp fun y=>h2 ⟨z,y⟩⟩
   ·intro ⟨h1,h2⟩; exact ⟨by have:=h1 hb0; omega,fun z=>by have:=h2 z.1; have:=z.2; omega⟩
  ·have e0:b=0:=by omega
   subst e0;rw [if_neg (show ¬ (0:Int) > 0 by omega),if_neg (show ¬ (0:Int) > 0 by omega),decide_eq_true_eq];constructor
   ·intro ⟨h1,h2⟩; exact ⟨fun _=>by omega,fun z=>by omega⟩
   ·intro ⟨h1,h2⟩; have:=h2 ho'; exact ⟨by omega,fun z=>by omega⟩
theorem Jrh {k:Int} (hg:g p=false) (hw:W p≠[]) (hc:0≤c) (hk:0≤k) (hk2:k≤c) (h:decide (Yu W g c (t + 1) p r≤k)=!r) :
  0≤JcH W g c t p k r∧JcH W g c t p k r≤own c k (!r)∧JcI W g c t p k r (JcH W g c t p k r)=none:=by
 have b1:=Jpr (W:=W) (g:=g) (c:=c) (t:=t) (r:=false) hc hw;have b2:=JpC (W:=W) (g:=g) (c:=c) (t:=t) (r:=true) hc hw;cases r with
 | true =>
  have h':¬ Yu W g c (t + 1) p true≤k:=of_decide_eq_false h;rw [JgU hg hw] at h';have e:JcH W g c t p k true=if k - ZP W g c t p false + 1 > 0 then k - ZP W g c t p false + 1 else 0:=by unfold JcH; rw [if_pos rfl]
  rw [e];have e2:own c k (!true)=c - k:=rfl;rw [e2];have e3:own c k true=k:=rfl;refine ⟨by split <;> omega,?_,?_⟩
  ·split at h' <;> split <;> omega
  ·rw [Jje hw (by split <;> omega) (by rw [e3]; exact hk),if_pos rfl];split at h' <;> split <;> constructor <;> intro _ <;> omega
 | false =>
  have h':Yu W g c (t + 1) p false≤k:=of_decide_eq_true h;rw [JgT hg hw] at h';have e:JcH W g c t p k false=if ZR W g c t p true - k > 0 then ZR W g c t p true - k else 0:=by unfold JcH; rw [if_neg Bool.false_ne_true]
  rw [e];have e2:own c k (!false)=k:=rfl;rw [e2];have e3:own c k false=c - k:=rfl;refine ⟨by split <;> omega,?_,?_⟩
  ·split at h' <;> split <;> omega
  ·rw [Jje hw (by split <;> omega) (by rw [e3]; omega),if_neg Bool.false_ne_true];split at h' <;> split <;> constructor <;> intro _ <;> omega
theorem JpY {k b:Int} (hg:g p=false) (hw:W p≠[]) (hc:0≤c) (hk:0≤k) (hk2:k≤c) (hb:0≤b) (hb2:b≤own c k (!r)) (h:JcI W g c t p k r b=none) :
  decide (Yu W g c (t + 1) p r≤k)=(!r)∧JcH W g c t p k r≤b:=by
 have b1:=Jpr (W:=W) (g:=g) (c:=c) (t:=t) (r:=false) hc hw;have b2:=JpC (W:=W) (g:=g) (c:=c) (t:=t) (r:=true) hc hw;cases r with
 | true =>
  have e3:own c k true=k:=rfl;have e2:own c k (!true)=c - k:=rfl;rw [Jje hw hb (by rw [e3]; exact hk),if_pos rfl] at h;have e:JcH W g c t p k true=if k - ZP W g c t p false + 1 > 0 then k - ZP W g c t p false + 1 else 0:=by unfold JcH; rw [if_pos rfl]
  rw [e];rw [e2] at hb2;obtain ⟨h1,h2⟩:=h;have key:k - ZP W g c t p false + 1≤b:=by
   by_cases z:b≤k
   ·have:=h2 z; omega
   ·omega
  refine ⟨decide_eq_false ?_,by split <;> omega⟩;rw [JgU hg hw];by_cases hb0:0 < b
  ·have:=h1 hb0;split <;> omega
  ·have e0:b=0:=by omega
   split <;> omega
 | false =>
  have e3:own c k false=c - k:=rfl;have e2:own c k (!false)=k:=rfl;rw [Jje hw hb (by rw [e3]; omega),if_neg Bool.false_ne_true] at h;have e:JcH W g c t p k false=if ZR W g c t p true - k > 0 then ZR W g c t p true - k else 0:=by unfold JcH; rw [if_neg Bool.false_ne_true]
  rw [e];rw [e2] at hb2;obtain ⟨h1,h2⟩:=h;have key:ZR W g c t p true - k≤b:=by
   by_cases z:b≤c - k
   ·have:=h2 z; omega
   ·omega
  refine ⟨decide_eq_true ?_,by split <;> omega⟩;rw [JgT hg hw];by_cases hb0:0 < b
  ·have:=h1 hb0;split <;> omega
  ·have e0:b=0:=by omega
   split <;> omega
end
end L2
namespace L2
open PySem PySem.Spec PyProof.Rows
theorem Jj {K:PySem.W.Frag} {f:Addr} {x q:Str} {st:Stmt} (h:J3 K f q=J5 x q st):Fun K x q st f (JK K f):=by
 obtain ⟨oc,od,kV,doc,pm,an,cdv,ct,osl,h1,h2,h3,h4⟩:=Jpl h;exact ⟨⟨oc,od,kV,doc,pm,an,cdv,ct,osl,h1,h2,h3⟩,h4⟩
theorem J1 {K:PySem.W.Frag} {f:Addr} {x q:Str} {st:Stmt} (h:J3 K f q=J5 x q st):PySem.W.keepIn K (.ref f)=true:=(Jj h).kp
def Joj:Sum Int Str→V
 | .inl i=>.int i
 | .inr x=>.str x
theorem JpG {v:Value} {x:Sum Int Str} (h:Jf3 v=some x):JR (Joj x) v:=by
 unfold Jf3 at h;split at h
 ·cases h; exact ⟨_,rfl⟩
 ·cases h; exact ⟨_,rfl⟩
 ·cases h
theorem Jjq:∀ {us:List Value} {xs:List (Sum Int Str)},us.map Jf3=xs.map some→JI (xs.map Joj) us
 | [],[],_=>.nil
 | u :: us,x :: xs,h=>by
  rw [List.map_cons,List.map_cons,List.cons.injEq] at h;exact .cons (JpG h.1) (Jjq h.2)
 | [],_ :: _,h=>by cases h
 | _ :: _,[],h=>by cases h
theorem Jtj {K:PySem.W.Frag} {n:Str} {xs:List (Sum Int Str)} (h:obT K n=some (true,xs.map some)) (H:Hp):JX K H (Jg K n) (xs.map Joj):=by
 unfold obT at h;split at h
 ·rename_i its m sl e;have h:=Option.some.inj h;have h1:decide (its.size≤1000)=true:=congrArg Prod.fst h;have h2:its.toList.map Jf3=xs.map some:=congrArg Prod.snd h;exact .inr ⟨_,its,m,e,rfl,rfl,Nat.le_trans (of_decide_eq_true h1) (by decide),Jjq h2⟩
 ·cases h
theorem mgV {K:PySem.W.Frag} {h:Heap} {mg:Str→Option Value} {n:Str} {i:Int} (X:K.In h) (G:h.Ns mainGlobals mg) (e:obV K n=some (.inl i)):∃ u,mg n=some u∧JR (.int i) u:=by
 obtain ⟨t,z⟩:=Jsm e;exact ⟨_,PySem.W.mg_of X G z,⟨_,rfl⟩⟩
theorem Jp9 {l:PySem.W.OpenLaw} {n k:Nat} {q:Program} {loose:List Str} {XP:(Str→Option Value)→Heap→Prop} {YP:World→Heap→Prop} {d:DefRec} {C:PySem.W.Frag→Prop} {CX:CXT} {sp:PySem.W.Frag→Sp} {x:Str}
  (hn:l.most=some n) (hn2:n≤sizeLine) (hdf:d.params.defaults=[]) (hr:Y1 k callerA)
  (hY:∀ (w:World) (h:Heap),YP w h→∃ K:PySem.W.Frag,K.In h∧C K)
  (F:∀ (w:World) (K:PySem.W.Frag) (mg:Str→Option Value) (fa:Addr) (h:Heap),C K→K.In h→h.Ns mainGlobals mg→mg d.name=some (.ref fa) →
   ∃ fd:FuncData,(∀ (s:Shared) (u:Value),BindsTo s fd ⟨[u],[]⟩ [(x,u)]) ∧
    ∀ base:Heap,K.In base→base.Ns mainGlobals mg→JL l.prog w K mg base CX k fa fd [x] (sp K))
  (hsp:∀ (K:PySem.W.Frag) (H:Hp) (a:Addr) (ns:List Int),ns.length≤n→Jrn H→Jp K H a (ns.map V.int)→sp K [.ref a] H (fun v _=>v=.bl true) fun _ _ _=>False)
  (hCX:∀ (H:Hp) (s:Shared) (e:Value) (s':Shared),CX [] H s (fun _ _ _=>False) e s'→False) :
  PySem.W.WalkO q loose XP YP l.row.toRowW d [] (fun f vs=>PySem.call f vs):=by
 refine Att.Jng hn hdf fun w s₀ s₁ mg mb fa o pm cd doc a vs ns G Y ho hd hcd hmg hobj hints hlen hg=>?_
 obtain ⟨K,KX,hC⟩:=hY w _ Y;obtain ⟨fd,hb,hF⟩:=F w K mg fa _ hC KX G.T.g hmg;exact Jq2 KX G.T.g G.T.b G.T.builtins G.T.nolimit hg hobj hints (Nat.le_trans hlen hn2) hr hF hb (fun H hO hS=>hsp K H a ns hlen hO hS) fun H e s'=>hCX H s₁ e s'
end L2
namespace L2
open PySem PySem.Spec PyProof.Rows
def Js6 (K:PySem.W.Frag):R2:=fun x y H Q=>∃ a l vs,x=.ref a∧y=.ref l∧Jp K H a vs∧Jp K H l []∧Q (.bl (!vs.isEmpty)) H
theorem JqO {X:Cx} (hu:X.A.units < cLine):Z7 X (compareOp .NotEq) (Js6 X.K):=by
 intro pins s σ H x y v u Q I rx ry h;obtain ⟨a,l,vs,rfl,rfl,ha,hl,q⟩:=h;cases rx;cases ry;obtain ⟨its,rv,pl,_⟩:=I.list ha;obtain ⟨its2,rv2,pl2,_⟩:=I.list hl;cases rv2;have rlen:=rv.length;cases vs with
 | nil =>
  cases rv;have z:=SeqAt.RcNeAt.lists (A:=X.A) (e:=fun _=>true) pl.isList pl2.isList rfl hu (fun j h1 h2=>absurd h1 (Nat.not_lt_zero _)) X.prog X.w X.xe (EP X pins σ Q);exact z ⟨.bl _,H,I,rfl,q⟩
 | cons v r =>
  have z:=SeqAt.RcNeAt.lists_lengths (A:=X.A) pl.isList pl2.isList (by rw [List.size_toArray,← rlen]; rfl) hu X.prog X.w X.xe (EP X pins σ Q);exact z ⟨.bl _,H,I,rfl,q⟩
end L2
set_option maxHeartbeats 1600000
namespace Pf
open PySem L2
theorem JlR:JC ["text"] ["text"] (Jm JcM):=⟨rfl,rfl,rfl,by decide +kernel,rfl,by decide +kernel,by decide +kernel⟩
theorem Jlf:JC ["hand"] ["hand"] (Jm Jd4):=⟨rfl,rfl,rfl,by decide +kernel,rfl,by decide +kernel,by decide +kernel⟩
theorem JjV:JC ["number", "most"] ["number", "most"] (Jm Jdd):=⟨rfl,rfl,rfl,by decide +kernel,rfl,by decide +kernel,by decide +kernel⟩
theorem JjW:JC ["north", "south"] ["north", "south"] (Jm Jdg):=⟨rfl,rfl,rfl,by decide +kernel,rfl,by decide +kernel,by decide +kernel⟩
theorem JhU:JC ["board", "place", "turns", "north", "south", "ribbon"] ["board", "place", "turns", "north", "south", "ribbon"] (Jm Jbr):=⟨rfl,rfl,rfl,by decide +kernel,rfl,by decide +kernel,by decide +kernel⟩
theorem JqF:JC ["board", "place", "turns"] ["board", "place", "turns"] (Jm Jj4):=⟨rfl,rfl,rfl,by decide +kernel,rfl,by decide +kernel,by decide +kernel⟩
theorem Jgx:JC ["self", "board", "coins", "turns", "left"] ["self", "board", "coins", "turns"] (Jm Jfd):=⟨rfl,rfl,rfl,by decide +kernel,rfl,by decide +kernel,by decide +kernel⟩
theorem Z2:JC ["self", "turns", "row", "place", "ribbon"] ["self", "turns"] (Jm Ja9):=⟨rfl,rfl,rfl,by decide +kernel,rfl,by decide +kernel,by decide +kernel⟩
theorem Jaz:JC ["self", "place", "turns", "ribbon", "victor", "leading", "led"] ["self", "place", "turns", "ribbon"] (Jm Jcr):=⟨rfl,rfl,rfl,by decide +kernel,rfl,by decide +kernel,by decide +kernel⟩
theorem Z4:JC ["self", "place", "turns", "behind"] ["self", "place", "turns"] (Jm YO):=⟨rfl,rfl,rfl,by decide +kernel,rfl,by decide +kernel,by decide +kernel⟩
theorem Z3:JC ["self", "place", "turns", "behind"] ["self", "place", "turns"] (Jm YN):=⟨rfl,rfl,rfl,by decide +kernel,rfl,by decide +kernel,by decide +kernel⟩
theorem Jgr:JC ["self", "place", "turns", "north", "ribbon"] ["self", "place", "turns", "north", "ribbon"] (Jm JaM):=⟨rfl,rfl,rfl,by decide +kernel,rfl,by decide +kernel,by decide +kernel⟩
theorem JjY:JC ["self", "place", "turns", "north", "ribbon"] ["self", "place", "turns", "north", "ribbon"] (Jm Jdi):=⟨rfl,rfl,rfl,by decide +kernel,rfl,by decide +kernel,by decide +kernel⟩
theorem Jf9:JC ["self", "place", "turns", "ribbon", "need"] ["self", "place", "turns", "ribbon"] (Jm Jd7):=⟨rfl,rfl,rfl,by decide +kernel,rfl,by decide +kernel,by decide +kernel⟩
theorem JlT:JC ["name", "kept", "most"] ["name", "kept", "most"] (Jm Jfa):=⟨rfl,rfl,rfl,by decide +kernel,rfl,by decide +kernel,by decide +kernel⟩
theorem JlS:JC ["name", "kept"] ["name", "kept"] (Jm Je9):=⟨rfl,rfl,rfl,by decide +kernel,rfl,by decide +kernel,by decide +kernel⟩
theorem JlV:JC ["self"] ["self"] (Jm Jfc):=⟨rfl,rfl,rfl,by decide +kernel,rfl,by decide +kernel,by decide +kernel⟩
theorem JhV:JC ["self", "name", "board"] ["self", "name", "board"] (Jm Jbs):=⟨rfl,rfl,rfl,by decide +kernel,rfl,by decide +kernel,by decide +kernel⟩
theorem Jio:JC ["self", "name"] ["self", "name"] (Jm JbP):=⟨rfl,rfl,rfl,by decide +kernel,rfl,by decide +kernel,by decide +kernel⟩
theorem Jf8:JC ["self", "board_name", "place", "turns", "north", "south", "ribbon", "board"] ["self", "board_name", "place", "turns", "north", "south", "ribbon"] (Jm Jd6):=⟨rfl,rfl,rfl,by decide +kernel,rfl,by decide +kernel,by decide +kernel⟩
theorem Jlg:JC ["self", "board_name", "coins", "place", "turns", "ribbon"] ["self", "board_name", "coins", "place", "turns", "ribbon"] (Jm Jd5):=⟨rfl,rfl,rfl,by decide +kernel,rfl,by decide +kernel,by decide +kernel⟩
theorem Jgw:JC ["things"] ["things"] (Jm Ja8):=⟨rfl,rfl,rfl,by decide +kernel,rfl,by decide +kernel,by decide +kernel⟩
theorem JjX:JC ["place", "places"] ["place", "places"] (Jm Jdh):=⟨rfl,rfl,rfl,by decide +kernel,rfl,by decide +kernel,by decide +kernel⟩
theorem JeS:JC ["places", "place"] ["places"] (Jm Jcq):=⟨rfl,rfl,rfl,by decide +kernel,rfl,by decide +kernel,by decide +kernel⟩
theorem Jfv:JC ["lanes", "places", "lane"] ["lanes", "places"] (Jm Jde):=⟨rfl,rfl,rfl,by decide +kernel,rfl,by decide +kernel,by decide +kernel⟩
theorem Jfw:JC ["goals", "places", "goal"] ["goals", "places"] (Jm Jdf):=⟨rfl,rfl,rfl,by decide +kernel,rfl,by decide +kernel,by decide +kernel⟩
theorem Jli:JC ["self", "places", "lanes", "goals"] ["self", "places", "lanes", "goals"] (Jm Jd9):=⟨rfl,rfl,rfl,by decide +kernel,rfl,by decide +kernel,by decide +kernel⟩
theorem JfU:JC ["self", "place"] ["self", "place"] (Jm Jav):=⟨rfl,rfl,rfl,by decide +kernel,rfl,by decide +kernel,by decide +kernel⟩
theorem Jlh:JC ["self", "place"] ["self", "place"] (Jm JbQ):=⟨rfl,rfl,rfl,by decide +kernel,rfl,by decide +kernel,by decide +kernel⟩
theorem Jip:JC ["self", "place"] ["self", "place"] (Jm JbR):=⟨rfl,rfl,rfl,by decide +kernel,rfl,by decide +kernel,by decide +kernel⟩
theorem JtU:JC ["_law_script", "_law_k"] ["_law_script", "_law_k"] (Jm JqH):=⟨rfl,rfl,rfl,by decide +kernel,rfl,by decide +kernel,by decide +kernel⟩
theorem Jd2:JC ["_law_cell", "_law_many", "_law_base", "_law_rest", "_law_mixed", "_law_found", "_law_k"] ["_law_cell", "_law_many", "_law_base"] (Jm Joa):=⟨rfl,rfl,rfl,by decide +kernel,rfl,by decide +kernel,by decide +kernel⟩
theorem JqC:JC ["_law_found"] ["_law_found"] (Jm JjZ):=⟨rfl,rfl,rfl,by decide +kernel,rfl,by decide +kernel,by decide +kernel⟩
theorem Za:JC ["_law_cell", "_law_many", "_law_letters", "_law_free", "_law_found", "_law_k", "_law_places", "_law_size", "_law_head", "_law_more", "_law_name"] ["_law_cell", "_law_many"] (Jm JhC):=⟨rfl,rfl,rfl,by decide +kernel,rfl,by decide +kernel,by decide +kernel⟩
theorem ZL:JC ["_law_cell", "_law_draw", "_law_size", "_law_pairs_here", "_law_many", "_law_k", "_law_ends", "_law_pair"] ["_law_cell", "_law_draw", "_law_size"] (Jm Jj0):=⟨rfl,rfl,rfl,by decide +kernel,rfl,by decide +kernel,by decide +kernel⟩
theorem Jd3:JC ["_law_cell", "_law_kind", "_law_size", "_law_marks", "_law_found"] ["_law_cell", "_law_kind", "_law_size"] (Jm JhD):=⟨rfl,rfl,rfl,by decide +kernel,rfl,by decide +kernel,by decide +kernel⟩
theorem Jbq:JC ["_law_script", "_law_at_here", "_law_size", "_law_names_here", "_law_kind", "_law_pairs_here", "_law_goals_here", "_law_lanes"] ["_law_script", "_law_at_here"] (Jm Jfx):=⟨rfl,rfl,rfl,by decide +kernel,rfl,by decide +kernel,by decide +kernel⟩
theorem Jr9:JC ["_law_ground", "_law_place"] ["_law_ground", "_law_place"] (Jm Ji1):=⟨rfl,rfl,rfl,by decide +kernel,rfl,by decide +kernel,by decide +kernel⟩
theorem JsZ:JC ["_law_hand_here"] ["_law_hand_here"] (Jm Joc):=⟨rfl,rfl,rfl,by decide +kernel,rfl,by decide +kernel,by decide +kernel⟩
theorem Jsa:JC ["_law_cell"] ["_law_cell"] (Jm JlX):=⟨rfl,rfl,rfl,by decide +kernel,rfl,by decide +kernel,by decide +kernel⟩
theorem JsY:JC ["_law_ground", "_law_place", "_law_left"] ["_law_ground", "_law_place", "_law_left"] (Jm Jn8):=⟨rfl,rfl,rfl,by decide +kernel,rfl,by decide +kernel,by decide +kernel⟩
theorem JaK:JC ["_law_north", "_law_south", "_law_ribbon", "_law_bid", "_law_reply", "_law_mover", "_law_price", "_law_holder"] ["_law_north", "_law_south", "_law_ribbon", "_law_bid", "_law_reply"] (Jm Jiq):=⟨rfl,rfl,rfl,by decide +kernel,rfl,by decide +kernel,by decide +kernel⟩
theorem JfT:JC ["_law_marks", "_law_words", "_law_found"] ["_law_marks"] (Jm JhB):=⟨rfl,rfl,rfl,by decide +kernel,rfl,by decide +kernel,by decide +kernel⟩
theorem JqD:JC ["_law_found", "_law_due"] ["_law_found", "_law_due"] (Jm Jj2):=⟨rfl,rfl,rfl,by decide +kernel,rfl,by decide +kernel,by decide +kernel⟩
theorem Jnp:JC ["_law_found", "_law_due", "_law_k"] ["_law_found", "_law_due"] (Jm JlY):=⟨rfl,rfl,rfl,by decide +kernel,rfl,by decide +kernel,by decide +kernel⟩
theorem JaL:JC ["_law_ground", "_law_total", "_law_turns", "_law_wins", "_law_left", "_law_place", "_law_north", "_law_ribbon", "_law_at_here", "_law_bids"] ["_law_ground", "_law_total", "_law_turns"] (Jm Jj1):=⟨rfl,rfl,rfl,by decide +kernel,rfl,by decide +kernel,by decide +kernel⟩
theorem Jao:JC ["_law_ground", "_law_wins", "_law_at_here", "_law_hand_here", "_law_place", "_law_left", "_law_north", "_law_ribbon"] ["_law_ground", "_law_wins", "_law_at_here", "_law_hand_here"] (Jm JbO):=⟨rfl,rfl,rfl,by decide +kernel,rfl,by decide +kernel,by decide +kernel⟩
theorem Ym:JC ["_law_ground", "_law_total", "_law_wins", "_law_at_here", "_law_bid", "_law_place", "_law_left", "_law_north", "_law_ribbon", "_law_found", "_law_reply", "_law_mover", "_law_coins", "_law_rest", "_law_holder", "_law_steps"] ["_law_ground", "_law_total", "_law_wins", "_law_at_here", "_law_bid"] (Jm Jcp):=⟨rfl,rfl,rfl,by decide +kernel,rfl,by decide +kernel,by decide +kernel⟩
theorem ZM:JC ["_law_ground", "_law_total", "_law_wins", "_law_at_here", "_law_place", "_law_left", "_law_north", "_law_ribbon", "_law_found", "_law_bid"] ["_law_ground", "_law_total", "_law_wins", "_law_at_here"] (Jm Je8):=⟨rfl,rfl,rfl,by decide +kernel,rfl,by decide +kernel,by decide +kernel⟩
theorem JqE:JC ["_law_row_here"] ["_law_row_here"] (Jm Jj3):=⟨rfl,rfl,rfl,by decide +kernel,rfl,by decide +kernel,by decide +kernel⟩
theorem JhA:JC ["_law_ground", "_law_cell", "_law_names_here", "_law_k", "_law_place"] ["_law_ground", "_law_cell"] (Jm JlW):=⟨rfl,rfl,rfl,by decide +kernel,rfl,by decide +kernel,by decide +kernel⟩
theorem Jm5:JC ["_law_cell"] ["_law_cell"] (Jm JfX):=⟨rfl,rfl,rfl,by decide +kernel,rfl,by decide +kernel,by decide +kernel⟩
theorem JlU:JC ["_law_ground", "_law_cell"] ["_law_ground", "_law_cell"] (Jm Jfb):=⟨rfl,rfl,rfl,by decide +kernel,rfl,by decide +kernel,by decide +kernel⟩
theorem Ji0:JC ["_law_hall", "_law_door", "_law_base", "_law_coins", "_law_now", "_law_marks", "e"] ["_law_hall", "_law_door", "_law_base", "_law_coins", "_law_now"] (Jm Jn9):=⟨rfl,rfl,rfl,by decide +kernel,rfl,by decide +kernel,by decide +kernel⟩
theorem Jn7:JC ["_law_ground", "_law_door", "_law_coins", "_law_now"] ["_law_ground", "_law_door", "_law_coins", "_law_now"] (Jm Jgy):=⟨rfl,rfl,rfl,by decide +kernel,rfl,by decide +kernel,by decide +kernel⟩
theorem Jin:JC ["_law_ground", "_law_coins", "_law_now", "_law_found", "_law_wins", "_law_few"] ["_law_ground", "_law_coins", "_law_now", "_law_found"] (Jm JhE):=⟨rfl,rfl,rfl,by decide +kernel,rfl,by decide +kernel,by decide +kernel⟩
theorem Jsb:JC ["_law_coins", "_law_now", "_law_found"] ["_law_coins", "_law_now", "_law_found"] (Jm JlZ):=⟨rfl,rfl,rfl,by decide +kernel,rfl,by decide +kernel,by decide +kernel⟩
theorem Jo7:JC ["_law_cell", "_law_good", "_law_most", "_law_far"] ["_law_cell", "_law_good", "_law_most"] (Jm Job):=⟨rfl,rfl,rfl,by decide +kernel,rfl,by decide +kernel,by decide +kernel⟩
theorem Y7:JC ["_law_hall", "_law_grounds", "_law_script", "_law_at_here", "_law_which_here", "_law_ground", "_law_coins", "_law_left", "_law_north", "_law_south", "_law_place", "_law_now", "_law_found", "_law_bad", "_law_door"] ["_law_hall", "_law_grounds", "_law_script", "_law_at_here"] (Jm Jfy):=⟨rfl,rfl,rfl,by decide +kernel,rfl,by decide +kernel,by decide +kernel⟩
theorem ZC:JC ["_law_hall", "_law_ground", "_law_script", "_law_place", "_law_ribbon", "_law_total", "_law_wins", "_law_north", "_law_left", "_law_now", "_law_few", "_law_side"] ["_law_hall", "_law_ground", "_law_script"] (Jm JfV):=⟨rfl,rfl,rfl,by decide +kernel,rfl,by decide +kernel,by decide +kernel⟩
theorem Jfu:JC ["_law_script", "_law_grounds", "_law_hall", "_law_k", "_law_g", "_law_at_here"] ["_law_script"] (Jm JfW):=⟨rfl,rfl,rfl,by decide +kernel,rfl,by decide +kernel,by decide +kernel⟩
set_option genInjectivity false in
set_option genSizeOf false in
structure Txt (K:PySem.W.Frag) (mg:Str→Option Value) where
 JnF:Addr
 JmD:FuncData
 JsF:Df K mg "_wall" Jnq ["k"] JnF JmD
 Jfh:Addr
 Jeu:FuncData
 JcP:Df K mg "good_name" JcM ["text"] Jfh Jeu
 JeD:Addr
 Jdm:FuncData
 Jce:Df K mg "check_hand" Jd4 ["hand"] JeD Jdm
 Jds:Addr
 Jcy:FuncData
 Zh:Df K mg "check_up_to" Jdd ["number", "most"] Jds Jcy
 Jdv:Addr
 JcB:FuncData
 JdA:Df K mg "check_coins" Jdg ["north", "south"] Jdv JcB
 Jbw:Addr
 Jba:FuncData
 Jbz:Df K mg "check_standing" Jbr ["board", "place", "turns", "north", "south", "ribbon"] Jbw Jba
 Jkz:Addr
 JiI:FuncData
 JkJ:Df K mg "ended" Jj4 ["board", "place", "turns"] Jkz JiI
 Jfk:Addr
 Jex:FuncData
 Jfp:Df K mg "check_new" Jfa ["name", "kept", "most"] Jfk Jex
 Jfj:Addr
 Jew:FuncData
 Jfo:Df K mg "find_kept" Je9 ["name", "kept"] Jfj Jew
 Jbc:Addr
 JaU:FuncData
 Zy:Df K mg "check_each_once" Ja8 ["things"] Jbc JaU
 Jdw:Addr
 JcC:FuncData
 Z0:Df K mg "check_among" Jdh ["place", "places"] Jdw JcC
 JcF:Addr
 Jb7:FuncData
 JcL:Df K mg "check_places" Jcq ["places"] JcF Jb7
 Jdt:Addr
 Jcz:FuncData
 Jdy:Df K mg "check_lanes" Jde ["lanes", "places"] Jdt Jcz
 Jdu:Addr
 JcA:FuncData
 Jdz:Df K mg "check_goals" Jdf ["goals", "places"] Jdu JcA
 Jq9:Addr
 Jot:FuncData
 ZX:Df K mg "_law_at" JqH ["_law_script", "_law_k"] Jq9 Jot
 Jow:Addr
 Jmz:FuncData
 JjK:Df K mg "_law_row" Joa ["_law_cell", "_law_many", "_law_base"] Jow Jmz
 Jko:Addr
 Jix:FuncData
 JhP:Df K mg "_law_whole" JjZ ["_law_found"] Jko Jix
 Jkt:Addr
 JiC:FuncData
 JkG:Df K mg "_law_names" JhC ["_law_cell", "_law_many"] Jkt JiC
 Jks:Addr
 JiB:FuncData
 JkF:Df K mg "_law_pairs" Jj0 ["_law_cell", "_law_draw", "_law_size"] Jks JiB
 Jkw:Addr
 JiF:FuncData
 JkH:Df K mg "_law_goals" JhD ["_law_cell", "_law_kind", "_law_size"] Jkw JiF
 Jkq:Addr
 Jiz:FuncData
 JhQ:Df K mg "_law_small" Jfx ["_law_script", "_law_at_here"] Jkq Jiz
 JmE:Addr
 Jkj:FuncData
 JjI:Df K mg "_law_ways" Ji1 ["_law_ground", "_law_place"] JmE Jkj
 Joz:Addr
 JmC:FuncData
 JjM:Df K mg "_law_foe" Joc ["_law_hand_here"] Joz JmC
 JmG:Addr
 Jkl:FuncData
 JjL:Df K mg "_law_hand" JlX ["_law_cell"] JmG Jkl
 Jou:Addr
 Jmx:FuncData
 JlC:Df K mg "_law_won" Jn8 ["_law_ground", "_law_place", "_law_left"] Jou Jmx
 JiK:Addr
 Jg7:FuncData
 JiR:Df K mg "_law_turned" Jiq ["_law_north", "_law_south", "_law_ribbon", "_law_bid", "_law_reply"] JiK Jg7
 Jkp:Addr
 Jiy:FuncData
 JkD:Df K mg "_law_which" JhB ["_law_marks"] Jkp Jiy
 Jkv:Addr
 JiE:FuncData
 Ja4:Df K mg "_law_holds" Jj2 ["_law_found", "_law_due"] Jkv JiE
 JmH:Addr
 Jkm:FuncData
 JmX:Df K mg "_law_flat" JlY ["_law_found", "_law_due"] JmH Jkm
 Jku:Addr
 JiD:FuncData
 JhS:Df K mg "_law_model" Jj1 ["_law_ground", "_law_total", "_law_turns"] Jku JiD
 JeC:Addr
 Jdl:FuncData
 JeP:Df K mg "_law_good_steps" JbO ["_law_ground", "_law_wins", "_law_at_here", "_law_hand_here"] JeC Jdl
 JcE:Addr
 Jb6:FuncData
 JcK:Df K mg "_law_good_replies" Jcp ["_law_ground", "_law_total", "_law_wins", "_law_at_here", "_law_bid"] JcE Jb6
 Jfi:Addr
 Jev:FuncData
 Jfn:Df K mg "_law_good_bids" Je8 ["_law_ground", "_law_total", "_law_wins", "_law_at_here"] Jfi Jev
 Jkx:Addr
 JiG:FuncData
 JhT:Df K mg "_law_first" Jj3 ["_law_row_here"] Jkx JiG
 JmF:Addr
 Jkk:FuncData
 JmW:Df K mg "_law_open" JlW ["_law_ground", "_law_cell"] JmF Jkk
 Jf5:Addr
 Jfg:FuncData
 Jf7:Df K mg "_law_any_hand" JfX ["_law_cell"] Jf5 Jfg
 Jfl:Addr
 Jey:FuncData
 Jfq:Df K mg "_law_any_place" Jfb ["_law_ground", "_law_cell"] Jfl Jey
 Jov:Addr
 Jmy:FuncData
 JjJ:Df K mg "_law_try" Jn9 ["_law_hall", "_law_door", "_law_base", "_law_coins", "_law_now"] Jov Jmy
 Jhd:Addr
 Jf4:FuncData
 Jhv:Df K mg "_law_refusal" Jgy ["_law_ground", "_law_door", "_law_coins", "_law_now"] Jhd Jf4
 Jky:Addr
 JiH:FuncData
 JkI:Df K mg "_law_exact" JhE ["_law_ground", "_law_coins", "_law_now", "_law_found"] Jky JiH
 JmI:Addr
 Jkn:FuncData
 JmY:Df K mg "_law_fits" JlZ ["_law_coins", "_law_now", "_law_found"] JmI Jkn
 Jox:Addr
 JmA:FuncData
 JhR:Df K mg "_law_off" Job ["_law_cell", "_law_good", "_law_most"] Jox JmA
 Jkr:Addr
 JiA:FuncData
 JkE:Df K mg "_law_round" Jfy ["_law_hall", "_law_grounds", "_law_script", "_law_at_here"] Jkr JiA
 JiJ:Addr
 Jg6:FuncData
 JiQ:Df K mg "_law_varied" JfV ["_law_hall", "_law_ground", "_law_script"] JiJ Jg6
 Joy:Addr
 JmB:FuncData
 JrO:Df K mg "law" JfW ["_law_script"] Joy JmB
 JfQ:Addr
 Jki:mg "HANDS" = some (.ref JfQ)
 Jhy:∀ H:Hp,JX K H JfQ [.str "north",.str "south"]
 JaH:Value
 Jb4:mg "MOST_SIGNS" = some JaH
 JbS:JR (.int 6) JaH
 JaG:Value
 ZT:mg "MOST_TURNS" = some JaG
 ZN:JR (.int 30) JaG
 JaJ:Value
 Jad:mg "MOST_COINS" = some JaJ
 Jab:JR (.int 20) JaJ
 Jan:Value
 Jbn:mg "MOST_BOARDS" = some Jan
 Jbk:JR (.int 12) Jan
 Jam:Value
 Jbm:mg "MOST_PLACES" = some Jam
 Jbj:JR (.int 12) Jam
 JaI:Value
 Jb5:mg "MOST_LANES" = some JaI
 JbT:JR (.int 40) JaI
 JrI:mg "all" = none
 Zz:mg "len" = none
 YM:mg "range" = none
 Jlw:mg "min" = none
 Jjg:mg "max" = none
 JrH:mg "set" = none
 JdU:mg "tuple" = none
 Jei:mg "sorted" = none
 J8:mg "isinstance" = none
 JeV:mg "int" = none
 Jpn:mg "bool" = none
 Jlv:mg "str" = none
 JgV:mg "ValueError" = none
 Jjh:mg "list" = none
 Z6:Addr
 Je2:mg "BidmoverError" = some (.ref Z6)
 JaS:Addr
 Jhq:mg "BadName" = some (.ref JaS)
 J4:Addr
 Jhr:mg "BadHand" = some (.ref J4)
 JF:Addr
 Jcc:mg "OutOfRange" = some (.ref JF)
 JdW:Addr
 JnM:mg "Twice" = some (.ref JdW)
 JU:Addr
 Jho:mg "NoPlace" = some (.ref JU)
 Jes:Addr
 JmP:mg "BadBid" = some (.ref Jes)
 Jeq:Addr
 JmM:mg "NoLane" = some (.ref Jeq)
 Jep:Addr
 JmL:mg "NotDue" = some (.ref Jep)
 Jar:Addr
 Jgp:mg "NothingDone" = some (.ref Jar)
 Jcw:Addr
 JkA:mg "Taken" = some (.ref Jcw)
 Jer:Addr
 JmN:mg "Full" = some (.ref Jer)
 ZD:Addr
 Jhp:mg "Missing" = some (.ref ZD)
 JV:Addr
 JmO:mg "Book" = some (.ref JV)
 Yk:Cls K JV
 JcO:Addr
 JeB:FuncData
 JcQ:Md K JV "__init__" "Book.__init__" Jfd ["self", "board", "coins", "turns"] JcO JeB
 Jbd:Addr
 JaV:FuncData
 Jaa:Md K JV "needs_with" "Book.needs_with" Ja9 ["self", "turns"] Jbd JaV
 JcG:Addr
 Jb8:FuncData
 Ja5:Md K JV "need_at" "Book.need_at" Jcr ["self", "place", "turns", "ribbon"] JcG Jb8
 Zk:Addr
 Ze:FuncData
 YS:Md K JV "need_where_north_leads" "Book.need_where_north_leads" YO ["self", "place", "turns"] Zk Ze
 Zj:Addr
 Zd:FuncData
 YR:Md K JV "need_where_south_leads" "Book.need_where_south_leads" YN ["self", "place", "turns"] Zj Zd
 JaW:Addr
 Jaw:FuncData
 Y9:Md K JV "check_share" "Book.check_share" JaM ["self", "place", "turns", "north", "ribbon"] JaW Jaw
 Jdx:Addr
 JcD:FuncData
 Jbp:Md K JV "winner" "Book.winner" Jdi ["self", "place", "turns", "north", "ribbon"] Jdx JcD
 JeG:Addr
 Jdp:FuncData
 Jch:Md K JV "least" "Book.least" Jd7 ["self", "place", "turns", "ribbon"] JeG Jdp
 Jgn:Addr
 JfK:FuncData
 Jlt:Md K JV "bid_of" "Book.bid_of" Jgd ["self", "place", "turns", "north", "ribbon"] Jgn JfK
 JeH:Addr
 JdH:FuncData
 JiS:Md K JV "answer_of" "Book.answer_of" Jd8 ["self", "place", "turns", "north", "ribbon", "bid"] JeH JdH
 Jc8:Addr
 Jcm:FuncData
 Jhw:Md K JV "answer_wins" "Book.answer_wins" JcT ["self", "place", "turns", "settled", "holder"] Jc8 Jcm
 JfM:Addr
 Je0:FuncData
 JkL:Md K JV "step_of" "Book.step_of" JfA ["self", "place", "turns", "north", "ribbon", "hand"] JfM Je0
 Jkf:Mk K JV JcO
 Zx:ZV K JV "board"
 ZZ:ZV K JV "coins"
 Jdk:ZV K JV "turns"
 Zw:ZV K JV "needs"
 Ye:Addr
 JpU:mg "Hall" = some (.ref Ye)
 Jae:Cls K Ye
 JcN:Addr
 JeA:FuncData
 Jfr:Md K Ye "__init__" "Hall.__init__" Jfc ["self"] JcN JeA
 Jbx:Addr
 Jbb:FuncData
 Jal:Md K Ye "add_board" "Hall.add_board" Jbs ["self", "name", "board"] Jbx Jbb
 Jb9:Addr
 Jbu:FuncData
 Zv:Md K Ye "board_of" "Hall.board_of" JbP ["self", "name"] Jb9 Jbu
 Jhh:Addr
 Jgj:FuncData
 Jm2:Md K Ye "begin" "Hall.begin" JgC ["self", "name", "board_name", "place", "turns", "north", "south", "ribbon"] Jhh Jgj
 JfL:Addr
 JeZ:FuncData
 JkK:Md K Ye "game_of" "Hall.game_of" Jfz ["self", "name"] JfL JeZ
 Jie:Addr
 Jhb:FuncData
 Jnk:Md K Ye "drop" "Hall.drop" Jh1 ["self", "name"] Jie Jhb
 Jgl:Addr
 JfI:FuncData
 Jlr:Md K Ye "boards" "Hall.boards" Jgb ["self"] Jgl JfI
 Jhf:Addr
 Jgh:FuncData
 Jm0:Md K Ye "games" "Hall.games" JgA ["self"] Jhf Jgh
 Je1:Addr
 Jez:FuncData
 JjN:Md K Ye "standing" "Hall.standing" JeT ["self", "name"] Je1 Jez
 Jjr:Addr
 Jh9:FuncData
 JoI:Md K Ye "due" "Hall.due" Ji2 ["self", "name"] Jjr Jh9
 Jhe:Addr
 Jgg:FuncData
 JmZ:Md K Ye "named" "Hall.named" Jgz ["self", "name"] Jhe Jgg
 Jhg:Addr
 Jgi:FuncData
 Jm1:Md K Ye "deeds" "Hall.deeds" JgB ["self", "name"] Jhg Jgi
 Jid:Addr
 Jha:FuncData
 Jnj:Md K Ye "over" "Hall.over" Jh0 ["self", "name"] Jid Jha
 Jgk:Addr
 JfH:FuncData
 Jlq:Md K Ye "winner" "Hall.winner" Jga ["self", "name"] Jgk JfH
 Jib:Addr
 Jg8:FuncData
 Jnh:Md K Ye "told" "Hall.told" JhY ["self", "name"] Jib Jg8
 Jjs:Addr
 Jia:FuncData
 JoJ:Md K Ye "bid" "Hall.bid" Ji3 ["self", "name", "hand", "coins"] Jjs Jia
 Jgm:Addr
 JfJ:FuncData
 Jls:Md K Ye "answer" "Hall.answer" Jgc ["self", "name", "hand", "coins"] Jgm JfJ
 Jic:Addr
 Jg9:FuncData
 Jni:Md K Ye "step" "Hall.step" JhZ ["self", "name", "hand", "place"] Jic Jg9
 Jif:Addr
 Jhc:FuncData
 Jnl:Md K Ye "back" "Hall.back" Jh2 ["self", "name"] Jif Jhc
 JeF:Addr
 Jdo:FuncData
 Jcg:Md K Ye "judge" "Hall.judge" Jd6 ["self", "board_name", "place", "turns", "north", "south", "ribbon"] JeF Jdo
 JeE:Addr
 Jdn:FuncData
 Jcf:Md K Ye "least" "Hall.least" Jd5 ["self", "board_name", "coins", "place", "turns", "ribbon"] JeE Jdn
 Jny:Mk K Ye JcN
 Zl:ZV K Ye "kept_boards"
 JcX:ZV K Ye "kept_games"
 JT:Addr
 JnN:mg "Board" = some (.ref JT)
 YV:Cls K JT
 Jcb:Addr
 Jdr:FuncData
 JeQ:Md K JT "__init__" "Board.__init__" Jd9 ["self", "places", "lanes", "goals"] Jcb Jdr
 Jax:Addr
 Jak:FuncData
 Yb:Md K JT "check_place" "Board.check_place" Jav ["self", "place"] Jax Jak
 JeI:Addr
 Jdq:FuncData
 Zs:Md K JT "ways" "Board.ways" JbQ ["self", "place"] JeI Jdq
 Jca:Addr
 Jbv:FuncData
 JaE:Md K JT "is_goal" "Board.is_goal" JbR ["self", "place"] Jca Jbv
 Jmo:Mk K JT Jcb
 JaB:ZV K JT "places"
 Jct:ZV K JT "lanes"
 Jcu:ZV K JT "goals"
 YG:ExC K J4
 Jju:PySem.W.exmOne K (.ref J4) (.ref Z6)=some true
 Jjk:PySem.W.kitOne K (.ref J4) (.type "ValueError")=some true
 Jc5:PySem.W.kitOne K (.ref J4) (.ref JaS)=some false
 Jc6:PySem.W.kitOne K (.ref J4) (.ref J4)=some true
 JbJ:PySem.W.kitOne K (.ref J4) (.ref JF)=some false
 Jen:PySem.W.kitOne K (.ref J4) (.ref JdW)=some false
 Jc3:PySem.W.kitOne K (.ref J4) (.ref JU)=some false
 JdG:PySem.W.kitOne K (.ref J4) (.ref Jes)=some false
 JdF:PySem.W.kitOne K (.ref J4) (.ref Jeq)=some false
 JdE:PySem.W.kitOne K (.ref J4) (.ref Jep)=some false
 Jbi:PySem.W.kitOne K (.ref J4) (.ref Jar)=some false
 Jeo:PySem.W.kitOne K (.ref J4) (.ref Jcw)=some false
 JeX:PySem.W.kitOne K (.ref J4) (.ref Jer)=some false
 Jc4:PySem.W.kitOne K (.ref J4) (.ref ZD)=some false
 Yh:ExC K JF
 Jgo:PySem.W.exmOne K (.ref JF) (.ref Z6)=some true
 Jgf:PySem.W.kitOne K (.ref JF) (.type "ValueError")=some true
 JbG:PySem.W.kitOne K (.ref JF) (.ref JaS)=some false
 JbH:PySem.W.kitOne K (.ref JF) (.ref J4)=some false
 JaR:PySem.W.kitOne K (.ref JF) (.ref JF)=some true
 Jck:PySem.W.kitOne K (.ref JF) (.ref JdW)=some false
 JbE:PySem.W.kitOne K (.ref JF) (.ref JU)=some false
 Jb3:PySem.W.kitOne K (.ref JF) (.ref Jes)=some false
 Jb2:PySem.W.kitOne K (.ref JF) (.ref Jeq)=some false
 Jb1:PySem.W.kitOne K (.ref JF) (.ref Jep)=some false
 JaC:PySem.W.kitOne K (.ref JF) (.ref Jar)=some false
 Jcl:PySem.W.kitOne K (.ref JF) (.ref Jcw)=some false
 JcY:PySem.W.kitOne K (.ref JF) (.ref Jer)=some false
 JbF:PySem.W.kitOne K (.ref JF) (.ref ZD)=some false
 JjG:ExC K JaS
 JmT:ExC K Jcw
 JnP:ExC K Jer
 JjF:ExC K ZD
 Jrl:ExC K JdW
 YF:ExC K JU
 Jjt:PySem.W.exmOne K (.ref JU) (.ref Z6)=some true
 Jjj:PySem.W.kitOne K (.ref JU) (.type "ValueError")=some true
 Jc1:PySem.W.kitOne K (.ref JU) (.ref JaS)=some false
 Jc2:PySem.W.kitOne K (.ref JU) (.ref J4)=some false
 JbI:PySem.W.kitOne K (.ref JU) (.ref JF)=some false
 Jel:PySem.W.kitOne K (.ref JU) (.ref JdW)=some false
 JcZ:PySem.W.kitOne K (.ref JU) (.ref JU)=some true
 JdD:PySem.W.kitOne K (.ref JU) (.ref Jes)=some false
 JdC:PySem.W.kitOne K (.ref JU) (.ref Jeq)=some false
 JdB:PySem.W.kitOne K (.ref JU) (.ref Jep)=some false
 Jbh:PySem.W.kitOne K (.ref JU) (.ref Jar)=some false
 Jem:PySem.W.kitOne K (.ref JU) (.ref Jcw)=some false
 JeW:PySem.W.kitOne K (.ref JU) (.ref Jer)=some false
 Jc0:PySem.W.kitOne K (.ref JU) (.ref ZD)=some false
def hs:Bool→Str
 | true => "north"
 | false => "south"
theorem Jmv (b:Bool):decide (V.str (hs b)=V.str "north")=b:=by cases b <;> decide +kernel
def YQ (ns:List Int) (k:Int):Int:=if k < ns.length then ns.getD k.toNat 0 else 0
def YE (z:Str):Prop:=z.length≤1000∧∀ c∈z.cps.toList,c < 16 ^ 8
theorem JeR {z:Str} (h:YE z):(reprText z).length≤10002:=Nat.le_trans (PySem.StrLaws.reprText_len z h.2) (by have:=h.1; omega)
def Jrt (z:Str):Bool:=decide (z.length≤1000) && z.cps.toList.all fun c=>decide (c < 16 ^ 8)
theorem Jhx {z:Str} (h:Jrt z=true):YE z:=by
 unfold Jrt at h;rw [Bool.and_eq_true] at h;exact ⟨of_decide_eq_true h.1,fun c hc=>of_decide_eq_true (List.all_eq_true.mp h.2 c hc)⟩
def YZ (z:Str):Bool:=z == "north" || z == "south"
theorem Jg3 (b:Bool):YZ (hs b)=true:=by cases b <;> decide +kernel
theorem Jkh {z:Str} (h:YZ z=true):∃ b,z=hs b:=by
 unfold YZ at h;rcases Bool.or_eq_true_iff.mp h with q | q
 ·exact ⟨true,beq_iff_eq.mp q⟩
 ·exact ⟨false,beq_iff_eq.mp q⟩
theorem JpA (z:Str):inV (.str z) [.str "north",.str "south"]=YZ z:=by
 have h:∀ a b:Str,(a == b)=(b == a):=fun a b=>by rw [Bool.eq_iff_iff,beq_iff_eq,beq_iff_eq]; exact eq_comm
 show ((("north" : Str) == z) || ((("south" : Str) == z) || false))=(z == "north" || z == "south")
 rw [Bool.or_false,h "north" z,h "south" z]
theorem JjR (b:Bool):YE (hs b):=Jhx (by cases b <;> decide +kernel)
theorem lt1 (a b:Nat):decide ([a] < [b])=decide (a < b):=by
 rw [Bool.eq_iff_iff,decide_eq_true_eq,decide_eq_true_eq];constructor
 ·intro h;cases h with
  | rel h=>exact h
  | cons h=>cases h
 ·exact fun h=>.rel h
def Z1 (c:Nat):Bool:=decide (97≤c) && decide (c≤122)
def YJ (z:Str):Bool:=decide (1≤z.length) && decide (z.length≤6) && z.cps.toList.all Z1
theorem Jf2 {z:Str} (h:YJ z=true):tm 6 z:=by
 unfold YJ at h;rw [Bool.and_eq_true,Bool.and_eq_true,decide_eq_true_eq,decide_eq_true_eq] at h;refine ⟨h.1.2,fun c hc=>?_⟩;have z:=List.all_eq_true.mp h.2 c hc;unfold Z1 at z;rw [Bool.and_eq_true,decide_eq_true_eq,decide_eq_true_eq] at z;have:c≤122:=z.2;omega
theorem ZA {z:Str} (h:YJ z=true):YE z:=(Jf2 h).mono (by decide)
structure JeM (ps:List Str) (zs:List (Str×Str)) (gs:List Str):Prop where
 p1:1≤ps.length
 p2:ps.length≤12
 p3:∀ p∈ps,YJ p=true
 p4:ps.Nodup
 l1:zs.length≤40
 l2:∀ z∈zs,z.1∈ps∧z.2∈ps
 l3:zs.Nodup
 g1:∀ g∈gs,g∈ps
 g2:gs.Nodup
theorem JeM.glen {ps:List Str} {zs:List (Str×Str)} {gs:List Str} (G:JeM ps zs gs):gs.length≤12:=by
 have:∀ {l r:List Str},l.Nodup→(∀ x∈l,x∈r)→l.length≤r.length:=by
  intro l
  induction l with
  | nil=>exact fun _ _=>Nat.zero_le _
  | cons x l ih =>
   intro r hn hs
   classical
   have hx:=hs x (List.mem_cons_self ..);have h1:=List.nodup_cons.mp hn;obtain ⟨r1,r2,rfl⟩:=List.append_of_mem hx;have z:=ih (r:=r1 ++ r2) h1.2 fun y hy=>by
    have:=hs y (List.mem_cons_of_mem _ hy);simp only [List.mem_append,List.mem_cons] at this ⊢;rcases this with q | q | q
    ·exact .inl q
    ·subst q; exact absurd hy h1.1
    ·exact .inr q
   simp only [List.length_append,List.length_cons] at z ⊢;omega
 exact Nat.le_trans (this G.g2 G.g1) G.p2
theorem Jet (z:Str) (ps:List Str):inV (.str z) (ps.map V.str)=decide (z∈ps):=by
 rw [Bool.eq_iff_iff,decide_eq_true_eq];unfold inV;rw [List.any_eq_true];constructor
 ·rintro ⟨v,hv,e⟩;obtain ⟨y,hy,rfl⟩:=List.mem_map.mp hv;have e':(y == z)=true:=e;rw [← beq_iff_eq.mp e'];exact hy
 ·intro h;exact ⟨.str z,List.mem_map.mpr ⟨z,h,rfl⟩,beq_iff_eq.mpr rfl⟩
theorem Jc7 (ps:List Str):(ps.map V.str).all JdQ=true:=by
 rw [List.all_map,List.all_eq_true];exact fun _ _=>rfl
def Jj8 (p:Str×Str):List JP:=[.inr p.1,.inr p.2]
theorem JqL {p q:Str×Str} (h:Jj8 p=Jj8 q):p=q:=by
 unfold Jj8 at h;simp only [List.cons.injEq,Sum.inr.injEq,and_true] at h;exact Prod.ext h.1 h.2
theorem Jm6 {zs:List (Str×Str)} (h:zs.Nodup):(zs.map Jj8).Nodup:=by
 rw [List.Nodup,List.pairwise_map];exact List.Pairwise.imp (fun hne e=>hne (JqL e)) h
theorem Jod {K:PySem.W.Frag} {H:Hp} {zs:List (V×(Str×Str))} (h:Zp K H zs):JfR K H (zs.map (·.1)) ((zs.map (·.2)).map Jj8):=by
 refine ⟨by simp,fun i v ks hv hk=>?_⟩;rw [List.getElem?_map] at hv;obtain ⟨z,hz,rfl⟩:=Option.map_eq_some_iff.mp hv;rw [List.getElem?_map,List.getElem?_map,hz] at hk;have hk':Jj8 z.2=ks:=Option.some.inj hk;rw [← hk'];exact h z (List.mem_of_getElem? hz)
theorem Jai {K:PySem.W.Frag} {H H':Hp} {zs:List (V×(Str×Str))} (h:Zp K H zs) (e:Jf H H'):Zp K H' zs:=fun z hz=>let ⟨a,h1,h2⟩:=h z hz; ⟨a,h1,e.tup h2⟩
def Ja6 (K:PySem.W.Frag) (C:Addr) (H:Hp) (b:Addr) (ps:List Str) (zs:List (V×(Str×Str))) (gs:List Str):Prop :=
 ∃ dx tp tl tg,H b=some (.ins C dx [("places",.ref tp),("lanes",.ref tl),("goals",.ref tg)])∧H tp=some (.tup (ps.map V.str))∧H tl=some (.tup (zs.map (·.1)))∧Zp K H zs∧H tg=some (.tup (gs.map V.str))
theorem Ja6.same {K:PySem.W.Frag} {C:Addr} {H H':Hp} {b:Addr} {ps:List Str} {zs:List (V×(Str×Str))} {gs:List Str} (h:Ja6 K C H b ps zs gs) (e:Jf H H'):Ja6 K C H' b ps zs gs :=
 let ⟨dx,tp,tl,tg,h1,h2,h3,h4,h5⟩:=h; ⟨dx,tp,tl,tg,e _ _ h1,e _ _ h2,e _ _ h3,Jai h4 e,e _ _ h5⟩
def YW (b:Addr) (H H':Hp):Prop:=∀ a u,a≠b→H a=some u→H' a=some u
theorem YW.of {b:Addr} {H H':Hp} (e:Jf H H'):YW b H H':=fun a u _ h=>e a u h
theorem YW.trans {b:Addr} {H H' H2:Hp} (e:YW b H H') (e2:YW b H' H2):YW b H H2:=fun a u hn h=>e2 a u hn (e a u hn h)
theorem YW.put {b:Addr} {H:Hp} {o:HO}:YW b H (upd H b o):=fun a u hn h=>by rw [Jz hn]; exact h
theorem YW.seq {K:PySem.W.Frag} {b l C dx:Addr} {fs:List (Str×V)} {H H':Hp} {xs:List V} (e:YW b H H') (hb:H b=some (.ins C dx fs)) (h:Jp K H l xs):Jp K H' l xs:=by
 rcases h with (h | ⟨o,h⟩) | h
 ·exact .inl (.inl (e _ _ (Jaj h hb (fun z=>nomatch z)) h))
 ·exact .inl (.inr ⟨o,e _ _ (Jaj h hb (fun z=>nomatch z)) h⟩)
 ·exact .inr h
theorem YW.tup {K:PySem.W.Frag} {b l C dx:Addr} {fs:List (Str×V)} {H H':Hp} {xs:List V} (e:YW b H H') (hb:H b=some (.ins C dx fs)) (h:JX K H l xs):JX K H' l xs:=by
 rcases h with (h | ⟨o,h⟩) | h
 ·exact .inl (.inl (e _ _ (Jaj h hb (fun z=>nomatch z)) h))
 ·exact .inl (.inr ⟨o,e _ _ (Jaj h hb (fun z=>nomatch z)) h⟩)
 ·exact .inr h
def Jr2:Sp:=fun vs H Q _=>∃ z:Str,vs=[.str z]∧z.length≤1000∧∀ H',Jf H H'→Q (.bl (YJ z)) H'
def JrY (K:PySem.W.Frag):Sp:=fun vs H Q _=>∃ l:Addr,vs=[.ref l]∧((∃ ss:List Str,Jp K H l (ss.map V.str)∧ss.length≤64∧ss.Nodup)∨(∃ (us:List V) (kss:List (List JP)),Jp K H l us∧JfR K H us kss∧kss.length≤64∧kss.Nodup))∧∀ H',Jf H H'→Q .non H'
def Jqs (K:PySem.W.Frag) (k:Addr):Sp:=fun vs H Q E=>∃ (z:Str) (t:Addr) (ps:List Str),vs=[.str z,.ref t]∧YE z∧(Jp K H t (ps.map V.str)∨JX K H t (ps.map V.str))∧(z∈ps→Q .non H)∧(z∉ps→E (.ref k) none H)
def Jn0 (K:PySem.W.Frag):Sp:=fun vs H Q _=>∃ (l:Addr) (ps:List Str),vs=[.ref l]∧Jp K H l (ps.map V.str)∧1≤ps.length∧ps.length≤12∧(∀ p∈ps,YJ p=true)∧ps.Nodup∧∀ H',Jf H H'→Q .non H'
def Jo1 (K:PySem.W.Frag):Sp:=fun vs H Q _=>∃ (l lp:Addr) (zs:List (V×(Str×Str))) (ps:List Str),vs=[.ref l,.ref lp]∧Jp K H l (zs.map (·.1))∧Zp K H zs∧Jp K H lp (ps.map V.str)∧(∀ p∈ps,YE p)∧zs.length≤40∧(∀ z∈zs,z.2.1∈ps∧z.2.2∈ps)∧(zs.map (·.2)).Nodup∧∀ H',Jf H H'→Q .non H'
def Jo2 (K:PySem.W.Frag):Sp:=fun vs H Q _=>∃ (l lp:Addr) (gs ps:List Str),vs=[.ref l,.ref lp]∧Jp K H l (gs.map V.str)∧Jp K H lp (ps.map V.str)∧(∀ p∈ps,YE p)∧gs.length≤64∧(∀ g∈gs,g∈ps)∧gs.Nodup∧∀ H',Jf H H'→Q .non H'
def Jnm (K:PySem.W.Frag) (C:Addr):Sp:=fun vs H Q _=>∃ (b lp ll lg dx:Addr) (ps:List Str) (zs:List (V×(Str×Str))) (gs:List Str),vs=[.ref b,.ref lp,.ref ll,.ref lg]∧H b=some (.ins C dx [])∧Jp K H lp (ps.map V.str)∧Jp K H ll (zs.map (·.1))∧Zp K H zs∧Jp K H lg (gs.map V.str)∧JeM ps (zs.map (·.2)) gs ∧
 ∀ H' ps' zs' gs',YW b H H'→ps'.Perm ps→ps'.Pairwise sle→zs'.Perm zs→(zs'.map (·.2)).Pairwise ple→gs'.Perm gs→gs'.Pairwise sle→Ja6 K C H' b ps' zs' gs'→Q .non H'
def Jo0 (K:PySem.W.Frag) (C k:Addr):Sp:=fun vs H Q E=>∃ (b:Addr) (z:Str) (ps:List Str) (zs:List (V×(Str×Str))) (gs:List Str),vs=[.ref b,.str z]∧YE z∧Ja6 K C H b ps zs gs∧(z∈ps→Q .non H)∧(z∉ps→E (.ref k) none H)
def Jy (zs:List (Str×Str)) (p:Str):List Str:=(zs.filter fun z=>decide (z.1=p)).map (·.2)
def JrU (K:PySem.W.Frag) (C k:Addr):Sp:=fun vs H Q E=>∃ (b:Addr) (z:Str) (ps:List Str) (zs:List (V×(Str×Str))) (gs:List Str),vs=[.ref b,.str z]∧YE z∧zs.length≤40∧Ja6 K C H b ps zs gs∧(z∈ps→∀ t H',Jf H H'→H' t=some (.tup ((Jy (zs.map (·.2)) z).map V.str))→Q (.ref t) H')∧(z∉ps→E (.ref k) none H)
def JoU (K:PySem.W.Frag) (C k:Addr):Sp:=fun vs H Q E=>∃ (b:Addr) (z:Str) (ps:List Str) (zs:List (V×(Str×Str))) (gs:List Str),vs=[.ref b,.str z]∧YE z∧Ja6 K C H b ps zs gs∧(z∈ps→Q (.bl (decide (z∈gs))) H)∧(z∉ps→E (.ref k) none H)
def JtT (K:PySem.W.Frag):Sp:=fun vs H Q _=>∃ (a:Addr) (ns:List Int) (k:Int),vs=[.ref a,.int k]∧Jp K H a (ns.map V.int)∧0≤k∧Q (.int (YQ ns k)) H
def Jn2 (K:PySem.W.Frag):Sp:=fun vs H Q _=>∃ (a:Addr) (ns:List Int),vs=[.ref a]∧Jp K H a (ns.map V.int)∧ns.length≤63∧∀ H',Q (.bl true) H'
def JsR:Sp:=fun vs H Q _=>∃ (c:Int) (n:Nat) (b:Int),vs=[.int c,.int n,.int b]∧n≤1000∧0 < b∧b < 1000000∧∀ (p:Addr) (xs:List Int) (H':Hp),H p=none→Jf H H'→H' p=some (.lst (xs.map V.int))→xs.length=n→(∀ x∈xs,0≤x∧x < b)→Q (.ref p) H'
theorem JgS {α:Type}:∀ {l r:List α},l.Nodup→(∀ x∈l,x∈r)→l.length≤r.length
 | [],_,_,_=>Nat.zero_le _
 | x :: l,r,hn,hs=>by
  have hx:=hs x (List.mem_cons_self ..);have h1:=List.nodup_cons.mp hn;obtain ⟨r1,r2,rfl⟩:=List.append_of_mem hx;have z:=JgS (l:=l) (r:=r1 ++ r2) h1.2 fun y hy=>by
   have:=hs y (List.mem_cons_of_mem _ hy);simp only [List.mem_append,List.mem_cons] at this ⊢;rcases this with q | q | q
   ·exact .inl q
   ·subst q; exact absurd hy h1.1
   ·exact .inr q
  simp only [List.length_append,List.length_cons] at z ⊢;omega
theorem JdX {xs:List Int} {e:Int} (h0:0≤e) (h1:e < xs.length):∃ y,atI (xs.map V.int) e=some (.int y)∧y∈xs:=by
 obtain ⟨j,rfl⟩:∃ j:Nat,e=(j:Int):=⟨e.toNat,by omega⟩
 have hj:j < xs.length:=by omega
 exact ⟨xs[j],YD (by rw [List.getElem?_map,List.getElem?_eq_getElem hj]; rfl),List.getElem_mem hj⟩
def LT:Str := "abcdefghijklmnopqrstuvwxyz"
theorem JkU {j:Int} (h0:0≤j) (h1:j < 26):atI LT.cps.toList j=some (97 + j.toNat):=by
 obtain ⟨i,rfl⟩:∃ i:Nat,j=(i:Int):=⟨j.toNat,by omega⟩
 have hi:i < 26:=by omega
 refine YD ?_;rw [Int.toNat_natCast];have z:∀ i,i < 26→LT.cps.toList[i]?=some (97 + i):=by decide +kernel
 exact z i hi
theorem Jp4:LT.length≤sizeLine:=by decide +kernel
theorem JlP {j:Nat} (h:j < 26):Z1 (97 + j)=true:=by
 unfold Z1;rw [decide_eq_true (by omega),decide_eq_true (by omega)]; rfl
theorem Jjl:∀ {ys:List Str},(∀ y∈ys,∃ c,y=⟨#[c]⟩∧Z1 c=true)→(Str.join Str.empty ys).length=ys.length∧∀ c∈(Str.join Str.empty ys).cps.toList,Z1 c=true
 | [],_=>⟨rfl,fun c hc=>by simp [Str.join,Str.empty] at hc⟩
 | [y],h=>by
  obtain ⟨c,rfl,hc⟩:=h y (List.mem_cons_self ..);exact ⟨rfl,fun d hd=>by
   have e:d=c:=by simpa [Str.join] using hd
   rw [e]; exact hc⟩
 | y :: x :: r,h=>by
  obtain ⟨c,rfl,hc⟩:=h y (List.mem_cons_self ..);obtain ⟨a,b⟩:=Jjl (ys:=x :: r) fun q hq=>h q (List.mem_cons_of_mem _ hq)
  have e:Str.join Str.empty (⟨#[c]⟩ :: x :: r)=(⟨#[c]⟩:Str) ++ Str.empty ++ Str.join Str.empty (x :: r):=rfl;rw [e];refine ⟨?_,fun d hd=>?_⟩
  ·rw [strLen_append,strLen_append,a];simp only [List.length_cons];show 1 + 0 + _=_;omega
  ·rcases PyProof.Rows.mem_cps_append.mp hd with q | q
   ·rcases PyProof.Rows.mem_cps_append.mp q with q | q
    ·have e2:d=c:=by simpa using q
     rw [e2]; exact hc
    ·simp [Str.empty] at q
   ·exact b d q
def nam (hd:Str) (j:Nat):Str:=hd ++ ⟨#[97 + j]⟩
theorem JqY {hd:Str} {j:Nat} (h1:hd.length≤5) (h2:∀ c∈hd.cps.toList,Z1 c=true) (hj:j < 26):YJ (nam hd j)=true:=by
 unfold YJ nam;have e:(hd ++ (⟨#[97 + j]⟩:Str)).length=hd.length + 1:=by rw [strLen_append]; rfl
 rw [Bool.and_eq_true,Bool.and_eq_true,decide_eq_true_eq,decide_eq_true_eq,e,List.all_eq_true];refine ⟨⟨by omega,by omega⟩,fun c hc=>?_⟩;rcases PyProof.Rows.mem_cps_append.mp hc with q | q
 ·exact h2 c q
 ·have e2:c=97 + j:=by simpa using q
  rw [e2]; exact JlP hj
theorem Jsn {hd:Str} {i j:Nat} (h:nam hd i=nam hd j):i=j:=by
 have e:(hd.cps ++ #[97 + i])=(hd.cps ++ #[97 + j]):=congrArg Str.cps h;have e2:=congrArg Array.toList e;rw [Array.toList_append,Array.toList_append] at e2;have e3:=List.append_cancel_left e2;simp at e3;omega
theorem JqZ {hd:Str} {x:Int} {ss:List Str} (h:ss.length < 26) (hx:∀ m:Nat,m < 26→nam hd ((x + m) % 26).toNat∈ss):False:=by
 have nd:((List.range 26).map fun m=>nam hd ((x + (m:Nat)) % 26).toNat).Nodup:=by
  rw [List.Nodup,List.pairwise_map];refine List.Pairwise.imp_of_mem ?_ (List.pairwise_lt_range (n:=26));intro a b ha hb hlt e;have e2:=Jsn e;have:=List.mem_range.mp ha;have:=List.mem_range.mp hb;have h1:=Int.emod_nonneg (x + (a:Nat)) (b:=26) (by decide);have h2:=Int.emod_nonneg (x + (b:Nat)) (b:=26) (by decide);omega
 have z:=JgS (r:=ss) nd fun y hy=>by
  obtain ⟨m,hm,rfl⟩:=List.mem_map.mp hy;exact hx m (List.mem_range.mp hm)
 rw [List.length_map,List.length_range] at z;omega
theorem JnK {xs:List Int} {k:Int} (h0:0≤k) (h1:k≤xs.length):((Jbe (xs.map V.int) none (some k)).length:Int)=k:=by
 unfold Jbe;rw [List.length_map,HT.JqI];show ((List.take ((if k < 0 then _ else _) - 0) _).length:Int)=k;rw [if_neg (by omega),List.length_take,List.length_drop,List.length_map];omega
theorem JmJ {xs:List Int} {lo hi:Option Int}:∃ ys:List Int,Jbe (xs.map V.int) lo hi=ys.map V.int∧∀ y∈ys,y∈xs:=by
 refine ⟨(xs.drop (HT.sIx xs.length 0 lo)).take (HT.sIx xs.length xs.length hi - HT.sIx xs.length 0 lo),?_,fun y hy=>List.mem_of_mem_drop (List.mem_of_mem_take hy)⟩;unfold Jbe;rw [List.length_map,List.map_take,List.map_drop]
def Jqi:Sp:=fun vs H Q _=>∃ (c:Int) (n:Nat),vs=[.int c,.int n]∧1≤n∧n≤12∧∀ (p:Addr) (ss:List Str) (H':Hp),H p=none→Jf H H'→H' p=some (.lst (ss.map V.str))→ss.length=n→(∀ s∈ss,YJ s=true)→ss.Nodup→Q (.ref p) H'
def Jp5 (K:PySem.W.Frag) (H:Hp) (zs:List (V×(Int×Int))):Prop:=∀ z∈zs,∃ a,z.1=.ref a∧JX K H a [.int z.2.1,.int z.2.2]
def Jg4 (p:Int×Int):List JP:=[.inl p.1,.inl p.2]
theorem Jq4 {p q:Int×Int} (h:Jg4 p=Jg4 q):p=q:=by
 unfold Jg4 at h;simp only [List.cons.injEq,Sum.inl.injEq,and_true] at h;exact Prod.ext h.1 h.2
theorem Jna {K:PySem.W.Frag} {H:Hp} {zs:List (V×(Int×Int))} (h:Jp5 K H zs):JfR K H (zs.map (·.1)) ((zs.map (·.2)).map Jg4):=by
 refine ⟨by simp,fun i v ks hv hk=>?_⟩;rw [List.getElem?_map] at hv;obtain ⟨z,hz,rfl⟩:=Option.map_eq_some_iff.mp hv;rw [List.getElem?_map,List.getElem?_map,hz] at hk;have hk':Jg4 z.2=ks:=Option.some.inj hk;rw [← hk'];exact h z (List.mem_of_getElem? hz)
structure PW (K:PySem.W.Frag) (H0:Hp) (pl:Addr) (size:Nat) (H:Hp) (zs:List (V×(Int×Int))):Prop where
 sm:Jf H0 H
 at_:H pl=some (.lst (zs.map (·.1)))
 ip:Jp5 K H zs
 nd:(zs.map (·.2)).Nodup
 rg:∀ z∈zs,(0≤z.2.1∧z.2.1 < size)∧(0≤z.2.2∧z.2.2 < size)
theorem PW.add {K:PySem.W.Frag} {H0:Hp} {pl:Addr} {size:Nat} {H H':Hp} {zs:List (V×(Int×Int))} (h:PW K H0 pl size H zs) (n0:H0 pl=none) (e:Jf H H') {t:Addr} {a b:Int} (ht:H' t=some (.tup [.int a,.int b]))
  (hn:(a,b)∉zs.map (·.2)) (hr:(0≤a∧a < size)∧(0≤b∧b < size)):PW K H0 pl size (upd H' pl (.lst (zs.map (·.1) ++ [.ref t]))) (zs ++ [(.ref t,(a,b))]):=by
 have hp':=e _ _ h.at_;have tup:∀ {a:Addr} {xs:List V},JX K H' a xs→JX K (upd H' pl (.lst (zs.map (·.1) ++ [.ref t]))) a xs:=fun {a xs} q=>by
  rcases q with (q | ⟨o,q⟩) | q
  ·exact .inl (.inl (by rw [Jz (Jaj q hp' (fun z=>nomatch z))]; exact q))
  ·exact .inl (.inr ⟨o,by rw [Jz (Jaj q hp' (fun z=>nomatch z))]; exact q⟩)
  ·exact .inr q
 refine ⟨fun b' u q=>?_,by rw [Jh,List.map_append]; rfl,fun z hz=>?_,?_,fun z hz=>?_⟩
 ·rw [Jz (JA q n0)]; exact e _ _ (h.sm _ _ q)
 ·rcases List.mem_append.mp hz with q | q
  ·obtain ⟨c,h1,h2⟩:=h.ip z q;exact ⟨c,h1,tup (e.tup h2)⟩
  ·rw [List.mem_singleton.mp q];exact ⟨t,rfl,tup (JX.of ht)⟩
 ·rw [List.map_append,List.nodup_append];refine ⟨h.nd,by simp,fun x hx y hy q=>?_⟩;have hy':y=(a,b):=by simpa using hy
  rw [q,hy'] at hx;exact hn hx
 ·rcases List.mem_append.mp hz with q | q
  ·exact h.rg z q
  ·rw [List.mem_singleton.mp q]; exact hr
def Jqg (K:PySem.W.Frag):Sp:=fun vs H Q _=>∃ (c d:Int) (n:Nat),vs=[.int c,.int d,.int n]∧1≤n∧n≤12∧∀ (p:Addr) (zs:List (V×(Int×Int))) (H':Hp),H p=none→PW K H p n H' zs→zs.length≤40→Q (.ref p) H'
section
variable {P:Program} {w:World} {K:PySem.W.Frag} {mg:Str→Option Value} {base:Heap}
theorem Zu (T:Txt K mg):JL P w K mg base YK 1 T.Jq9 T.Jot ["_law_script", "_law_k"] (JtT K):=by
 refine T.ZX.F.ok JtU (fun vs H Q E h=>?_) (fun cdv A outer s H vs Q E hr h=>?_)
 ·obtain ⟨a,ns,k,rfl,_⟩:=h;rfl
 ·obtain ⟨a,ns,k,rfl,hS,h0,q⟩:=h;refine ⟨_,(@Je _ _ _ _ _ (@JN _ _ _ _ _ _ _ _ (@Jq _ _ _ _ _ _ _ _ (@JaY _) (@pv _ 1 _ _ rfl (.inl rfl) rfl rfl) (@JH _ _ _ _ _ _ _ _ _ (@Yr _) rfl T.Zz PySem.boot_len (@Ja _ _ _ _ _ (@pv _ 0 _ _ rfl (.inl rfl) rfl rfl) (@Jc _) rfl) (by decide) (by decide) rfl rfl) (Ju _)) (@Ji _ _ _ (@Jw _ _ _ _ (@Jr _ _ _ _ _ _ _ (@JE _) (@pv _ 0 _ _ rfl (.inl rfl) rfl rfl) (@pv _ 1 _ _ rfl (.inl rfl) rfl rfl) (fun _ _=>rfl)))) (@JD _)) (@Ji _ _ _ (@Jw _ _ _ _ (@Jd _ _ _ _)))),?_⟩;refine ⟨_,rfl,_,rfl,a,_,rfl,.inl hS,_,_,rfl,rfl,_,rfl,?_⟩;rw [List.length_map];refine Yp (fun c=>?_) (fun c=>?_)
  ·have c':k < ns.length:=of_decide_eq_true c;refine ⟨_,rfl,_,rfl,a,_,k,.int (YQ ns k),rfl,rfl,hS,?_,q⟩;obtain ⟨j,rfl⟩:∃ j:Nat,k=(j:Int):=⟨k.toNat,by omega⟩
   have hj:j < ns.length:=by omega
   refine YD ?_;rw [List.getElem?_map];unfold YQ;rw [if_pos c',Int.toNat_natCast,List.getD_eq_getElem?_getD,List.getElem?_eq_getElem hj];rfl
  ·have c':¬ k < ns.length:=fun z=>c (decide_eq_true z)
   have e:YQ ns k=0:=by unfold YQ; rw [if_neg c']
   rw [e] at q;exact q
theorem Jmc (T:Txt K mg):JL P w K mg base YK 1 T.Jow T.Jmz ["_law_cell", "_law_many", "_law_base"] JsR:=by
 refine T.JjK.F.ok Jd2 (fun vs H Q E h=>?_) (fun cdv A outer s H vs Q E hr h=>?_)
 ·obtain ⟨_,_,_,rfl,_⟩:=h;rfl
 ·obtain ⟨c,n,b,rfl,hn,hb0,hb1,q⟩:=h;refine ⟨_,(@Je _ _ _ _ _ (@Jx _ _ 3 _ _ _ _ Jd2.nd rfl (Or.inl rfl) (@Jk _ _ _ _ _ _ _ _ (@YL _) (@pv _ 0 _ _ rfl (.inl rfl) rfl rfl) (@Jd _ _ _ _)) rfl (.inl rfl)) (@Je _ _ _ _ _ (@Jx _ _ 4 _ _ _ _ Jd2.nd rfl (Or.inl rfl) (@Jk _ _ _ _ _ _ _ _ (@JZ _) (@pv _ 0 _ _ rfl (.inl rfl) rfl rfl) (@Jd _ _ _ _)) rfl (.inl rfl)) (@Je _ _ _ _ _ (@Jx _ _ 5 _ _ _ _ Jd2.nd rfl (Or.inl rfl) (@J7 _ _ _ _ (@Jc _)) rfl (.inl rfl)) (@Je _ _ _ _ _ (@YH _ _ _ _ _ _ _ _ PassesOwn.never rfl (@Yx _ _ _ _ _ _ rfl T.YM (@Ja _ _ _ _ _ (@pv _ 1 _ _ rfl (.inl rfl) rfl rfl) (@Jc _) rfl) rfl) (@JS _ _ 6 _ Jd2.nd rfl (Or.inl rfl) (.inl rfl)) (@Je _ _ _ _ _ (@Jx _ _ 4 _ _ _ _ Jd2.nd rfl (Or.inl rfl) (@Jk _ _ _ _ _ _ _ _ (@JZ _) (@Jk _ _ _ _ _ _ _ _ (@JM _) (@Jk _ _ _ _ _ _ _ _ (@JM _) (@Jk _ _ _ _ _ _ _ _ (@Jaq _) (@pv _ 4 _ _ rfl (.inl rfl) rfl rfl) (@Jd _ _ _ _)) (@Jk _ _ _ _ _ _ _ _ (@Jaq _) (@Jd _ _ _ _) (@pv _ 6 _ _ rfl (.inl rfl) rfl rfl))) (@Jd _ _ _ _)) (@Jd _ _ _ _)) rfl (.inl rfl)) (@Je _ _ _ _ _ (@JN _ _ _ _ _ _ _ _ (@Jq _ _ _ _ _ _ _ _ (@Yl _) (@Jk _ _ _ _ _ _ _ _ (@JZ _) (@pv _ 0 _ _ rfl (.inl rfl) rfl rfl) (@Jd _ _ _ _)) (@Jd _ _ _ _) (Ju _)) (@Ji _ _ _ (@JW _ _ _ _ (@Jbl _ _ _ _ _ _ _ _ _ _ _ _ PySem.F.plainAttrs_list PySem.F.slot_list_append PySem.F.type_list_append (@Zg _) (@pv _ 5 _ _ rfl (.inl rfl) rfl rfl) (@Ja _ _ _ _ _ (@Jk _ _ _ _ _ _ _ _ (@JZ _) (@pv _ 3 _ _ rfl (.inl rfl) rfl rfl) (@pv _ 2 _ _ rfl (.inl rfl) rfl rfl)) (@Jc _) rfl) rfl rfl rfl rfl rfl) rfl)) (@Ji _ _ _ (@JW _ _ _ _ (@Jbl _ _ _ _ _ _ _ _ _ _ _ _ PySem.F.plainAttrs_list PySem.F.slot_list_append PySem.F.type_list_append (@Zg _) (@pv _ 5 _ _ rfl (.inl rfl) rfl rfl) (@Ja _ _ _ _ _ (@Jk _ _ _ _ _ _ _ _ (@JZ _) (@Jk _ _ _ _ _ _ _ _ (@JM _) (@Jk _ _ _ _ _ _ _ _ (@YL _) (@pv _ 4 _ _ rfl (.inl rfl) rfl rfl) (@Jd _ _ _ _)) (@Jk _ _ _ _ _ _ _ _ (@JZ _) (@Jk _ _ _ _ _ _ _ _ (@Jaq _) (@pv _ 4 _ _ rfl (.inl rfl) rfl rfl) (@Jd _ _ _ _)) (@Jd _ _ _ _))) (@pv _ 2 _ _ rfl (.inl rfl) rfl rfl)) (@Jc _) rfl) rfl rfl rfl rfl rfl) rfl))) (@Ji _ _ _ (@Jx _ _ 3 _ _ _ _ Jd2.nd rfl (Or.inl rfl) (@Jk _ _ _ _ _ _ _ _ (@YL _) (@pv _ 3 _ _ rfl (.inl rfl) rfl rfl) (@pv _ 2 _ _ rfl (.inl rfl) rfl rfl)) rfl (.inl rfl))))) (by intro _; rfl)) (@Ji _ _ _ (@Jw _ _ _ _ (@pv _ 5 _ _ rfl (.inl rfl) rfl rfl))))))),?_⟩;refine ⟨_,rfl,_,_,rfl,rfl,⟨by decide,by decide⟩,_,rfl,_,_,rfl,rfl,(by show (0:Int) < 2147483647; decide),by show 0≤sizeLine; decide,fun p hp=>?_⟩;have hs0:n < sizeLine:=Nat.lt_of_le_of_lt hn (by decide);refine ⟨_,rfl,(n:Int),rfl,by omega,by omega,?_⟩;refine YU (n:=n) (fun i σ H2=>∃ (r m:Int) (xs:List Int) (v:Option V),Jf H H2∧H2 p=some (.lst (xs.map V.int))∧xs.length=i∧(∀ x∈xs,0≤x∧x < b)∧σ=[some (.int c),some (.int n),some (.int b),some (.int r),some (.int m),some (.ref p),v])
   ⟨_,_,[],none,Jf.upd hp,Jh,rfl,(fun x hx=>nomatch hx),rfl⟩ ?_ ?_
  ·rintro i σ H2 hi ⟨r,m,xs,v,e,hx,hl,hr,rfl⟩;have add:∀ x:Int,0≤x∧x < b→Jf H (upd H2 p (.lst (xs.map V.int ++ [.int x])))∧upd H2 p (.lst (xs.map V.int ++ [.int x])) p=some (.lst ((xs ++ [x]).map V.int))∧(xs ++ [x]).length=i + 1∧∀ y∈xs ++ [x],0≤y∧y < b:=fun x h=>by
    refine ⟨fun b' u q=>?_,by rw [Jh,List.map_append]; rfl,by simp [hl],fun y hy=>?_⟩
    ·rw [Jz (JA q hp)]; exact e b' u q
    ·rcases List.mem_append.mp hy with z | z
     ·exact hr y z
     ·rw [List.mem_singleton.mp z]; exact h
   refine ⟨_,rfl,_,_,rfl,rfl,.inr ⟨by decide,by decide⟩,_,rfl,_,_,rfl,rfl,.inl ⟨by decide,by decide⟩,_,_,rfl,rfl,_,_,rfl,rfl,_,_,rfl,rfl,(by show (0:Int) < 2147483647; decide),?_⟩;have hxl:(xs.map V.int).length < sizeLine:=by rw [List.length_map]; omega
   refine ⟨_,rfl,_,_,rfl,rfl,(by show (0:Int) < 2; decide),rfl,_,rfl,Yp (fun _=>?_) (fun _=>?_)⟩
   ·refine ⟨_,rfl,.inl ⟨rfl,_,Jp.of hx⟩,_,rfl,_,rfl,_,_,rfl,rfl,hb0,p,_,_,rfl,rfl,hx,hxl,?_⟩;refine ⟨_,rfl,_,rfl,_,_,rfl,rfl,⟨hb0,by show b < 1073741824; omega⟩,?_⟩;obtain ⟨a1,a2,a3,a4⟩:=add (r % b) ⟨Int.emod_nonneg _ (by omega),Int.emod_lt_of_pos _ hb0⟩;exact ⟨_,_,xs ++ [r % b],_,a1,a2,a3,a4,rfl⟩
   ·refine ⟨_,rfl,.inl ⟨rfl,_,Jp.of hx⟩,_,rfl,_,_,rfl,rfl,⟨by decide,by decide⟩,_,rfl,_,_,rfl,rfl,.inr ⟨by decide,by decide⟩,_,_,rfl,rfl,(by show (0:Int) < 2147483647; decide),_,_,rfl,rfl,_,rfl,_,_,rfl,rfl,hb0,p,_,_,rfl,rfl,hx,hxl,?_⟩;refine ⟨_,rfl,_,rfl,_,_,rfl,rfl,⟨hb0,by show b < 1073741824; omega⟩,?_⟩;obtain ⟨a1,a2,a3,a4⟩:=add (((m * 48271 + 7 * (0 + (i:Int)) + 11) % 2147483647 / 8 + (m * 48271 + 7 * (0 + (i:Int)) + 11) % 2147483647 * 69621 % 2147483647) % b) ⟨Int.emod_nonneg _ (by omega),Int.emod_lt_of_pos _ hb0⟩;exact ⟨_,_,_,_,a1,a2,a3,a4,rfl⟩
  ·rintro σ H2 ⟨r,m,xs,v,e,hx,hl,hr,rfl⟩;exact ⟨_,rfl,q p xs H2 hp e hx hl hr⟩
theorem JgP (T:Txt K mg):JL P w K mg base YK 1 T.Jfh T.Jeu ["text"] Jr2:=by
 refine T.JcP.F.ok JlR (fun vs H Q E h=>?_) (fun cdv A outer s H vs Q E hr h=>?_)
 ·obtain ⟨_,rfl,_⟩:=h;rfl
 ·obtain ⟨z,rfl,hz,q⟩:=h;have hzl:z.length≤sizeLine:=Nat.le_trans hz (by decide);refine ⟨_,(@Je _ _ _ _ _ (@JN _ _ _ _ _ _ _ _ (@PW.pt _ _ _ (@Jah _ _ _ _ _ _ _ (@Jq _ _ _ _ _ _ _ _ (@JaY _) (@JH _ _ _ _ _ _ _ _ _ (@Jhn _) rfl T.Zz PySem.boot_len (@Ja _ _ _ _ _ (@pv _ 0 _ _ rfl (.inl rfl) rfl rfl) (@Jc _) rfl) (by decide) (by decide) rfl rfl) (@Jd _ _ _ _) (Ju _)) (@Jap _ _ _ _ (@Jq _ _ _ _ _ _ _ _ (@JbY _) (@JH _ _ _ _ _ _ _ _ _ (@Jhn _) rfl T.Zz PySem.boot_len (@Ja _ _ _ _ _ (@pv _ 0 _ _ rfl (.inl rfl) rfl rfl) (@Jc _) rfl) (by decide) (by decide) rfl rfl) (@ZY _ _ _ _ _ rfl T.Jb4 T.JbS (by decide)) (Ju _))))) (@Ji _ _ _ (@Jw _ _ _ _ (@JbW _ _ _ _))) (@JD _)) (@Ji _ _ _ (@Jw _ _ _ _ (@JH _ _ _ _ _ _ _ _ _ (@Jrf _ rfl) rfl T.JrI PyProof.Rows.boot_all (@Ja _ _ _ _ _ (@JeU _ _ _ _ _ _ _ 1 ["sign"] [] _ _ _ _ ["text"] ((Jm JcM).names) (by decide +kernel) (@Jta _ _ _ _ (@pv _ 0 _ _ rfl (.inl rfl) rfl rfl)) (fun _ _ _ _=>(@Zr _ _ _ _ _ _ _ _ _ 0 (by decide +kernel) rfl rfl)) (fun _ _ _ _=>(@JbC _)) (fun _ _ _ _=>(@JqN _ _ _ _ _ _ _ _ _ _ _ _ (@JkR _) (@JkR _) (@Js _ _ _ _) (@YT _ _ _ _ _ _ _ _ _ 0 rfl rfl (by decide) (by decide)) (@Js _ _ _ _) (by with_unfolding_all rfl))) rfl rfl rfl (by intro _; rfl)) (@Jc _) rfl) (by decide) (by decide) rfl rfl)))),?_⟩;refine ⟨_,rfl,z,rfl,hzl,_,_,rfl,rfl,_,rfl,Yp (fun c=>Y0 ?_) (fun c=>?_)⟩
  ·have c':(z.length:Int) < 1:=of_decide_eq_true c;have e:YJ z=false:=by unfold YJ; rw [decide_eq_false (by omega)]; rfl
   rw [← e];exact q H (Jf.refl _)
  refine ⟨_,rfl,z,rfl,hzl,_,_,rfl,rfl,_,rfl,Yp (fun d=>?_) (fun d=>?_)⟩
  ·have d':(6:Int) < z.length:=of_decide_eq_true d;have e:YJ z=false:=by unfold YJ; rw [decide_eq_false (p:=z.length≤6) (by omega),Bool.and_false]; rfl
   rw [← e];exact q H (Jf.refl _)
  have c':¬ (z.length:Int) < 1:=fun w=>c (decide_eq_true w)
  have d':¬ (6:Int) < z.length:=fun w=>d (decide_eq_true w)
  have e:YJ z=z.cps.toList.all Z1:=by unfold YJ; rw [decide_eq_true (by omega),decide_eq_true (by omega)]; rfl
  refine ⟨_,rfl,z,rfl,fun D hD=>?_⟩;refine Jlp (fun i v=>∃ c,z.cps[i]?=some c∧v=.bl (Z1 c)) rfl hD hzl (fun i c H2 hc e2 Q' hQ=>?_) (fun ys H2 e2 hD2 hl hF=>?_)
  ·refine ⟨_,rfl,_,_,rfl,rfl,_,rfl,?_⟩;have e1:(!decide ([c] < [97]))=decide (97≤c):=by rw [lt1,Bool.eq_iff_iff]; simp
   have e2:(!decide ([122] < [c]))=decide (c≤122):=by rw [lt1,Bool.eq_iff_iff]; simp
   by_cases h1:97≤c
   ·refine Zc (e1.trans (decide_eq_true h1)) ⟨_,_,rfl,rfl,?_⟩;refine hQ _ ⟨c,hc,congrArg V.bl (e2.trans ?_)⟩;unfold Z1;rw [decide_eq_true h1]; rfl
   ·refine Yq (e1.trans (decide_eq_false h1)) (hQ _ ⟨c,hc,congrArg V.bl ?_⟩);unfold Z1;rw [decide_eq_false h1]; rfl
  ·have hys:ys=(z.cps.toList.map Z1).map V.bl:=by
    apply List.ext_getElem?;intro i;by_cases hi:i < ys.length
    ·obtain ⟨c,h1,h2⟩:=hF i _ (List.getElem?_eq_getElem hi);rw [List.getElem?_eq_getElem hi,h2,List.getElem?_map,List.getElem?_map,Array.getElem?_toList,h1];rfl
    ·rw [List.getElem?_eq_none (by omega),List.getElem?_eq_none];rw [List.length_map,List.length_map,Array.length_toList];have e9:z.cps.size=z.length:=rfl;omega
   refine ⟨D,z.cps.toList.map Z1,rfl,by rw [← hys]; exact Jp.of hD2,?_⟩;have e3:(z.cps.toList.map Z1).all id=YJ z:=by rw [e,List.all_map]; rfl
   rw [e3];exact q H2 e2
theorem JaO (T:Txt K mg):JL P w K mg base YK 1 T.Jbc T.JaU ["things"] (JrY K):=by
 refine T.Zy.F.ok Jgw (fun vs H Q E h=>?_) (fun cdv A outer s H vs Q E hr h=>?_)
 ·obtain ⟨_,rfl,_⟩:=h;rfl
 ·obtain ⟨l,rfl,hl,q⟩:=h;refine ⟨_,(@Ji _ _ _ (@JN _ _ _ _ _ _ _ _ (@Jq _ _ _ _ _ _ _ _ (@JaY _) (@JH _ _ _ _ _ _ _ _ _ (@Jnf _) rfl T.Zz PySem.boot_len (@Ja _ _ _ _ _ (@Y2 _ _ _ _ _ _ _ _ _ (@JpQ _ rfl hr.units) rfl T.JrH PyProof.Rows.boot_set (@Ja _ _ _ _ _ (@pv _ 0 _ _ rfl (.inl rfl) rfl rfl) (@Jc _) rfl) (by decide) (by decide) rfl rfl) (@Jc _) rfl) (by decide) (by decide) rfl rfl) (@JH _ _ _ _ _ _ _ _ _ (@Yr _) rfl T.Zz PySem.boot_len (@Ja _ _ _ _ _ (@pv _ 0 _ _ rfl (.inl rfl) rfl rfl) (@Jc _) rfl) (by decide) (by decide) rfl rfl) (Ju _)) (@Ji _ _ _ (@JfY _ _)) (@JD _))),?_⟩;rcases hl with ⟨ss,hS,hz,nd⟩ | ⟨us,kss,hS,tt,hz,nd⟩
  ·refine ⟨_,rfl,.inl ⟨l,ss,rfl,hS,hz,fun p hp=>⟨p,_,rfl,Jh,_,rfl,l,_,rfl,.inl ((Jf.upd hp).seq hS),_,_,rfl,rfl,_,rfl,Yq (decide_eq_false ?_) (q _ (Jf.upd hp))⟩⟩⟩;rw [Jjw nd,List.length_map];exact Int.lt_irrefl _
  ·refine ⟨_,rfl,.inr ⟨l,us,kss,rfl,hS,tt,hz,fun p hp=>⟨p,_,rfl,Jh,_,rfl,l,_,rfl,.inl ((Jf.upd hp).seq hS),_,_,rfl,rfl,_,rfl,Yq (decide_eq_false ?_) (q _ (Jf.upd hp))⟩⟩⟩;rw [Jjw nd,tt.1];exact Int.lt_irrefl _
theorem JaZ (T:Txt K mg):JL P w K mg base (Zf P w) 1 T.Jdw T.JcC ["place", "places"] (Jqs K T.JU):=by
 refine T.Z0.F.ok1 JjX (fun vs H Q E h=>?_) (fun cdv A outer s H vs Q E hr h=>?_)
 ·obtain ⟨_,_,_,rfl,_⟩:=h;rfl
 ·obtain ⟨z,t,ps,rfl,ht,hS,q1,q2⟩:=h;refine ⟨_,(@Ji _ _ _ (@JN _ _ _ _ _ _ _ _ (@Jq _ _ _ _ _ _ _ _ (@JbX _) (@pv _ 0 _ _ rfl (.inl rfl) rfl rfl) (@pv _ 1 _ _ rfl (.inl rfl) rfl rfl) (by with_unfolding_all rfl)) (@Ji _ _ _ (@JaN _ _ _ _ _ _ _ _ _ T.YF T.Jho JbA (@JbD _ _ _ _ _ _ (PJ.cons (@Jed _ _ _ _ (@pv _ 0 _ _ rfl (.inl rfl) rfl rfl)) (PJ.cons (@Js _ _ _ _) PJ.nil)) rfl) rfl rfl (by decide) rfl)) (@JD _))),?_⟩;refine ⟨_,rfl,_,rfl,t,_,rfl,hS,rfl,Jc7 ps,_,rfl,?_⟩;rw [if_pos rfl,Jet];by_cases hin:z∈ps
  ·exact Yq (by rw [decide_eq_true hin]; rfl) (q1 hin)
  ·have hz:=JeR ht;have e1:(Str.empty ++ reprText z).length=(reprText z).length:=by rw [strLen_append]; exact Nat.zero_add _
   refine Zc (by rw [decide_eq_false hin]; rfl) ⟨_,rfl,z,rfl,Nat.le_trans hz (by decide),_,rfl,by rw [e1]; exact Nat.le_trans hz (by decide),_,rfl,?_,?_,q2 hin⟩
   all_goals
    rw [strLen_append,e1];refine Nat.le_trans (Nat.add_le_add_right hz _) (by decide)
theorem Jja (T:Txt K mg):JL P w K mg base YK 2 T.JcF T.Jb7 ["places"] (Jn0 K):=by
 refine T.JcL.F.ok JeS (fun vs H Q E h=>?_) (fun cdv A outer s H vs Q E hr h=>?_)
 ·obtain ⟨_,_,rfl,_⟩:=h;rfl
 ·obtain ⟨l,ps,rfl,hS,h1,h2,h3,h4,q⟩:=h;refine ⟨_,(@Je _ _ _ _ _ (@JN _ _ _ _ _ _ _ _ (@PW.pt _ _ _ (@Jah _ _ _ _ _ _ _ (@Jq _ _ _ _ _ _ _ _ (@JaY _) (@JH _ _ _ _ _ _ _ _ _ (@Yr _) rfl T.Zz PySem.boot_len (@Ja _ _ _ _ _ (@pv _ 0 _ _ rfl (.inl rfl) rfl rfl) (@Jc _) rfl) (by decide) (by decide) rfl rfl) (@Jd _ _ _ _) (Ju _)) (@Jap _ _ _ _ (@Jq _ _ _ _ _ _ _ _ (@JbY _) (@JH _ _ _ _ _ _ _ _ _ (@Yr _) rfl T.Zz PySem.boot_len (@Ja _ _ _ _ _ (@pv _ 0 _ _ rfl (.inl rfl) rfl rfl) (@Jc _) rfl) (by decide) (by decide) rfl rfl) (@ZY _ _ _ _ _ rfl T.Jbm T.Jbj (by decide)) (Ju _))))) (@Ji _ _ _ (@JfY _ _)) (@JD _)) (@Je _ _ _ _ _ (@YH _ _ _ _ _ _ _ _ PassesOwn.never rfl (@Zn _ _ _ _ (@pv _ 0 _ _ rfl (.inl rfl) rfl rfl)) (@JS _ _ 1 _ JeS.nd rfl (Or.inl rfl) (.inl rfl)) (@Ji _ _ _ (@JN _ _ _ _ _ _ _ _ (@Jbf _ _ _ _ (@Z5 _ _ _ (@Jl _ _ _ _ _ _ _ _ _ _ _ _ _ _ _ T.JcP (JgP T) (hr.mono (by decide)) JG (@Ja _ _ _ _ _ (@pv _ 1 _ _ rfl (.inl rfl) rfl rfl) (@Jc _) rfl) rfl (by decide) rfl rfl) (by intro _; rfl))) (@Ji _ _ _ (@JfY _ _)) (@JD _))) (by intro _; rfl)) (@Ji _ _ _ (@JW _ _ _ _ (@Jl _ _ _ _ _ _ _ _ _ _ _ _ _ _ _ T.Zy (JaO T) (hr.mono (by decide)) JG (@Ja _ _ _ _ _ (@pv _ 0 _ _ rfl (.inl rfl) rfl rfl) (@Jc _) rfl) rfl (by decide) rfl rfl) rfl)))),?_⟩;refine ⟨_,rfl,l,_,rfl,.inl hS,_,_,rfl,rfl,_,rfl,Yq (decide_eq_false (by rw [List.length_map]; omega)) ?_⟩;refine ⟨_,rfl,l,_,rfl,.inl hS,_,_,rfl,rfl,_,rfl,Yq (decide_eq_false (by rw [List.length_map]; omega)) ?_⟩;refine ⟨_,rfl,l,rfl,⟨_,hS⟩,JaT (xs:=ps.map V.str) (fun i σ H2=>Jf H H2∧∃ v,σ=[some (.ref l),v]) ⟨Jf.refl _,none,rfl⟩ (fun i σ H2 _ h=>h.1.seq hS) ?_ ?_⟩
  ·rintro i x σ H2 hx ⟨e2,v,rfl⟩;obtain ⟨p,hp,rfl⟩:=List.mem_map.mp (List.mem_of_getElem? hx);refine ⟨_,rfl,p,rfl,Nat.le_trans (Jf2 (h3 p hp)).1 (by decide),fun H3 e3=>⟨_,rfl,Yq (by rw [h3 p hp]; rfl) ?_⟩⟩;exact ⟨e2.trans e3,_,rfl⟩
  ·rintro σ H2 ⟨e2,v,rfl⟩;exact ⟨_,rfl,l,rfl,.inl ⟨ps,e2.seq hS,by omega,h4⟩,fun H3 e3=>q H3 (e2.trans e3)⟩
theorem Jkb (T:Txt K mg):JL P w K mg base YK 2 T.Jdt T.Jcz ["lanes", "places"] (Jo1 K):=by
 refine T.Jdy.F.ok Jfv (fun vs H Q E h=>?_) (fun cdv A outer s H vs Q E hr h=>?_)
 ·obtain ⟨_,_,_,_,rfl,_⟩:=h;rfl
 ·obtain ⟨l,lp,zs,ps,rfl,hS,hP,hp,ht,h1,h2,h3,q⟩:=h;refine ⟨_,(@Je _ _ _ _ _ (@JN _ _ _ _ _ _ _ _ (@Jq _ _ _ _ _ _ _ _ (@JbY _) (@JH _ _ _ _ _ _ _ _ _ (@Yr _) rfl T.Zz PySem.boot_len (@Ja _ _ _ _ _ (@pv _ 0 _ _ rfl (.inl rfl) rfl rfl) (@Jc _) rfl) (by decide) (by decide) rfl rfl) (@ZY _ _ _ _ _ rfl T.Jb5 T.JbT (by decide)) (Ju _)) (@Ji _ _ _ (@JfY _ _)) (@JD _)) (@Je _ _ _ _ _ (@YH _ _ _ _ _ _ _ _ PassesOwn.never rfl (@Zn _ _ _ _ (@pv _ 0 _ _ rfl (.inl rfl) rfl rfl)) (@JS _ _ 2 _ Jfv.nd rfl (Or.inl rfl) (.inl rfl)) (@Je _ _ _ _ _ (@JW _ _ _ _ (@Jl _ _ _ _ _ _ _ _ _ _ _ _ _ _ _ T.Z0 (JaZ T) (hr.mono (by decide)) JdM (@Ja _ _ _ _ _ (@Jr _ _ _ _ _ _ _ (@Yg _) (@pv _ 2 _ _ rfl (.inl rfl) rfl rfl) (@Jd _ _ _ _) (fun _ _=>rfl)) (@Ja _ _ _ _ _ (@pv _ 1 _ _ rfl (.inl rfl) rfl rfl) (@Jc _) rfl) rfl) rfl (by decide) rfl rfl) rfl) (@Ji _ _ _ (@JW _ _ _ _ (@Jl _ _ _ _ _ _ _ _ _ _ _ _ _ _ _ T.Z0 (JaZ T) (hr.mono (by decide)) JdM (@Ja _ _ _ _ _ (@Jr _ _ _ _ _ _ _ (@Yg _) (@pv _ 2 _ _ rfl (.inl rfl) rfl rfl) (@Jd _ _ _ _) (fun _ _=>rfl)) (@Ja _ _ _ _ _ (@pv _ 1 _ _ rfl (.inl rfl) rfl rfl) (@Jc _) rfl) rfl) rfl (by decide) rfl rfl) rfl))) (by intro _; rfl)) (@Ji _ _ _ (@JW _ _ _ _ (@Jl _ _ _ _ _ _ _ _ _ _ _ _ _ _ _ T.Zy (JaO T) (hr.mono (by decide)) JG (@Ja _ _ _ _ _ (@pv _ 0 _ _ rfl (.inl rfl) rfl rfl) (@Jc _) rfl) rfl (by decide) rfl rfl) rfl)))),?_⟩;refine ⟨_,rfl,l,_,rfl,.inl hS,_,_,rfl,rfl,_,rfl,Yq (decide_eq_false (by rw [List.length_map]; omega)) ?_⟩;refine ⟨_,rfl,l,rfl,⟨_,hS⟩,JaT (xs:=zs.map (·.1)) (fun i σ H2=>H2=H∧∃ v,σ=[some (.ref l),some (.ref lp),v]) ⟨rfl,none,rfl⟩ (fun i σ H2 _ h=>by rw [h.1]; exact hS) ?_ ?_⟩
  ·rintro i x σ H2 hx ⟨rfl,v,rfl⟩;obtain ⟨z,hz,rfl⟩:=List.mem_map.mp (List.mem_of_getElem? hx);obtain ⟨a,ea,ha⟩:=hP z hz;obtain ⟨i1,i2⟩:=h2 z hz;refine ⟨_,rfl,a,_,_,.str z.2.1,ea,rfl,ha,rfl,_,rfl,z.2.1,lp,ps,rfl,ht _ i1,.inl hp,fun _=>?_,fun hn=>absurd i1 hn⟩;exact ⟨_,rfl,a,_,_,.str z.2.2,ea,rfl,ha,rfl,_,rfl,z.2.2,lp,ps,rfl,ht _ i2,.inl hp,fun _=>⟨rfl,_,rfl⟩,fun hn=>absurd i2 hn⟩
  ·rintro σ H2 ⟨rfl,v,rfl⟩;exact ⟨_,rfl,l,rfl,.inr ⟨_,_,hS,Jod hP,by rw [List.length_map,List.length_map]; omega,Jm6 h3⟩,fun H3 e3=>q H3 e3⟩
theorem Jkc (T:Txt K mg):JL P w K mg base YK 2 T.Jdu T.JcA ["goals", "places"] (Jo2 K):=by
 refine T.Jdz.F.ok Jfw (fun vs H Q E h=>?_) (fun cdv A outer s H vs Q E hr h=>?_)
 ·obtain ⟨_,_,_,_,rfl,_⟩:=h;rfl
 ·obtain ⟨l,lp,gs,ps,rfl,hS,hp,ht,h1,h2,h3,q⟩:=h;refine ⟨_,(@Je _ _ _ _ _ (@YH _ _ _ _ _ _ _ _ PassesOwn.never rfl (@Zn _ _ _ _ (@pv _ 0 _ _ rfl (.inl rfl) rfl rfl)) (@JS _ _ 2 _ Jfw.nd rfl (Or.inl rfl) (.inl rfl)) (@Ji _ _ _ (@JW _ _ _ _ (@Jl _ _ _ _ _ _ _ _ _ _ _ _ _ _ _ T.Z0 (JaZ T) (hr.mono (by decide)) JdM (@Ja _ _ _ _ _ (@pv _ 2 _ _ rfl (.inl rfl) rfl rfl) (@Ja _ _ _ _ _ (@pv _ 1 _ _ rfl (.inl rfl) rfl rfl) (@Jc _) rfl) rfl) rfl (by decide) rfl rfl) rfl)) (by intro _; rfl)) (@Ji _ _ _ (@JW _ _ _ _ (@Jl _ _ _ _ _ _ _ _ _ _ _ _ _ _ _ T.Zy (JaO T) (hr.mono (by decide)) JG (@Ja _ _ _ _ _ (@pv _ 0 _ _ rfl (.inl rfl) rfl rfl) (@Jc _) rfl) rfl (by decide) rfl rfl) rfl))),?_⟩;refine ⟨_,rfl,l,rfl,⟨_,hS⟩,JaT (xs:=gs.map V.str) (fun i σ H2=>H2=H∧∃ v,σ=[some (.ref l),some (.ref lp),v]) ⟨rfl,none,rfl⟩ (fun i σ H2 _ h=>by rw [h.1]; exact hS) ?_ ?_⟩
  ·rintro i x σ H2 hx ⟨rfl,v,rfl⟩;obtain ⟨g,hg,rfl⟩:=List.mem_map.mp (List.mem_of_getElem? hx);exact ⟨_,rfl,_,rfl,g,lp,ps,rfl,ht _ (h2 g hg),.inl hp,fun _=>⟨rfl,_,rfl⟩,fun hn=>absurd (h2 g hg) hn⟩
  ·rintro σ H2 ⟨rfl,v,rfl⟩;exact ⟨_,rfl,l,rfl,.inl ⟨gs,hS,h1,h3⟩,fun H3 e3=>q H3 e3⟩
theorem Jlo (T:Txt K mg):JL P w K mg base YK 3 T.Jcb T.Jdr ["self", "places", "lanes", "goals"] (Jnm K T.JT):=by
 refine T.JeQ.F.ok Jli (fun vs H Q E h=>?_) (fun cdv A outer s H vs Q E hr h=>?_)
 ·obtain ⟨_,_,_,_,_,_,_,_,rfl,_⟩:=h;rfl
 ·obtain ⟨b,lp,ll,lg,dx,ps,zs,gs,rfl,hb,hp,hl,hP,hg,G,q⟩:=h;refine ⟨_,(@Je _ _ _ _ _ (@JW _ _ _ _ (@Jl _ _ _ _ _ _ _ _ _ _ _ _ _ _ _ T.JcL (Jja T) (hr.mono (by decide)) JG (@Ja _ _ _ _ _ (@pv _ 1 _ _ rfl (.inl rfl) rfl rfl) (@Jc _) rfl) rfl (by decide) rfl rfl) rfl) (@Je _ _ _ _ _ (@JW _ _ _ _ (@Jl _ _ _ _ _ _ _ _ _ _ _ _ _ _ _ T.Jdy (Jkb T) (hr.mono (by decide)) JG (@Ja _ _ _ _ _ (@pv _ 2 _ _ rfl (.inl rfl) rfl rfl) (@Ja _ _ _ _ _ (@pv _ 1 _ _ rfl (.inl rfl) rfl rfl) (@Jc _) rfl) rfl) rfl (by decide) rfl rfl) rfl) (@Je _ _ _ _ _ (@JW _ _ _ _ (@Jl _ _ _ _ _ _ _ _ _ _ _ _ _ _ _ T.Jdz (Jkc T) (hr.mono (by decide)) JG (@Ja _ _ _ _ _ (@pv _ 3 _ _ rfl (.inl rfl) rfl rfl) (@Ja _ _ _ _ _ (@pv _ 1 _ _ rfl (.inl rfl) rfl rfl) (@Jc _) rfl) rfl) rfl (by decide) rfl rfl) rfl) (@Je _ _ _ _ _ (@JbV _ _ _ _ _ _ _ _ (@pv _ 0 _ _ rfl (.inl rfl) rfl rfl) (@Y2 _ _ _ _ _ _ _ _ _ (@Jbo _) rfl T.JdU PyProof.Rows.boot_tuple (@Ja _ _ _ _ _ (@JH _ _ _ _ _ _ _ _ _ (@Jf6 _) rfl T.Jei PyProof.Rows.boot_sorted (@Ja _ _ _ _ _ (@pv _ 1 _ _ rfl (.inl rfl) rfl rfl) (@Jc _) rfl) (by decide) (by decide) rfl rfl) (@Jc _) rfl) (by decide) (by decide) rfl rfl) rfl) (@Je _ _ _ _ _ (@JbV _ _ _ _ _ _ _ _ (@pv _ 0 _ _ rfl (.inl rfl) rfl rfl) (@Y2 _ _ _ _ _ _ _ _ _ (@Jbo _) rfl T.JdU PyProof.Rows.boot_tuple (@Ja _ _ _ _ _ (@JH _ _ _ _ _ _ _ _ _ (@JoD _) rfl T.Jei PyProof.Rows.boot_sorted (@Ja _ _ _ _ _ (@pv _ 2 _ _ rfl (.inl rfl) rfl rfl) (@Jc _) rfl) (by decide) (by decide) rfl rfl) (@Jc _) rfl) (by decide) (by decide) rfl rfl) rfl) (@Ji _ _ _ (@JbV _ _ _ _ _ _ _ _ (@pv _ 0 _ _ rfl (.inl rfl) rfl rfl) (@Y2 _ _ _ _ _ _ _ _ _ (@Jbo _) rfl T.JdU PyProof.Rows.boot_tuple (@Ja _ _ _ _ _ (@JH _ _ _ _ _ _ _ _ _ (@Jf6 _) rfl T.Jei PyProof.Rows.boot_sorted (@Ja _ _ _ _ _ (@pv _ 3 _ _ rfl (.inl rfl) rfl rfl) (@Jc _) rfl) (by decide) (by decide) rfl rfl) (@Jc _) rfl) (by decide) (by decide) rfl rfl) rfl))))))),?_⟩;have ht:∀ p∈ps,YE p:=fun p h=>ZA (G.p3 p h)
  have hzl:zs.length≤40:=by have:=G.l1; rwa [List.length_map] at this
  have hl2:∀ z∈zs,z.2.1∈ps∧z.2.2∈ps:=fun z hz=>G.l2 z.2 (List.mem_map.mpr ⟨z,hz,rfl⟩)
  have hgl:=G.glen;refine ⟨_,rfl,lp,ps,rfl,hp,G.p1,G.p2,G.p3,G.p4,fun H1 e1=>?_⟩;refine ⟨_,rfl,_,rfl,ll,lp,zs,ps,rfl,e1.seq hl,Jai hP e1,e1.seq hp,ht,hzl,hl2,G.l3,fun H2 e2=>?_⟩;have e12:=e1.trans e2;refine ⟨_,rfl,_,rfl,lg,lp,gs,ps,rfl,e12.seq hg,e12.seq hp,ht,by omega,G.g1,G.g2,fun H3 e3=>?_⟩;have e13:=e12.trans e3;have hb3:=e13 _ _ hb;refine ⟨_,rfl,lp,ps,rfl,e13.seq hp,by have:=G.p2; omega,fun p4 ps' n4 pp ps4=>⟨p4,_,rfl,.inl ⟨Jp.of Jh,fun t5 n5=>?_⟩⟩⟩;have e35:=(Jf.upd (o:=.lst (ps'.map V.str)) n4).trans (Jf.upd (o:=.tup (ps'.map V.str)) n5);refine ⟨_,rfl,b,_,dx,_,rfl,e35 _ _ hb3,T.YV,T.JaB,by decide,?_⟩;have b6:=(YW.of (b:=b) (e13.trans e35)).trans (YW.put (o:=.ins T.JT dx (Yt "places" (.ref t5) [])));have t5b:t5≠b:=fun e=>by
   have z:=(Jf.upd (o:=.lst (ps'.map V.str)) n4) _ _ hb3;rw [e,z] at n5; cases n5
  have hp6:upd (upd (upd H3 p4 (.lst (ps'.map V.str))) t5 (.tup (ps'.map V.str))) b (.ins T.JT dx (Yt "places" (.ref t5) [])) t5=some (.tup (ps'.map V.str)):=by rw [Jz t5b,Jh]
  have hb6:upd (upd (upd H3 p4 (.lst (ps'.map V.str))) t5 (.tup (ps'.map V.str))) b (.ins T.JT dx (Yt "places" (.ref t5) [])) b=some (.ins T.JT dx [("places",.ref t5)]):=Jh;generalize upd (upd (upd H3 p4 (.lst (ps'.map V.str))) t5 (.tup (ps'.map V.str))) b (.ins T.JT dx (Yt "places" (.ref t5) []))=H6 at b6 hp6 hb6;refine ⟨_,rfl,ll,zs,rfl,b6.seq hb hl,fun z hz=>let ⟨a,h1,h2⟩:=hP z hz; ⟨a,h1,b6.tup hb h2⟩,by omega,fun p7 zs' n7 zp zs7=>⟨p7,_,rfl,.inl ⟨Jp.of Jh,fun t8 n8=>?_⟩⟩⟩;have e68:=(Jf.upd (o:=.lst (zs'.map (·.1))) n7).trans (Jf.upd (o:=.tup (zs'.map (·.1))) n8);refine ⟨_,rfl,b,_,dx,_,rfl,e68 _ _ hb6,T.YV,T.Jct,by show 1 < 1000; decide,?_⟩;have b9:=(b6.trans (YW.of e68)).trans (YW.put (o:=.ins T.JT dx (Yt "lanes" (.ref t8) [("places",.ref t5)])));have t8b:t8≠b:=fun e=>by
   have z:=(Jf.upd (o:=.lst (zs'.map (·.1))) n7) _ _ hb6;rw [e,z] at n8; cases n8
  have hl9:upd (upd (upd H6 p7 (.lst (zs'.map (·.1)))) t8 (.tup (zs'.map (·.1)))) b (.ins T.JT dx (Yt "lanes" (.ref t8) [("places",.ref t5)])) t8=some (.tup (zs'.map (·.1))):=by rw [Jz t8b,Jh]
  have hp9:upd (upd (upd H6 p7 (.lst (zs'.map (·.1)))) t8 (.tup (zs'.map (·.1)))) b (.ins T.JT dx (Yt "lanes" (.ref t8) [("places",.ref t5)])) t5=some (.tup (ps'.map V.str)):=by rw [Jz t5b]; exact e68 _ _ hp6
  have hb9:upd (upd (upd H6 p7 (.lst (zs'.map (·.1)))) t8 (.tup (zs'.map (·.1)))) b (.ins T.JT dx (Yt "lanes" (.ref t8) [("places",.ref t5)])) b=some (.ins T.JT dx [("places",.ref t5),("lanes",.ref t8)]):=Jh;generalize upd (upd (upd H6 p7 (.lst (zs'.map (·.1)))) t8 (.tup (zs'.map (·.1)))) b (.ins T.JT dx (Yt "lanes" (.ref t8) [("places",.ref t5)]))=H9 at b9 hl9 hp9 hb9;refine ⟨_,rfl,lg,gs,rfl,b9.seq hb hg,by omega,fun p10 gs' n10 gp gs10=>⟨p10,_,rfl,.inl ⟨Jp.of Jh,fun t11 n11=>?_⟩⟩⟩;have e911:=(Jf.upd (o:=.lst (gs'.map V.str)) n10).trans (Jf.upd (o:=.tup (gs'.map V.str)) n11);refine ⟨_,rfl,b,_,dx,_,rfl,e911 _ _ hb9,T.YV,T.Jcu,by show 2 < 1000; decide,?_⟩;have b12:=(b9.trans (YW.of e911)).trans (YW.put (o:=.ins T.JT dx (Yt "goals" (.ref t11) [("places",.ref t5),("lanes",.ref t8)])));have t11b:t11≠b:=fun e=>by
   have z:=(Jf.upd (o:=.lst (gs'.map V.str)) n10) _ _ hb9;rw [e,z] at n11; cases n11
  refine q _ ps' zs' gs' b12 pp ps4 zp zs7 gp gs10 ⟨dx,t5,t8,t11,Jh,?_,?_,fun z hz=>?_,?_⟩
  ·rw [Jz t5b]; exact e911 _ _ hp9
  ·rw [Jz t8b]; exact e911 _ _ hl9
  ·obtain ⟨a,h1,h2⟩:=hP z (zp.mem_iff.mp hz);exact ⟨a,h1,b12.tup hb h2⟩
  ·rw [Jz t11b,Jh]
theorem Zb (T:Txt K mg):JL P w K mg base (Zf P w) 2 T.Jax T.Jak ["self", "place"] (Jo0 K T.JT T.JU):=by
 refine T.Yb.F.ok1 JfU (fun vs H Q E h=>?_) (fun cdv A outer s H vs Q E hr h=>?_)
 ·obtain ⟨_,_,_,_,_,rfl,_⟩:=h;rfl
 ·obtain ⟨b,z,ps,zs,gs,rfl,ht,⟨dx,tp,tl,tg,hb,hp,_⟩,q1,q2⟩:=h;refine ⟨_,(@Ji _ _ _ (@JW _ _ _ _ (@Jl _ _ _ _ _ _ _ _ _ _ _ _ _ _ _ T.Z0 (JaZ T) (hr.mono (by decide)) Y3 (@Ja _ _ _ _ _ (@pv _ 1 _ _ rfl (.inl rfl) rfl rfl) (@Ja _ _ _ _ _ (@YY _ _ _ _ _ (@pv _ 0 _ _ rfl (.inl rfl) rfl rfl) rfl) (@Jc _) rfl) rfl) rfl (by decide) rfl rfl) rfl)),?_⟩;exact ⟨_,rfl,_,rfl,b,_,dx,_,.ref tp,rfl,hb,T.YV,T.JaB,rfl,z,tp,ps,rfl,ht,.inr (JX.of hp),q1,q2⟩
theorem Jiv (T:Txt K mg):JL P w K mg base (Zf P w) 3 T.Jca T.Jbv ["self", "place"] (JoU K T.JT T.JU):=by
 refine T.JaE.F.ok1 Jip (fun vs H Q E h=>?_) (fun cdv A outer s H vs Q E hr h=>?_)
 ·obtain ⟨_,_,_,_,_,rfl,_⟩:=h;rfl
 ·obtain ⟨b,z,ps,zs,gs,rfl,ht,B,q1,q2⟩:=h;refine ⟨_,(@Je _ _ _ _ _ (@JW _ _ _ _ (@YB _ _ _ _ _ _ _ _ _ _ _ _ _ _ _ _ _ _ _ _ (@pv _ 0 _ _ rfl (.inl rfl) rfl rfl) T.YV T.Yb.m (Zb T) (hr.mono (by decide)) T.Yb.b .nil Y3 (@Ja _ _ _ _ _ (@pv _ 1 _ _ rfl (.inl rfl) rfl rfl) (@Jc _) rfl) rfl rfl rfl) rfl) (@Ji _ _ _ (@Jw _ _ _ _ (@ZF _ _ _ _ _ _ _ _ (@JgO _) (@pv _ 1 _ _ rfl (.inl rfl) rfl rfl) (@YY _ _ _ _ _ (@pv _ 0 _ _ rfl (.inl rfl) rfl rfl) rfl) (by with_unfolding_all rfl))))),?_⟩;obtain ⟨dx,tp,tl,tg,hb,hp,hl,hP,hg⟩:=id B;refine ⟨_,rfl,b,dx,_,rfl,hb,rfl,_,rfl,b,z,ps,zs,gs,rfl,ht,B,fun hin=>?_,q2⟩;refine ⟨_,rfl,_,rfl,b,_,dx,_,.ref tg,rfl,hb,T.YV,T.Jcu,rfl,tg,_,rfl,.inr (JX.of hg),rfl,Jc7 gs,?_⟩;rw [if_neg Bool.false_ne_true,Jet];exact q1 hin
theorem Jdj (T:Txt K mg):JL P w K mg base (Zf P w) 3 T.JeI T.Jdq ["self", "place"] (JrU K T.JT T.JU):=by
 refine T.Zs.F.ok1 Jlh (fun vs H Q E h=>?_) (fun cdv A outer s H vs Q E hr h=>?_)
 ·obtain ⟨_,_,_,_,_,rfl,_⟩:=h;rfl
 ·obtain ⟨b,z,ps,zs,gs,rfl,ht,hlen,B,q1,q2⟩:=h;refine ⟨_,(@Je _ _ _ _ _ (@JW _ _ _ _ (@YB _ _ _ _ _ _ _ _ _ _ _ _ _ _ _ _ _ _ _ _ (@pv _ 0 _ _ rfl (.inl rfl) rfl rfl) T.YV T.Yb.m (Zb T) (hr.mono (by decide)) T.Yb.b .nil Y3 (@Ja _ _ _ _ _ (@pv _ 1 _ _ rfl (.inr (.inl rfl)) rfl rfl) (@Jc _) rfl) rfl rfl rfl) rfl) (@Ji _ _ _ (@Jw _ _ _ _ (@Y2 _ _ _ _ _ _ _ _ _ (@Jbo _) rfl T.JdU PyProof.Rows.boot_tuple (@Ja _ _ _ _ _ (@JeU _ _ _ _ _ _ _ 1 ["lane", "place"] [1] _ _ _ _ ["self", "place"] ((Jm JbQ).names) (by decide +kernel) (@JgJ _ _ _ _ (@YY _ _ _ _ _ (@pv _ 0 _ _ rfl (.inl rfl) rfl rfl) rfl)) (fun _ _ _ _=>(@Zr _ _ _ _ _ _ _ _ _ 0 (by decide +kernel) rfl rfl)) (fun _ _ _ _=>(@Jcs _ _ _ (@Jq _ _ _ _ _ _ _ _ (@Yl _) (@Jr _ _ _ _ _ _ _ (show IxR _ (Jir K) from (@Yg _)) (@YT _ _ _ _ _ _ _ _ _ 0 rfl rfl (by decide) (by decide)) (@Jd _ _ _ _) (fun _ _=>rfl)) (@Yn _ _ _ _ _ _ _ _ _ 1 rfl rfl (by decide) (by decide)) (Ju _)))) (fun _ _ _ _=>(@Jr _ _ _ _ _ _ _ (show IxR _ (Jir K) from (@Yg _)) (@YT _ _ _ _ _ _ _ _ _ 0 rfl rfl (by decide) (by decide)) (@Jd _ _ _ _) (fun _ _=>rfl))) rfl rfl rfl (by intro _; rfl)) (@Jc _) rfl) (by decide) (by decide) rfl rfl)))),?_⟩;obtain ⟨dx,tp,tl,tg,hb,hp,hl,hP,hg⟩:=id B;refine ⟨_,rfl,b,dx,_,rfl,hb,rfl,_,rfl,b,z,ps,zs,gs,rfl,ht,B,fun hin=>?_,q2⟩;refine ⟨_,rfl,b,_,dx,_,.ref tl,rfl,hb,T.YV,T.Jct,rfl,tl,rfl,⟨_,JX.of hl⟩,fun D hD=>?_⟩;refine JiL (xs:=zs.map (·.1)) (fun i ys H2=>Jf H H2∧H2 D=some (.lst ys)∧ys=(Jy ((zs.map (·.2)).take i) z).map V.str) rfl (fun i ys H2 p=>JX.of (p.1 _ _ hl)) ?_ (fun i ys H2 p=>p.2.1) ?_ ?_
  ·exact ⟨Jf.upd hD,Jh,by simp [Jy]⟩
  ·rintro i x ys H2 hx ⟨e2,hy,rfl⟩;rw [List.getElem?_map] at hx;obtain ⟨y,hy1,rfl⟩:=Option.map_eq_some_iff.mp hx;obtain ⟨a,ea,ha⟩:=hP y (List.mem_of_getElem? hy1);have ha2:=e2.tup ha;have step:(zs.map (·.2)).take (i + 1)=(zs.map (·.2)).take i ++ [y.2]:=by
    rw [List.take_succ,List.getElem?_map,hy1]; rfl
   have wstep:Jy ((zs.map (·.2)).take (i + 1)) z=Jy ((zs.map (·.2)).take i) z ++ (if y.2.1=z then [y.2.2] else []):=by
    unfold Jy;rw [step,List.filter_append,List.map_append];by_cases h:y.2.1=z
    ·simp [h]
    ·simp [h]
   have wl:(Jy ((zs.map (·.2)).take i) z).length≤40:=by
    unfold Jy;rw [List.length_map];refine Nat.le_trans (List.length_filter_le _ _) ?_;rw [List.length_take,List.length_map];omega
   refine ⟨_,rfl,a,_,_,.str y.2.1,ea,rfl,ha2,rfl,_,rfl,rfl,_,rfl,?_⟩;by_cases h:y.2.1=z
   ·refine Zc (by rw [h]; exact decide_eq_true rfl) ⟨_,rfl,a,_,_,.str y.2.2,ea,rfl,ha2,rfl,hy,by rw [List.length_map]; exact Nat.lt_of_le_of_lt wl (by decide),fun b' u e=>?_,Jh,?_⟩
    ·rw [Jz (JA e hD)]; exact e2 b' u e
    ·rw [wstep,if_pos h,List.map_append]; rfl
   ·refine Yq (decide_eq_false (fun e=>h (V.str.inj e))) ⟨e2,hy,?_⟩;rw [wstep,if_neg h,List.append_nil]
  ·rintro ys H2 ⟨e2,hy,rfl⟩;rw [List.length_map] at hy;rw [show zs.length=(zs.map (·.2)).length by simp,List.take_length] at hy;refine ⟨D,_,rfl,.inl ⟨Jp.of hy,fun t n=>?_⟩⟩;exact q1 hin t _ (e2.trans (Jf.upd n)) Jh
theorem JqS (T:Txt K mg):JL P w K mg base YK 2 T.Jkt T.JiC ["_law_cell", "_law_many"] Jqi:=by
 refine T.JkG.F.ok Za (fun vs H Q E h=>?_) (fun cdv A outer s H vs Q E hr h=>?_)
 ·obtain ⟨_,_,rfl,_⟩:=h;rfl
 ·obtain ⟨c,n,rfl,hn1,hn2,q⟩:=h;refine ⟨_,(@Je _ _ _ _ _ (@Jx _ _ 2 _ _ _ _ Za.nd rfl (Or.inr rfl) (@Js _ _ _ _) rfl (by first | exact .inl rfl | exact .inr rfl | assumption)) (@Je _ _ _ _ _ (@Yj _ _ _ (@Jx _ _ 3 _ _ _ _ Za.nd rfl (Or.inl rfl) (@Jl _ _ _ _ _ _ _ _ _ _ _ _ _ _ _ T.JjK (Jmc T) (hr.mono (by decide)) JG (@Ja _ _ _ _ _ (@Jk _ _ _ _ _ _ _ _ (@YL _) (@pv _ 0 _ _ rfl (.inl rfl) rfl rfl) (@Jd _ _ _ _)) (@Ja _ _ _ _ _ (@Jk _ _ _ _ _ _ _ _ (@Jaq _) (@Jd _ _ _ _) (@pv _ 1 _ _ rfl (.inl rfl) rfl rfl)) (@Ja _ _ _ _ _ (@Jd _ _ _ _) (@Jc _) rfl) rfl) rfl) rfl (by decide) rfl rfl) rfl (.inl rfl))) (@Je _ _ _ _ _ (@Jx _ _ 4 _ _ _ _ Za.nd rfl (Or.inl rfl) (@J7 _ _ _ _ (@Jc _)) rfl (.inl rfl)) (@Je _ _ _ _ _ (@YH _ _ _ _ _ _ _ _ PassesOwn.never rfl (@Yx _ _ _ _ _ _ rfl T.YM (@Ja _ _ _ _ _ (@pv _ 1 _ _ rfl (.inl rfl) rfl rfl) (@Jc _) rfl) rfl) (@JS _ _ 5 _ Za.nd rfl (Or.inl rfl) (.inl rfl)) (@Je _ _ _ _ _ (@Jx _ _ 6 _ _ _ _ Za.nd rfl (Or.inl rfl) (@Jit _ _ _ _ _ _ _ _ _ _ (@JjU _) (@pv _ 3 _ _ rfl (.inl rfl) rfl rfl) (@JhG _ _ _ (@Jk _ _ _ _ _ _ _ _ (@Jaq _) (@Jd _ _ _ _) (@pv _ 5 _ _ rfl (.inl rfl) rfl rfl))) (@JhG _ _ _ (@Jk _ _ _ _ _ _ _ _ (@JM _) (@Jk _ _ _ _ _ _ _ _ (@Jaq _) (@Jd _ _ _ _) (@pv _ 5 _ _ rfl (.inl rfl) rfl rfl)) (@Jd _ _ _ _)))) rfl (.inl rfl)) (@Je _ _ _ _ _ (@Jx _ _ 7 _ _ _ _ Za.nd rfl (Or.inl rfl) (@Jk _ _ _ _ _ _ _ _ (@JM _) (@Jd _ _ _ _) (@Jk _ _ _ _ _ _ _ _ (@JZ _) (@Jr _ _ _ _ _ _ _ (@JE _) (@pv _ 3 _ _ rfl (.inl rfl) rfl rfl) (@Jk _ _ _ _ _ _ _ _ (@JM _) (@Jk _ _ _ _ _ _ _ _ (@Jaq _) (@Jd _ _ _ _) (@pv _ 5 _ _ rfl (.inl rfl) rfl rfl)) (@Jd _ _ _ _)) (fun _ _=>rfl)) (@Jd _ _ _ _))) rfl (.inl rfl)) (@Je _ _ _ _ _ (@Yj _ _ _ (@JN _ _ _ _ _ _ _ _ (@Jq _ _ _ _ _ _ _ _ (@Yl _) (@Jk _ _ _ _ _ _ _ _ (@JZ _) (@pv _ 0 _ _ rfl (.inl rfl) rfl rfl) (@Jd _ _ _ _)) (@Jd _ _ _ _) (Ju _)) (@Je _ _ _ _ _ (@Jx _ _ 6 _ _ _ _ Za.nd rfl (Or.inl rfl) (@Jit _ _ _ _ _ _ _ _ _ _ (@JjU _) (@pv _ 3 _ _ rfl (.inl rfl) rfl rfl) (@Jnv _) (@JhG _ _ _ (@Jd _ _ _ _))) rfl (.inl rfl)) (@Je _ _ _ _ _ (@Jx _ _ 7 _ _ _ _ Za.nd rfl (Or.inl rfl) (@Jk _ _ _ _ _ _ _ _ (@JM _) (@Jd _ _ _ _) (@Jk _ _ _ _ _ _ _ _ (@JZ _) (@Jr _ _ _ _ _ _ _ (@JE _) (@pv _ 3 _ _ rfl (.inl rfl) rfl rfl) (@Jd _ _ _ _) (fun _ _=>rfl)) (@Jd _ _ _ _))) rfl (.inl rfl)) (@Ji _ _ _ (@JgG _ _ _ _ _ _ (@Jk _ _ _ _ _ _ _ _ (@JZ _) (@Jk _ _ _ _ _ _ _ _ (@JM _) (@Jr _ _ _ _ _ _ _ (@JE _) (@pv _ 3 _ _ rfl (.inl rfl) rfl rfl) (@Jd _ _ _ _) (fun _ _=>rfl)) (@Jk _ _ _ _ _ _ _ _ (@Jaq _) (@Jd _ _ _ _) (@pv _ 5 _ _ rfl (.inl rfl) rfl rfl))) (@Jd _ _ _ _)) (@Jtb _ _ _ _ _ _ _ (@pv _ 6 _ _ rfl (.inl rfl) rfl rfl) (@Jk _ _ _ _ _ _ _ _ (@JZ _) (@Jr _ _ _ _ _ _ _ (@JE _) (@pv _ 3 _ _ rfl (.inl rfl) rfl rfl) (@Jd _ _ _ _) (fun _ _=>rfl)) (@pv _ 7 _ _ rfl (.inl rfl) rfl rfl)) (@Jqv _) (by intro _; rfl)) rfl rfl rfl)))) (@JD _))) (@Je _ _ _ _ _ (@Yj _ _ _ (@JN _ _ _ _ _ _ _ _ (@Jq _ _ _ _ _ _ _ _ (@Yl _) (@Jk _ _ _ _ _ _ _ _ (@JZ _) (@pv _ 0 _ _ rfl (.inl rfl) rfl rfl) (@Jd _ _ _ _)) (@Jd _ _ _ _) (Ju _)) (@Je _ _ _ _ _ (@Jx _ _ 6 _ _ _ _ Za.nd rfl (Or.inl rfl) (@Jk _ _ _ _ _ _ _ _ (@Jte _) (@J7 _ _ _ _ (@Ja _ _ _ _ _ (@Jk _ _ _ _ _ _ _ _ (@JZ _) (@Jk _ _ _ _ _ _ _ _ (@JM _) (@Jr _ _ _ _ _ _ _ (@JE _) (@pv _ 3 _ _ rfl (.inl rfl) rfl rfl) (@Jd _ _ _ _) (fun _ _=>rfl)) (@Jk _ _ _ _ _ _ _ _ (@YL _) (@pv _ 5 _ _ rfl (.inl rfl) rfl rfl) (@Jd _ _ _ _))) (@Jd _ _ _ _)) (@Jc _) rfl)) (@Jd _ _ _ _)) rfl (.inl rfl)) (@Ji _ _ _ (@Jx _ _ 7 _ _ _ _ Za.nd rfl (Or.inl rfl) (@Jk _ _ _ _ _ _ _ _ (@JM _) (@Jd _ _ _ _) (@Jk _ _ _ _ _ _ _ _ (@JZ _) (@Jk _ _ _ _ _ _ _ _ (@JM _) (@pv _ 5 _ _ rfl (.inl rfl) rfl rfl) (@Jr _ _ _ _ _ _ _ (@JE _) (@pv _ 3 _ _ rfl (.inl rfl) rfl rfl) (@Jd _ _ _ _) (fun _ _=>rfl))) (@Jd _ _ _ _))) rfl (.inl rfl)))) (@JD _))) (@Je _ _ _ _ _ (@Yj _ _ _ (@Jx _ _ 8 _ _ _ _ Za.nd rfl (Or.inl rfl) (@Jbl _ _ _ _ _ _ _ _ _ _ _ _ PySem.F.plainAttrs_str PySem.F.slot_str_join PySem.F.type_str_join (@Jso _) (@Js _ _ _ _) (@Ja _ _ _ _ _ (@JeU _ _ _ _ _ _ _ 1 ["_law_x", "_law_letters"] [2] _ _ _ _ ["_law_cell", "_law_many", "_law_letters", "_law_free", "_law_found", "_law_k", "_law_places", "_law_size", "_law_head", "_law_more", "_law_name"] ((Jm JhC).names) (by decide +kernel) (@Zn _ _ _ _ (@Jit _ _ _ _ _ _ _ _ _ _ (@JjU _) (@pv _ 6 _ _ rfl (.inl rfl) rfl rfl) (@Jnv _) (@JhG _ _ _ (@Jk _ _ _ _ _ _ _ _ (@Y8 _) (@pv _ 7 _ _ rfl (.inl rfl) rfl rfl) (@Jd _ _ _ _))))) (fun _ _ _ _=>(@Zr _ _ _ _ _ _ _ _ _ 0 (by decide +kernel) rfl rfl)) (fun _ _ _ _=>(@JbC _)) (fun _ _ _ _=>(@Jr _ _ _ _ _ _ _ (@Jpx _) (@Yn _ _ _ _ _ _ _ _ _ 1 rfl rfl (by decide) (by decide)) (@YT _ _ _ _ _ _ _ _ _ 0 rfl rfl (by decide) (by decide)) (fun _ _=>rfl))) rfl rfl rfl (by intro _; rfl)) (@Jc _) rfl) rfl rfl rfl rfl rfl) rfl (.inl rfl))) (@Ji _ _ _ (@YH _ _ _ _ _ _ _ _ PassesOwn.never rfl (@Yx _ _ _ _ _ _ rfl T.YM (@Ja _ _ _ _ _ (@Jd _ _ _ _) (@Jc _) rfl) rfl) (@JS _ _ 9 _ Za.nd rfl (Or.inl rfl) (.inl rfl)) (@Je _ _ _ _ _ (@Jx _ _ 10 _ _ _ _ Za.nd rfl (Or.inl rfl) (@Jk _ _ _ _ _ _ _ _ (@Ji7 _) (@pv _ 8 _ _ rfl (.inl rfl) rfl rfl) (@Jr _ _ _ _ _ _ _ (@Jpx _) (@pv _ 2 _ _ rfl (.inr (.inl rfl)) rfl rfl) (@Jk _ _ _ _ _ _ _ _ (@JZ _) (@Jk _ _ _ _ _ _ _ _ (@JM _) (@Jr _ _ _ _ _ _ _ (@JE _) (@pv _ 6 _ _ rfl (.inl rfl) rfl rfl) (@Jk _ _ _ _ _ _ _ _ (@Y8 _) (@pv _ 7 _ _ rfl (.inl rfl) rfl rfl) (@Jd _ _ _ _)) (fun _ _=>rfl)) (@pv _ 9 _ _ rfl (.inl rfl) rfl rfl)) (@Jd _ _ _ _)) (fun _ _=>rfl))) rfl (.inl rfl)) (@Ji _ _ _ (@JN _ _ _ _ _ _ _ _ (@Jq _ _ _ _ _ _ _ _ (@JbX _) (@pv _ 10 _ _ rfl (.inl rfl) rfl rfl) (@pv _ 4 _ _ rfl (.inl rfl) rfl rfl) (by with_unfolding_all rfl)) (@Je _ _ _ _ _ (@JW _ _ _ _ (@Jbl _ _ _ _ _ _ _ _ _ _ _ _ PySem.F.plainAttrs_list PySem.F.slot_list_append PySem.F.type_list_append (@Zg _) (@pv _ 4 _ _ rfl (.inl rfl) rfl rfl) (@Ja _ _ _ _ _ (@pv _ 10 _ _ rfl (.inl rfl) rfl rfl) (@Jc _) rfl) rfl rfl rfl rfl rfl) rfl) (@Ji _ _ _ (@JqK _ _))) (@JD _)))) (by intro _; rfl)))))))) (by intro _; rfl)) (@Ji _ _ _ (@Jw _ _ _ _ (@pv _ 4 _ _ rfl (.inl rfl) rfl rfl))))))),?_⟩;refine ⟨fun σ1 H1=>∃ (pf:Addr) (fs:List Int),Jf H H1∧H1 pf=some (.lst (fs.map V.int))∧fs.length=7 * n∧(∀ x∈fs,0≤x∧x < 26)∧σ1=[some (.int c),some (.int n),some (.str LT),some (.ref pf),none,none,none,none,none,none,none],
   ⟨_,rfl,_,_,rfl,rfl,⟨by decide,by decide⟩,_,rfl,_,_,rfl,rfl,.inl ⟨by decide,by decide⟩,c / 4,7 * n,26,congrArg (fun z=>[V.int (c / 4),V.int z,V.int 26]) (by omega:7 * (n:Int)=((7 * n:Nat):Int)),by omega,by decide,by decide,fun pf fs H1 h1 e1 h2 h3 h4=>⟨pf,fs,e1,h2,h3,h4,rfl⟩⟩,?_⟩
  rintro σ1 H1 ⟨pf,fs,e1,hf,hfl,hfr,rfl⟩;refine ⟨by show 0≤sizeLine; decide,fun pl hpl=>?_⟩;have npl:H pl=none:=by
   cases hd:H pl with
   | none=>rfl
   | some u=>rw [e1 _ _ hd] at hpl; cases hpl
  have sl:=hfl;refine ⟨_,rfl,(n:Int),rfl,by omega,by omega,?_⟩;refine YU (n:=n) (fun i σ H2=>∃ (ss:List Str) (v5 v6 v7 v8 v9 v10:Option V),Jf H1 H2∧H2 pl=some (.lst (ss.map V.str))∧ss.length=i∧(∀ s∈ss,YJ s=true)∧ss.Nodup∧σ=[some (.int c),some (.int n),some (.str LT),some (.ref pf),some (.ref pl),v5,v6,v7,v8,v9,v10])
   ⟨[],none,none,none,none,none,none,Jf.upd hpl,Jh,rfl,(fun s hs=>nomatch hs),List.nodup_nil,rfl⟩ ?_ ?_
  ·rintro i σ H2 hi ⟨ss,v5,v6,v7,v8,v9,v10,e2,hs2,hsl,hsg,hsn,rfl⟩;have hf2:=Jp.of (K:=K) (e2 _ _ hf);have at_:∀ {H':Hp} {e:Int},Jf H2 H'→0≤e→e < 7 * n→∃ y,(0≤y∧y < 26)∧atI (fs.map V.int) e=some (.int y):=fun {H' e} _ h0 h1=>by
    obtain ⟨y,h2,h3⟩:=JdX (xs:=fs) (e:=e) h0 (by omega);exact ⟨y,hfr y h3,h2⟩
   refine ⟨_,rfl,_,rfl,_,_,rfl,rfl,.inl ⟨by decide,by decide⟩,_,rfl,_,rfl,_,_,rfl,rfl,.inl ⟨by decide,by decide⟩,_,_,rfl,rfl,_,rfl,pf,_,rfl,hf2,fun p1 n1=>?_⟩;obtain ⟨ys1,ey1,my1⟩:=JmJ (xs:=fs) (lo:=some (7 * (0 + (i:Int)))) (hi:=some (7 * (0 + (i:Int)) + 6));have ly1:ys1.length=6:=by
    have z:=congrArg List.length ey1;rw [List.length_map] at z;rw [← z];unfold Jbe;rw [List.length_map];have a1:HT.sIx fs.length 0 (some (7 * (0 + (i:Int))))=7 * i:=by
     rw [show (7 * (0 + (i:Int)))=((7 * i:Nat):Int) by omega,HT.Jnr];omega
    have a2:HT.sIx fs.length fs.length (some (7 * (0 + (i:Int)) + 6))=7 * i + 6:=by
     rw [show (7 * (0 + (i:Int)) + 6)=((7 * i + 6:Nat):Int) by omega,HT.Jnr];omega
    rw [a1,a2,List.length_take,List.length_drop,List.length_map];omega
   have e3:=Jf.upd (o:=.lst (Jbe (fs.map V.int) (some (7 * (0 + (i:Int)))) (some (7 * (0 + (i:Int)) + 6)))) n1;have h3:upd H2 p1 (.lst (Jbe (fs.map V.int) (some (7 * (0 + (i:Int)))) (some (7 * (0 + (i:Int)) + 6)))) p1=some (.lst (ys1.map V.int)):=by rw [Jh,ey1]
   generalize upd H2 p1 (.lst (Jbe (fs.map V.int) (some (7 * (0 + (i:Int)))) (some (7 * (0 + (i:Int)) + 6))))=H3 at e3 h3;obtain ⟨y1,yr1,ya1⟩:=at_ e3 (e:=7 * (0 + (i:Int)) + 6) (by omega) (by omega);refine ⟨_,rfl,_,rfl,_,_,rfl,rfl,.inl ⟨by decide,by decide⟩,_,_,rfl,rfl,pf,_,_,.int y1,rfl,rfl,e3.seq hf2,ya1,_,_,rfl,rfl,(by show (0:Int) < 6; decide),_,_,rfl,rfl,?_⟩;refine ⟨fun σ1 H4=>∃ (pp:Addr) (xs:List Int) (sz:Int),Jf H2 H4∧H4 pp=some (.lst (xs.map V.int))∧xs.length=6∧(∀ x∈xs,0≤x∧x < 26)∧1≤sz∧sz≤6∧σ1=[some (.int c),some (.int n),some (.str LT),some (.ref pf),some (.ref pl),some (.int (0 + (i:Int))),some (.ref pp),some (.int sz),v8,v9,v10],?_,?_⟩
   ·refine ⟨_,rfl,_,_,rfl,rfl,(by show (0:Int) < 4; decide),rfl,_,rfl,Yp (fun _=>?_) (fun _=>?_)⟩
    ·refine ⟨_,rfl,_,rfl,pf,_,rfl,e3.seq hf2,fun p4 n4=>?_⟩;obtain ⟨ys2,ey2,my2⟩:=JmJ (xs:=fs) (lo:=none) (hi:=some 6);have ly2:ys2.length=6:=by
      have z:=congrArg List.length ey2;rw [List.length_map] at z;have z2:=JnK (xs:=fs) (k:=6) (by decide) (by omega);omega
     have n42:H2 p4=none:=by
      cases hd:H2 p4 with
      | none=>rfl
      | some u=>rw [e3 _ _ hd] at n4; cases n4
     have e4:=e3.trans (Jf.upd (o:=.lst (Jbe (fs.map V.int) none (some 6))) n4);obtain ⟨y6,yr6,ya6⟩:=at_ e4 (e:=6) (by omega) (by omega);refine ⟨_,rfl,pf,_,_,.int y6,rfl,rfl,e4.seq hf2,ya6,_,_,rfl,rfl,(by show (0:Int) < 6; decide),_,_,rfl,rfl,?_⟩;obtain ⟨y0,yr0,ya0⟩:=at_ e4 (e:=0) (by omega) (by omega);obtain ⟨yo,yro,yao⟩:=at_ e4 (e:=1) (by omega) (by omega);have hsz1:1≤1 + y6 % 6∧1 + y6 % 6≤6:=by omega
     refine ⟨_,rfl,pf,_,_,.int yo,rfl,rfl,e4.seq hf2,yao,_,rfl,_,_,rfl,rfl,.inl ⟨by decide,by decide⟩,_,_,rfl,rfl,_,_,rfl,rfl,(by show (0:Int) < 26; decide),?_⟩;have hj0:=Int.emod_nonneg y0 (b:=1 + y6 % 6) (by omega);have hj1:=Int.emod_lt_of_pos y0 (b:=1 + y6 % 6) (by omega);refine ⟨_,rfl,_,rfl,pf,_,_,.int y0,rfl,rfl,e4.seq hf2,ya0,_,rfl,_,_,rfl,rfl,(by show (0:Int) < 1 + y6 % 6; omega),p4,_,_,(y0 % (1 + y6 % 6)).toNat,rfl,rfl,Jh,?_,?_⟩
     ·rw [ey2,List.length_map,ly2];unfold ixN;rw [if_pos hj0,if_pos (by omega)]
     ·refine ⟨p4,ys2.set (y0 % (1 + y6 % 6)).toNat ((yo + 5 * (0 + (i:Int))) % 26),1 + y6 % 6,fun b u e=>?_,?_,by rw [List.length_set]; exact ly2,fun x hx=>?_,hsz1.1,hsz1.2,rfl⟩
      ·rw [Jz (JA e n42)]; exact e4 b u e
      ·rw [Jh,ey2,List.map_set]
      ·rcases List.mem_or_eq_of_mem_set hx with w | w
       ·exact hfr x (my2 x w)
       ·rw [w]; omega
    ·exact ⟨p1,ys1,1 + y1 % 6,e3,h3,ly1,fun x hx=>hfr x (my1 x hx),by omega,by omega,rfl⟩
   rintro σ1 H4 ⟨pp,xs,sz,e4,hx4,lx4,rx4,s41,s42,rfl⟩;refine ⟨fun σ1 H4=>∃ (pp:Addr) (xs:List Int) (sz:Int),Jf H2 H4∧H4 pp=some (.lst (xs.map V.int))∧xs.length=6∧(∀ x∈xs,0≤x∧x < 26)∧1≤sz∧sz≤6∧σ1=[some (.int c),some (.int n),some (.str LT),some (.ref pf),some (.ref pl),some (.int (0 + (i:Int))),some (.ref pp),some (.int sz),v8,v9,v10],?_,?_⟩
   ·refine ⟨_,rfl,_,_,rfl,rfl,(by show (0:Int) < 4; decide),rfl,_,rfl,Yp (fun _=>?_) (fun _=>⟨pp,xs,sz,e4,hx4,lx4,rx4,s41,s42,rfl⟩)⟩;obtain ⟨yo,yro,yao⟩:=at_ e4 (e:=1) (by omega) (by omega);refine ⟨_,rfl,pf,_,_,.int yo,rfl,rfl,e4.seq hf2,yao,_,rfl,_,_,rfl,rfl,⟨by decide,by decide⟩,_,_,rfl,rfl,_,_,rfl,rfl,(by show (0:Int) < 26; decide),by show 1≤sizeLine; decide,fun p5 n5=>?_⟩;have e5:=e4.trans (Jf.upd (o:=.lst [.int ((yo + (0 + (i:Int)) / 6) % 26)]) n5);refine ⟨p5,6,_,rfl,rfl,Jh,by decide,by decide,by show 1 * 6≤sizeLine; decide,fun p6 n6=>?_⟩;have e6:=e5.trans (Jf.upd (o:=.lst (List.replicate (6:Int).toNat [V.int ((yo + (0 + (i:Int)) / 6) % 26)]).flatten) n6);obtain ⟨y0,yr0,ya0⟩:=at_ e6 (e:=0) (by omega) (by omega);refine ⟨_,rfl,_,rfl,pf,_,_,.int y0,rfl,rfl,e6.seq hf2,ya0,_,_,rfl,rfl,_,_,rfl,rfl,(by show (0:Int) < 6; decide),_,_,rfl,rfl,?_⟩;refine ⟨p6,List.replicate 6 ((yo + (0 + (i:Int)) / 6) % 26),_,e6,?_,by simp,fun x hx=>?_,?_,?_,rfl⟩
    ·rw [Jh]; rfl
    ·rw [(List.mem_replicate.mp hx).2]; omega
    ·omega
    ·omega
   clear hx4 lx4 rx4 s41 s42 e4 pp xs sz H4 e3 h3 H3 ya1 yr1 y1 ly1 my1 ey1 ys1;rintro σ1 H4 ⟨pp,xs,sz,e4,hx4,lx4,rx4,s41,s42,rfl⟩;refine ⟨fun σ1 H5=>∃ hd:Str,Jf H2 H5∧H5 pp=some (.lst (xs.map V.int))∧hd.length≤5∧(∀ c∈hd.cps.toList,Z1 c=true)∧σ1=[some (.int c),some (.int n),some (.str LT),some (.ref pf),some (.ref pl),some (.int (0 + (i:Int))),some (.ref pp),some (.int sz),some (.str hd),v9,v10],?_,?_⟩
   ·refine ⟨rfl,_,rfl,_,rfl,_,_,rfl,rfl,_,rfl,pp,_,rfl,Jp.of hx4,fun p5 n5=>⟨p5,rfl,⟨_,Jp.of Jh⟩,fun D hD=>?_⟩⟩;have e5:=Jf.upd (o:=.lst (Jbe (xs.map V.int) none (some (sz - 1)))) n5;have hcl:=JnK (xs:=xs) (k:=sz - 1) (by omega) (by omega);refine Jk3 (xs:=Jbe (xs.map V.int) none (some (sz - 1))) (fun _ v=>∃ c,v=.str ⟨#[c]⟩∧Z1 c=true) rfl (Jp.of Jh) hD (by have:sizeLine=16777216:=sizeLine_eq; omega) (fun i x H6 hx6 e6 Q' hQ=>?_) (fun ys H6 e6 hD6 hl6 hF=>?_)
    ·obtain ⟨j,hj,rfl⟩:=List.mem_map.mp (Jsq (List.mem_of_getElem? hx6));obtain ⟨hj0,hj1⟩:=rx4 j hj;exact ⟨_,rfl,_,rfl,_,_,_,rfl,rfl,Jp4,JkU hj0 hj1,hQ _ ⟨_,rfl,JlP (by omega)⟩⟩
    ·obtain ⟨zs,rfl,hz⟩:∃ zs:List Str,ys=zs.map V.str∧∀ y∈zs,∃ c,y=⟨#[c]⟩∧Z1 c=true:=by
      clear hD6 hl6
      induction ys with
      | nil=>exact ⟨[],rfl,fun u hu=>nomatch hu⟩
      | cons v r ih =>
       obtain ⟨zs,rfl,hz⟩:=ih fun i v' e=>hF (i + 1) v' (by simpa using e)
       obtain ⟨d,rfl,hu⟩:=hF 0 v rfl;refine ⟨⟨#[d]⟩ :: zs,rfl,fun u' h'=>?_⟩;rcases List.mem_cons.mp h' with rfl | h'
       ·exact ⟨d,rfl,hu⟩
       ·exact hz u' h'
     rw [List.length_map] at hl6;obtain ⟨j1,j2⟩:=Jjl hz;have ej:Txt.join Str.empty zs=Str.join Str.empty zs:=StrLaws.glued_eq_join _ _;have hsum:(zs.map (·.length)).sum=zs.length:=PyProof.Rows.sumLen_of_ones zs fun u hu=>by
      obtain ⟨d,rfl,_⟩:=hz u hu;rfl
     refine ⟨_,D,zs,rfl,rfl,Jp.of hD6,by show _ + zs.length * 0≤_; omega,Txt.join Str.empty zs,(e4.trans e5).trans e6,e6 _ _ (e5 _ _ hx4),?_,?_,rfl⟩
     ·rw [ej,j1]; omega
     ·rw [ej]; exact j2
   rintro σ1 H5 ⟨hd,e5,hx5,hd1,hd2,rfl⟩;obtain ⟨x,hxa,hxm⟩:=JdX (xs:=xs) (e:=sz - 1) (by omega) (by omega);have hs5:=e5 _ _ hs2;refine ⟨26,rfl,by decide,by decide,YU (n:=26) (fun j σ H6=>H6=H5∧(∀ m:Nat,m < j→nam hd ((x + m) % 26).toNat∈ss)∧∃ v9 v10,σ=[some (.int c),some (.int n),some (.str LT),some (.ref pf),some (.ref pl),some (.int (0 + (i:Int))),some (.ref pp),some (.int sz),some (.str hd),v9,v10]) ⟨rfl,fun m hm=>absurd hm (Nat.not_lt_zero _),_,_,rfl⟩ ?_ ?_⟩
   ·rintro j σ H6 hj ⟨rfl,hin,v9,v10,rfl⟩;have m0:=Int.emod_nonneg (x + (0 + (j:Int))) (b:=26) (by decide);have m1:=Int.emod_lt_of_pos (x + (0 + (j:Int))) (b:=26) (by decide);have en:(x + (0 + (j:Int))) % 26=(x + (j:Nat)) % 26:=by rw [Int.zero_add]
    refine ⟨_,rfl,_,rfl,_,rfl,_,rfl,_,_,rfl,rfl,pp,_,_,.int x,rfl,rfl,Jp.of hx5,hxa,_,rfl,_,_,rfl,rfl,_,_,rfl,rfl,(by show (0:Int) < 26; decide),_,_,_,rfl,rfl,Jp4,JkU m0 m1,_,_,rfl,rfl,?_,?_⟩
    ·show hd.length + 1≤sizeLine;have:sizeLine=16777216:=sizeLine_eq;omega
    ·refine ⟨_,rfl,_,rfl,pl,_,rfl,.inl (Jp.of hs5),rfl,Jc7 ss,_,rfl,?_⟩;rw [if_pos rfl,Jet];show if (!decide (nam hd ((x + (0 + (j:Int))) % 26).toNat∈ss))=true then _ else _;rw [en];by_cases hmem:nam hd ((x + (j:Nat)) % 26).toNat∈ss
     ·refine Yq (by rw [decide_eq_true hmem]; rfl) ⟨rfl,fun m hm=>?_,_,_,rfl⟩;by_cases hmj:m=j
      ·rw [hmj]; exact hmem
      ·exact hin m (by omega)
     ·refine Zc (by rw [decide_eq_false hmem]; rfl) ?_;refine ⟨_,rfl,.inl ⟨rfl,_,Jp.of hs5⟩,_,rfl,pl,_,_,rfl,rfl,hs5,by rw [List.length_map]; have:sizeLine=16777216:=sizeLine_eq; omega,?_⟩;refine ⟨ss ++ [nam hd ((x + (j:Nat)) % 26).toNat],_,_,_,_,_,_,fun b u e=>?_,?_,by simp [hsl],fun s hs=>?_,?_,rfl⟩
      ·rw [Jz (JA e hpl)]; exact e5 b u (e2 b u e)
      ·rw [Jh,List.map_append];rfl
      ·rcases List.mem_append.mp hs with w | w
       ·exact hsg s w
       ·rw [List.mem_singleton.mp w];exact JqY hd1 hd2 (by rw [en] at m0 m1; omega)
      ·rw [List.nodup_append];refine ⟨hsn,by simp,fun a ha b hb e=>?_⟩;rw [List.mem_singleton] at hb;subst hb e;exact hmem ha
   ·rintro σ H6 ⟨rfl,hin,_⟩;exact (JqZ (x:=x) (ss:=ss) (by omega) fun m hm=>hin m hm).elim
  ·rintro σ H2 ⟨ss,v5,v6,v7,v8,v9,v10,e2,hs2,hsl,hsg,hsn,rfl⟩;exact ⟨_,rfl,q pl ss H2 npl (e1.trans e2) hs2 hsl hsg hsn⟩
theorem JqR (T:Txt K mg):JL P w K mg base YK 2 T.Jks T.JiB ["_law_cell", "_law_draw", "_law_size"] (Jqg K):=by
 refine T.JkF.F.ok ZL (fun vs H Q E h=>?_) (fun cdv A outer s H vs Q E hr h=>?_)
 ·obtain ⟨_,_,_,rfl,_⟩:=h;rfl
 ·obtain ⟨c,d,n,rfl,hn1,hn2,q⟩:=h;have hu:=Ja1 hr;have szl:sizeLine=16777216:=sizeLine_eq;refine ⟨_,(@Je _ _ _ _ _ (@Jx _ _ 3 _ _ _ _ ZL.nd rfl (Or.inl rfl) (@J7 _ _ _ _ (@Jc _)) rfl (.inl rfl)) (@Je _ _ _ _ _ (@Jx _ _ 4 _ _ _ _ ZL.nd rfl (Or.inl rfl) (@Jk _ _ _ _ _ _ _ _ (@JZ _) (@Jk _ _ _ _ _ _ _ _ (@YL _) (@pv _ 0 _ _ rfl (.inl rfl) rfl rfl) (@Jd _ _ _ _)) (@Jd _ _ _ _)) rfl (.inl rfl)) (@Je _ _ _ _ _ (@Yj _ _ _ (@JN _ _ _ _ _ _ _ _ (@Jq _ _ _ _ _ _ _ _ (@Yl _) (@Jk _ _ _ _ _ _ _ _ (@JZ _) (@pv _ 0 _ _ rfl (.inl rfl) rfl rfl) (@Jd _ _ _ _)) (@Jd _ _ _ _) (Ju _)) (@Ji _ _ _ (@YH _ _ _ _ _ _ _ _ PassesOwn.never rfl (@Yx _ _ _ _ _ _ rfl T.YM (@Ja _ _ _ _ _ (@Jk _ _ _ _ _ _ _ _ (@Y8 _) (@pv _ 2 _ _ rfl (.inl rfl) rfl rfl) (@Jd _ _ _ _)) (@Jc _) rfl) rfl) (@JS _ _ 5 _ ZL.nd rfl (Or.inl rfl) (.inl rfl)) (@Je _ _ _ _ _ (@JW _ _ _ _ (@Jbl _ _ _ _ _ _ _ _ _ _ _ _ PySem.F.plainAttrs_list PySem.F.slot_list_append PySem.F.type_list_append (@Zg _) (@pv _ 3 _ _ rfl (.inl rfl) rfl rfl) (@Ja _ _ _ _ _ (@Yz _ _ _ _ _ (@Ja _ _ _ _ _ (@pv _ 5 _ _ rfl (.inl rfl) rfl rfl) (@Ja _ _ _ _ _ (@Jk _ _ _ _ _ _ _ _ (@JM _) (@pv _ 5 _ _ rfl (.inl rfl) rfl rfl) (@Jd _ _ _ _)) (@Jc _) rfl) rfl)) (@Jc _) rfl) rfl rfl rfl rfl rfl) rfl) (@Ji _ _ _ (@JW _ _ _ _ (@Jbl _ _ _ _ _ _ _ _ _ _ _ _ PySem.F.plainAttrs_list PySem.F.slot_list_append PySem.F.type_list_append (@Zg _) (@pv _ 3 _ _ rfl (.inl rfl) rfl rfl) (@Ja _ _ _ _ _ (@Yz _ _ _ _ _ (@Ja _ _ _ _ _ (@pv _ 5 _ _ rfl (.inl rfl) rfl rfl) (@Ja _ _ _ _ _ (@JH _ _ _ _ _ _ _ _ _ (@Jhm _ rfl) rfl T.Jjg PyProof.Rows.boot_max (@Ja _ _ _ _ _ (@Jd _ _ _ _) (@Ja _ _ _ _ _ (@Jk _ _ _ _ _ _ _ _ (@Y8 _) (@pv _ 5 _ _ rfl (.inl rfl) rfl rfl) (@Jd _ _ _ _)) (@Jc _) rfl) rfl) (by decide) (by decide) rfl rfl) (@Jc _) rfl) rfl)) (@Jc _) rfl) rfl rfl rfl rfl rfl) rfl))) (by intro _; rfl))) (@JD _))) (@Je _ _ _ _ _ (@Yj _ _ _ (@JN _ _ _ _ _ _ _ _ (@Jq _ _ _ _ _ _ _ _ (@Yl _) (@Jk _ _ _ _ _ _ _ _ (@JZ _) (@pv _ 0 _ _ rfl (.inl rfl) rfl rfl) (@Jd _ _ _ _)) (@Jd _ _ _ _) (Ju _)) (@Ji _ _ _ (@YH _ _ _ _ _ _ _ _ PassesOwn.never rfl (@Jpc _ _ _ _ _ _ _ rfl T.YM (@Ja _ _ _ _ _ (@Jd _ _ _ _) (@Ja _ _ _ _ _ (@Jk _ _ _ _ _ _ _ _ (@Y8 _) (@pv _ 2 _ _ rfl (.inl rfl) rfl rfl) (@Jd _ _ _ _)) (@Jc _) rfl) rfl) rfl rfl) (@JS _ _ 5 _ ZL.nd rfl (Or.inl rfl) (.inl rfl)) (@Je _ _ _ _ _ (@JW _ _ _ _ (@Jbl _ _ _ _ _ _ _ _ _ _ _ _ PySem.F.plainAttrs_list PySem.F.slot_list_append PySem.F.type_list_append (@Zg _) (@pv _ 3 _ _ rfl (.inl rfl) rfl rfl) (@Ja _ _ _ _ _ (@Yz _ _ _ _ _ (@Ja _ _ _ _ _ (@pv _ 5 _ _ rfl (.inl rfl) rfl rfl) (@Ja _ _ _ _ _ (@Jk _ _ _ _ _ _ _ _ (@JM _) (@pv _ 5 _ _ rfl (.inl rfl) rfl rfl) (@Jd _ _ _ _)) (@Jc _) rfl) rfl)) (@Jc _) rfl) rfl rfl rfl rfl rfl) rfl) (@Ji _ _ _ (@JW _ _ _ _ (@Jbl _ _ _ _ _ _ _ _ _ _ _ _ PySem.F.plainAttrs_list PySem.F.slot_list_append PySem.F.type_list_append (@Zg _) (@pv _ 3 _ _ rfl (.inl rfl) rfl rfl) (@Ja _ _ _ _ _ (@Yz _ _ _ _ _ (@Ja _ _ _ _ _ (@pv _ 5 _ _ rfl (.inl rfl) rfl rfl) (@Ja _ _ _ _ _ (@Jd _ _ _ _) (@Jc _) rfl) rfl)) (@Jc _) rfl) rfl rfl rfl rfl rfl) rfl))) (by intro _; rfl))) (@JD _))) (@Je _ _ _ _ _ (@Yj _ _ _ (@JN _ _ _ _ _ _ _ _ (@Jq _ _ _ _ _ _ _ _ (@Yl _) (@Jk _ _ _ _ _ _ _ _ (@JZ _) (@pv _ 0 _ _ rfl (.inl rfl) rfl rfl) (@Jd _ _ _ _)) (@Jd _ _ _ _) (Ju _)) (@Ji _ _ _ (@Jx _ _ 4 _ _ _ _ ZL.nd rfl (Or.inl rfl) (@Jk _ _ _ _ _ _ _ _ (@Jaq _) (@Jd _ _ _ _) (@JH _ _ _ _ _ _ _ _ _ (@Jhm _ rfl) rfl T.Jjg PyProof.Rows.boot_max (@Ja _ _ _ _ _ (@Jd _ _ _ _) (@Ja _ _ _ _ _ (@Jk _ _ _ _ _ _ _ _ (@Y8 _) (@pv _ 2 _ _ rfl (.inl rfl) rfl rfl) (@Jd _ _ _ _)) (@Jc _) rfl) rfl) (by decide) (by decide) rfl rfl)) rfl (.inl rfl))) (@JD _))) (@Je _ _ _ _ _ (@Yj _ _ _ (@JN _ _ _ _ _ _ _ _ (@Jq _ _ _ _ _ _ _ _ (@Yl _) (@Jk _ _ _ _ _ _ _ _ (@JZ _) (@pv _ 0 _ _ rfl (.inl rfl) rfl rfl) (@Jd _ _ _ _)) (@Jd _ _ _ _) (Ju _)) (@Ji _ _ _ (@Jx _ _ 4 _ _ _ _ ZL.nd rfl (Or.inl rfl) (@Jk _ _ _ _ _ _ _ _ (@JZ _) (@Jk _ _ _ _ _ _ _ _ (@JM _) (@Jk _ _ _ _ _ _ _ _ (@YL _) (@pv _ 0 _ _ rfl (.inl rfl) rfl rfl) (@Jd _ _ _ _)) (@Jd _ _ _ _)) (@Jd _ _ _ _)) rfl (.inl rfl))) (@JD _))) (@Je _ _ _ _ _ (@Yj _ _ _ (@Jx _ _ 6 _ _ _ _ ZL.nd rfl (Or.inl rfl) (@Jl _ _ _ _ _ _ _ _ _ _ _ _ _ _ _ T.JjK (Jmc T) (hr.mono (by decide)) JG (@Ja _ _ _ _ _ (@pv _ 1 _ _ rfl (.inl rfl) rfl rfl) (@Ja _ _ _ _ _ (@Jk _ _ _ _ _ _ _ _ (@Jaq _) (@Jd _ _ _ _) (@pv _ 4 _ _ rfl (.inl rfl) rfl rfl)) (@Ja _ _ _ _ _ (@pv _ 2 _ _ rfl (.inl rfl) rfl rfl) (@Jc _) rfl) rfl) rfl) rfl (by decide) rfl rfl) rfl (.inl rfl))) (@Je _ _ _ _ _ (@YH _ _ _ _ _ _ _ _ PassesOwn.never rfl (@Yx _ _ _ _ _ _ rfl T.YM (@Ja _ _ _ _ _ (@pv _ 4 _ _ rfl (.inl rfl) rfl rfl) (@Jc _) rfl) rfl) (@JS _ _ 5 _ ZL.nd rfl (Or.inl rfl) (.inl rfl)) (@Je _ _ _ _ _ (@Jx _ _ 7 _ _ _ _ ZL.nd rfl (Or.inl rfl) (@Yz _ _ _ _ _ (@Ja _ _ _ _ _ (@Jr _ _ _ _ _ _ _ (@JE _) (@pv _ 6 _ _ rfl (.inl rfl) rfl rfl) (@Jk _ _ _ _ _ _ _ _ (@Jaq _) (@Jd _ _ _ _) (@pv _ 5 _ _ rfl (.inl rfl) rfl rfl)) (fun _ _=>rfl)) (@Ja _ _ _ _ _ (@Jr _ _ _ _ _ _ _ (@JE _) (@pv _ 6 _ _ rfl (.inl rfl) rfl rfl) (@Jk _ _ _ _ _ _ _ _ (@JM _) (@Jk _ _ _ _ _ _ _ _ (@Jaq _) (@Jd _ _ _ _) (@pv _ 5 _ _ rfl (.inl rfl) rfl rfl)) (@Jd _ _ _ _)) (fun _ _=>rfl)) (@Jc _) rfl) rfl)) rfl (.inl rfl)) (@Je _ _ _ _ _ (@Yj _ _ _ (@JN _ _ _ _ _ _ _ _ (@Jq _ _ _ _ _ _ _ _ (@Yl _) (@Jk _ _ _ _ _ _ _ _ (@JZ _) (@pv _ 0 _ _ rfl (.inl rfl) rfl rfl) (@Jd _ _ _ _)) (@Jd _ _ _ _) (Ju _)) (@Ji _ _ _ (@Jx _ _ 7 _ _ _ _ ZL.nd rfl (Or.inl rfl) (@Yz _ _ _ _ _ (@Ja _ _ _ _ _ (@Jk _ _ _ _ _ _ _ _ (@JM _) (@Jd _ _ _ _) (@Jk _ _ _ _ _ _ _ _ (@YL _) (@pv _ 5 _ _ rfl (.inl rfl) rfl rfl) (@Jd _ _ _ _))) (@Ja _ _ _ _ _ (@Jr _ _ _ _ _ _ _ (@JE _) (@pv _ 6 _ _ rfl (.inl rfl) rfl rfl) (@pv _ 5 _ _ rfl (.inl rfl) rfl rfl) (fun _ _=>rfl)) (@Jc _) rfl) rfl)) rfl (.inl rfl))) (@JD _))) (@Ji _ _ _ (@Yj _ _ _ (@JN _ _ _ _ _ _ _ _ (@Jq _ _ _ _ _ _ _ _ (@Jlj _ hu) (@pv _ 7 _ _ rfl (.inl rfl) rfl rfl) (@pv _ 3 _ _ rfl (.inl rfl) rfl rfl) (by with_unfolding_all rfl)) (@Ji _ _ _ (@JW _ _ _ _ (@Jbl _ _ _ _ _ _ _ _ _ _ _ _ PySem.F.plainAttrs_list PySem.F.slot_list_append PySem.F.type_list_append (@Zg _) (@pv _ 3 _ _ rfl (.inl rfl) rfl rfl) (@Ja _ _ _ _ _ (@pv _ 7 _ _ rfl (.inl rfl) rfl rfl) (@Jc _) rfl) rfl rfl rfl rfl rfl) rfl)) (@JD _)))))) (by intro _; rfl)) (@Ji _ _ _ (@Jw _ _ _ _ (@pv _ 3 _ _ rfl (.inl rfl) rfl rfl))))))))))),?_⟩;refine ⟨by show 0≤sizeLine; decide,fun pl hpl=>?_⟩;have W0:PW K H pl n (upd H pl (.lst [])) []:=⟨Jf.upd hpl,Jh,(fun z hz=>nomatch hz),List.nodup_nil,(fun z hz=>nomatch hz)⟩
  generalize upd H pl (.lst [])=H1 at W0;refine ⟨_,rfl,_,_,rfl,rfl,⟨by decide,by decide⟩,_,_,rfl,rfl,(by show (0:Int) < 9; decide),?_⟩;refine ⟨fun σ1 H2=>∃ zs v5,PW K H pl n H2 zs∧(c % 4=0→zs.length≤22)∧(c % 4≠0→zs=[])∧σ1=[some (.int c),some (.int d),some (.int n),some (.ref pl),some (.int (c / 4 % 9)),v5,none,none],?_,?_⟩
  ·refine ⟨_,rfl,_,_,rfl,rfl,(by show (0:Int) < 4; decide),rfl,_,rfl,Yp (fun c0=>?_) (fun c0=>⟨[],none,W0,fun _=>Nat.zero_le _,fun _=>rfl,rfl⟩)⟩;have c0':c % 4=0:=V.int.inj (of_decide_eq_true c0);refine ⟨_,rfl,_,_,rfl,rfl,(n:Int) - 1,rfl,by omega,by omega,?_⟩;rw [show ((n:Int) - 1).toNat=n - 1 by omega];refine YU (n:=n - 1) (fun i σ H2=>∃ zs v5,PW K H pl n H2 zs∧zs.length=2 * i∧(∀ z∈zs,z.2.1 < i)∧σ=[some (.int c),some (.int d),some (.int n),some (.ref pl),some (.int (c / 4 % 9)),v5,none,none]) ⟨[],none,W0,rfl,(fun z hz=>nomatch hz),rfl⟩ ?_ ?_
   ·rintro i σ H2 hi ⟨zs,v5,W,hl,hz,rfl⟩;refine ⟨_,rfl,.inl ⟨rfl,_,Jp.of W.at_⟩,_,rfl,_,rfl,_,_,rfl,rfl,by show 2≤sizeLine; omega,fun t1 n1=>⟨pl,_,_,rfl,rfl,(Jf.upd n1) _ _ W.at_,by rw [List.length_map]; omega,?_⟩⟩;have W1:=W.add hpl (Jf.upd n1) (t:=t1) (a:=0 + (i:Int)) (b:=0 + (i:Int) + 1) Jh (fun q=>by
     obtain ⟨z,h1,h2⟩:=List.mem_map.mp q;have:=hz z h1;rw [h2] at this;have:(0:Int) + i < i:=this;omega) ⟨by omega,by omega⟩
    refine ⟨_,rfl,.inl ⟨rfl,_,Jp.of W1.at_⟩,_,rfl,_,rfl,_,_,rfl,rfl,_,_,rfl,by show 2≤sizeLine; omega,fun t2 n2=>⟨pl,_,_,rfl,rfl,(Jf.upd n2) _ _ W1.at_,by rw [List.length_map,List.length_append]; show _ + 1 < _; omega,?_⟩⟩;have W2:=W1.add hpl (Jf.upd n2) (t:=t2) (a:=0 + (i:Int)) (b:=if 0 + (i:Int) - 1 > 0 then 0 + (i:Int) - 1 else 0) Jh (fun q=>by
     rw [List.map_append,List.mem_append] at q;rcases q with q | q
     ·obtain ⟨z,h1,h2⟩:=List.mem_map.mp q;have:=hz z h1;rw [h2] at this;have:(0:Int) + i < i:=this;omega
     ·have e:=congrArg Prod.snd (List.mem_singleton.mp q);have e:(if 0 + (i:Int) - 1 > 0 then 0 + (i:Int) - 1 else 0)=0 + (i:Int) + 1:=e;split at e <;> omega) ⟨by omega,by split <;> omega⟩
    exact ⟨_,_,W2,by simp [hl]; omega,fun z hz2=>by
     rcases List.mem_append.mp hz2 with q | q
     ·rcases List.mem_append.mp q with q | q
      ·have:=hz z q; show z.2.1 < ((i + 1:Nat):Int); omega
      ·rw [List.mem_singleton.mp q]; show (0:Int) + i < ((i + 1:Nat):Int); omega
     ·rw [List.mem_singleton.mp q]; show (0:Int) + i < ((i + 1:Nat):Int); omega,rfl⟩
   ·rintro σ H2 ⟨zs,v5,W,hl,hz,rfl⟩;exact ⟨zs,v5,W,fun _=>by omega,fun h=>absurd c0' h,rfl⟩
  rintro σ1 H2 ⟨zs,v5,W,l1,l2,rfl⟩;refine ⟨fun σ1 H2=>∃ zs v5,PW K H pl n H2 zs∧(c % 4=0∨c % 4=1→zs.length≤22)∧(c % 4≠0→c % 4≠1→zs=[])∧σ1=[some (.int c),some (.int d),some (.int n),some (.ref pl),some (.int (c / 4 % 9)),v5,none,none],?_,?_⟩
  ·refine ⟨_,rfl,_,_,rfl,rfl,(by show (0:Int) < 4; decide),rfl,_,rfl,Yp (fun c1=>?_) (fun c1=>⟨zs,v5,W,fun h=>l1 (h.elim id fun e=>absurd (decide_eq_true (congrArg V.int e)) c1),fun h _=>l2 h,rfl⟩)⟩;have c1':c % 4=1:=V.int.inj (of_decide_eq_true c1);obtain rfl:zs=[]:=l2 (by omega);refine ⟨_,rfl,_,_,rfl,rfl,1,(n:Int) - 1,rfl,⟨by omega,by omega,by omega,by omega⟩,?_⟩;rw [show ((n:Int) - 1 - 1).toNat=n - 2 by omega];refine YU (n:=n - 2) (fun i σ H2=>∃ zs v5,PW K H pl n H2 zs∧zs.length=2 * i∧(∀ z∈zs,z.2.1 < 1 + i)∧σ=[some (.int c),some (.int d),some (.int n),some (.ref pl),some (.int (c / 4 % 9)),v5,none,none]) ⟨[],v5,W,rfl,(fun z hz=>nomatch hz),rfl⟩ ?_ ?_
   ·rintro i σ H2 hi ⟨zs,v5,W,hl,hz,rfl⟩;refine ⟨_,rfl,.inl ⟨rfl,_,Jp.of W.at_⟩,_,rfl,_,rfl,_,_,rfl,rfl,by show 2≤sizeLine; omega,fun t1 n1=>⟨pl,_,_,rfl,rfl,(Jf.upd n1) _ _ W.at_,by rw [List.length_map]; omega,?_⟩⟩;have W1:=W.add hpl (Jf.upd n1) (t:=t1) (a:=1 + (i:Int)) (b:=1 + (i:Int) + 1) Jh (fun q=>by
     obtain ⟨z,h1,h2⟩:=List.mem_map.mp q;have:=hz z h1;rw [h2] at this;have:(1:Int) + i < 1 + i:=this;omega) ⟨by omega,by omega⟩
    refine ⟨_,rfl,.inl ⟨rfl,_,Jp.of W1.at_⟩,_,rfl,by show 2≤sizeLine; omega,fun t2 n2=>⟨pl,_,_,rfl,rfl,(Jf.upd n2) _ _ W1.at_,by rw [List.length_map,List.length_append]; show _ + 1 < _; omega,?_⟩⟩;have W2:=W1.add hpl (Jf.upd n2) (t:=t2) (a:=1 + (i:Int)) (b:=0) Jh (fun q=>by
     rw [List.map_append,List.mem_append] at q;rcases q with q | q
     ·obtain ⟨z,h1,h2⟩:=List.mem_map.mp q;have:=hz z h1;rw [h2] at this;have:(1:Int) + i < 1 + i:=this;omega
     ·have e:=congrArg Prod.snd (List.mem_singleton.mp q);have e:(0:Int)=1 + (i:Int) + 1:=e;omega) ⟨by omega,by omega⟩
    exact ⟨_,_,W2,by simp [hl]; omega,fun z hz2=>by
     rcases List.mem_append.mp hz2 with q | q
     ·rcases List.mem_append.mp q with q | q
      ·have:=hz z q; show z.2.1 < 1 + ((i + 1:Nat):Int); omega
      ·rw [List.mem_singleton.mp q]; show (1:Int) + i < 1 + ((i + 1:Nat):Int); omega
     ·rw [List.mem_singleton.mp q]; show (1:Int) + i < 1 + ((i + 1:Nat):Int); omega,rfl⟩
   ·rintro σ H2 ⟨zs,v5,W,hl,hz,rfl⟩;exact ⟨zs,v5,W,fun _=>by omega,fun h h'=>absurd c1' h',rfl⟩
  clear l1 l2 W v5 zs H2;rintro σ1 H2 ⟨zs,v5,W,l1,l2,rfl⟩;have m9:0≤c / 4 % 9∧c / 4 % 9≤8:=by omega
  refine ⟨fun σ1 H3=>∃ m:Int,H3=H2∧0≤m∧zs.length + m≤40∧(c % 4=2→m≤2 * ((n:Int) - 2)∨m=0)∧σ1=[some (.int c),some (.int d),some (.int n),some (.ref pl),some (.int m),v5,none,none],?_,?_⟩
  ·refine ⟨_,rfl,_,_,rfl,rfl,(by show (0:Int) < 4; decide),rfl,_,rfl,Yp (fun c2=>?_) (fun c2=>⟨_,rfl,m9.1,?_,fun h=>absurd (decide_eq_true (congrArg V.int h)) c2,rfl⟩)⟩
   ·have c2':c % 4=2:=V.int.inj (of_decide_eq_true c2);obtain rfl:zs=[]:=l2 (by omega) (by omega);refine ⟨_,rfl,_,_,rfl,rfl,_,_,rfl,_,_,rfl,rfl,.inl ⟨by decide,by decide⟩,_,rfl,?_,?_,fun _=>?_,rfl⟩
    ·split <;> omega
    ·show ((0:Nat):Int) + _≤40;split <;> omega
    ·split <;> omega
   ·by_cases h:c % 4=0∨c % 4=1
    ·have:=l1 h; omega
    ·rw [l2 (fun e=>h (.inl e)) (fun e=>h (.inr e))];show ((0:Nat):Int) + _≤40;omega
  rintro σ1 H3 ⟨m,rfl,hm0,hm1,hm2,rfl⟩;refine ⟨fun σ1 H4=>∃ m:Nat,H4=H3∧zs.length + m≤40∧(c % 4=2→m≤2 * (n - 2))∧σ1=[some (.int c),some (.int d),some (.int n),some (.ref pl),some (.int m),v5,none,none],?_,?_⟩
  ·refine ⟨_,rfl,_,_,rfl,rfl,(by show (0:Int) < 4; decide),rfl,_,rfl,Yp (fun c3=>?_) (fun c3=>⟨m.toNat,rfl,by omega,fun h=>by have:=hm2 h; omega,by rw [Int.toNat_of_nonneg hm0]⟩)⟩;have c3':c % 4=3:=V.int.inj (of_decide_eq_true c3);obtain rfl:zs=[]:=l2 (by omega) (by omega);refine ⟨_,rfl,_,_,rfl,rfl,⟨by decide,by decide⟩,_,_,rfl,rfl,_,_,rfl,rfl,(by show (0:Int) < 41; decide),((c / 4 + 40) % 41).toNat,rfl,?_,fun h=>by omega,?_⟩
   ·show 0 + _≤40;omega
   ·rw [Int.toNat_of_nonneg (by omega)]; rfl
  clear hm2 hm1 hm0 m;rintro σ1 H4 ⟨m,rfl,hm1,hm2,rfl⟩;refine ⟨fun σ1 H5=>∃ (pe:Addr) (es:List Int),PW K H pl n H5 zs∧Jp K H5 pe (es.map V.int)∧pe≠pl∧es.length=2 * m∧(∀ x∈es,0≤x∧x < n)∧σ1=[some (.int c),some (.int d),some (.int n),some (.ref pl),some (.int m),v5,some (.ref pe),none],
   ⟨_,rfl,_,rfl,_,_,rfl,rfl,.inl ⟨by decide,by decide⟩,_,rfl,d,2 * m,n,congrArg (fun z=>[V.int d,V.int z,V.int n]) (by omega:2 * (m:Int)=((2 * m:Nat):Int)),by omega,by omega,by omega,fun pe es H4 h1 e4 h2 h3 h4=>?_⟩,?_⟩
  ·exact ⟨pe,es,⟨W.sm.trans e4,e4 _ _ W.at_,fun z hz=>let ⟨a,g1,g2⟩:=W.ip z hz; ⟨a,g1,e4.tup g2⟩,W.nd,W.rg⟩,Jp.of h2,(fun e=>by rw [e,W.at_] at h1; cases h1),h3,h4,rfl⟩
  rintro σ1 H4 ⟨pe,es,W4,he,hne,hel,her,rfl⟩;refine ⟨_,rfl,(m:Int),rfl,by omega,by omega,?_⟩;refine YU (n:=m) (fun i σ H5=>∃ zs' v5 v7,PW K H pl n H5 zs'∧Jp K H5 pe (es.map V.int)∧zs'.length≤zs.length + i∧σ=[some (.int c),some (.int d),some (.int n),some (.ref pl),some (.int m),v5,some (.ref pe),v7]) ⟨zs,v5,none,W4,he,by omega,rfl⟩ ?_ ?_
  ·rintro i σ H5 hi ⟨zs',v5,v7,W5,he5,hl5,rfl⟩;obtain ⟨x1,a1,g1⟩:=JdX (xs:=es) (e:=2 * (0 + (i:Int))) (by omega) (by omega);obtain ⟨x2,a2,g2⟩:=JdX (xs:=es) (e:=2 * (0 + (i:Int)) + 1) (by omega) (by omega);refine ⟨_,rfl,_,rfl,_,_,rfl,rfl,.inl ⟨by decide,by decide⟩,pe,_,_,.int x1,rfl,rfl,he5,a1,_,rfl,_,rfl,_,_,rfl,rfl,.inl ⟨by decide,by decide⟩,_,_,rfl,rfl,pe,_,_,.int x2,rfl,rfl,he5,a2,by show 2≤sizeLine; omega,fun t n1=>?_⟩;have e6:=Jf.upd (o:=.tup [.int x1,.int x2]) n1;refine ⟨fun σ1 H6=>∃ t a b,Jf H5 H6∧H6 t=some (.tup [.int a,.int b])∧((0≤a∧a < n)∧(0≤b∧b < n))∧σ1=[some (.int c),some (.int d),some (.int n),some (.ref pl),some (.int m),some (.int (0 + (i:Int))),some (.ref pe),some (.ref t)],?_,?_⟩
   ·refine ⟨_,rfl,_,_,rfl,rfl,(by show (0:Int) < 4; decide),rfl,_,rfl,Yp (fun c2=>?_) (fun c2=>⟨t,x1,x2,e6,Jh,⟨her x1 g1,her x2 g2⟩,rfl⟩)⟩;have c2':c % 4=2:=V.int.inj (of_decide_eq_true c2);have hmm:=hm2 c2';obtain ⟨x3,a3,g3⟩:=JdX (xs:=es) (e:=0 + (i:Int)) (by omega) (by omega);refine ⟨_,rfl,_,_,rfl,rfl,⟨by decide,by decide⟩,_,_,rfl,rfl,_,rfl,_,rfl,pe,_,_,.int x3,rfl,rfl,e6.seq he5,a3,by show 2≤sizeLine; omega,fun t2 n2=>?_⟩;exact ⟨t2,1 + (0 + (i:Int)) / 2,x3,e6.trans (Jf.upd n2),Jh,⟨by omega,her x3 g3⟩,rfl⟩
   rintro σ1 H6 ⟨t,a,b,e6,ht,hab,rfl⟩;refine ⟨fun σ1 H7=>∃ zs' v5 v7,PW K H pl n H7 zs'∧Jp K H7 pe (es.map V.int)∧zs'.length≤zs.length + (i + 1)∧σ1=[some (.int c),some (.int d),some (.int n),some (.ref pl),some (.int m),v5,some (.ref pe),v7],?_,fun σ' H' h=>h⟩;have W6:PW K H pl n H6 zs':=⟨W5.sm.trans e6,e6 _ _ W5.at_,fun z hz=>let ⟨a,g1,g2⟩:=W5.ip z hz; ⟨a,g1,e6.tup g2⟩,W5.nd,W5.rg⟩
   classical
   refine ⟨_,rfl,_,rfl,t,pl,_,Jg4 (a,b),_,rfl,rfl,JX.of ht,Jp.of W6.at_,Jna W6.ip,_,rfl,?_⟩;have emem:(Jg4 (a,b)∈(zs'.map (·.2)).map Jg4)↔(a,b)∈zs'.map (·.2):=by
    constructor
    ·intro h;obtain ⟨y,h1,h2⟩:=List.mem_map.mp h;rw [← Jq4 h2]; exact h1
    ·exact fun h=>List.mem_map.mpr ⟨_,h,rfl⟩
   by_cases hin:(a,b)∈zs'.map (·.2)
   ·refine Yq (by rw [if_pos rfl,decide_eq_true (emem.mpr hin)]; rfl) ⟨zs',_,_,W6,e6.seq he5,by omega,rfl⟩
   ·refine Zc (by rw [if_pos rfl,decide_eq_false (fun h=>hin (emem.mp h))]; rfl) ?_;refine ⟨_,rfl,.inl ⟨rfl,_,Jp.of W6.at_⟩,_,rfl,pl,_,_,rfl,rfl,W6.at_,by rw [List.length_map]; omega,?_⟩;refine ⟨_,_,_,W6.add hpl (Jf.refl _) ht hin hab,?_,by simp; omega,rfl⟩;rcases e6.seq he5 with (h | ⟨o,h⟩) | h
    ·exact .inl (.inl (by rw [Jz hne]; exact h))
    ·exact .inl (.inr ⟨o,by rw [Jz hne]; exact h⟩)
    ·exact .inr h
  ·rintro σ H5 ⟨zs',v5,v7,W5,he5,hl5,rfl⟩;exact ⟨_,rfl,q pl zs' H5 hpl W5 (by omega)⟩
end
def Jqo:Sp:=fun vs H Q _=>∃ (c kd:Int) (n:Nat),vs=[.int c,.int kd,.int n]∧1≤n∧n≤12∧∀ (p:Addr) (gs:List Int) (H':Hp),H p=none→Jf H H'→H' p=some (.lst (gs.map V.int))→gs.Nodup→(∀ g∈gs,0≤g∧g < n)→Q (.ref p) H'
def nm (ps:List Str) (x:Int):Str:=ps.getD x.toNat Str.empty
theorem Jlu {ps:List Str} {x:Int} (h0:0≤x) (h1:x < ps.length):atI (ps.map V.str) x=some (.str (nm ps x)):=by
 obtain ⟨j,rfl⟩:∃ j:Nat,x=(j:Int):=⟨x.toNat,by omega⟩
 have hj:j < ps.length:=by omega
 refine YD ?_;unfold nm;rw [List.getElem?_map,List.getD_eq_getElem?_getD,Int.toNat_natCast,List.getElem?_eq_getElem hj];rfl
theorem Jjf {ps:List Str} {x:Int} (h0:0≤x) (h1:x < ps.length):nm ps x∈ps:=by
 have hj:x.toNat < ps.length:=by omega
 unfold nm;rw [List.getD_eq_getElem?_getD,List.getElem?_eq_getElem hj];exact List.getElem_mem hj
theorem Jml {ps:List Str} (nd:ps.Nodup) {x y:Int} (h0:0≤x) (h1:x < ps.length) (g0:0≤y) (g1:y < ps.length) (e:nm ps x=nm ps y):x=y:=by
 have hx:x.toNat < ps.length:=by omega
 have hy:y.toNat < ps.length:=by omega
 unfold nm at e;rw [List.getD_eq_getElem?_getD,List.getD_eq_getElem?_getD,List.getElem?_eq_getElem hx,List.getElem?_eq_getElem hy] at e;have e:ps[x.toNat]=ps[y.toNat]:=e;have z:x.toNat=y.toNat:=by
  rcases Nat.lt_trichotomy x.toNat y.toNat with h | h | h
  ·exact absurd e (List.pairwise_iff_getElem.mp nd _ _ hx hy h)
  ·exact h
  ·exact absurd e.symm (List.pairwise_iff_getElem.mp nd _ _ hy hx h)
 omega
def nm2 (ps:List Str) (p:Int×Int):Str×Str:=(nm ps p.1,nm ps p.2)
theorem JkT {α β:Type} {f:α→β}:∀ {l:List α},l.Nodup→(∀ a∈l,∀ b∈l,f a=f b→a=b)→(l.map f).Nodup:=by
 intro l h hi;rw [List.Nodup,List.pairwise_map];exact List.Pairwise.imp_of_mem (fun ha hb hne e=>hne (hi _ ha _ hb e)) h
structure Ground (K:PySem.W.Frag) (H:Hp) (t:Addr) (ps:List Str) (zs:List (V×(Str×Str))) (gs:List Str):Prop where
 good:JeM ps (zs.map (·.2)) gs
 at_:∃ pn pl pg,H t=some (.tup [.ref pn,.ref pl,.ref pg])∧H pn=some (.lst (ps.map V.str))∧H pl=some (.lst (zs.map (·.1)))∧Zp K H zs∧H pg=some (.lst (gs.map V.str))
theorem Ground.same {K:PySem.W.Frag} {H H':Hp} {t:Addr} {ps:List Str} {zs:List (V×(Str×Str))} {gs:List Str} (G:Ground K H t ps zs gs) (e:Jf H H'):Ground K H' t ps zs gs :=
 ⟨G.good,let ⟨pn,pl,pg,h1,h2,h3,h4,h5⟩:=G.at_; ⟨pn,pl,pg,e _ _ h1,e _ _ h2,e _ _ h3,Jai h4 e,e _ _ h5⟩⟩
def JoX (K:PySem.W.Frag):Sp:=fun vs H Q _=>∃ (a:Addr) (ns:List Int) (k:Int),vs=[.ref a,.int k]∧Jp K H a (ns.map V.int)∧0≤k∧∀ t ps zs gs H',Jf H H'→Ground K H' t ps zs gs→Q (.ref t) H'
section
variable {P:Program} {w:World} {K:PySem.W.Frag} {mg:Str→Option Value} {base:Heap}
theorem JqT (T:Txt K mg):JL P w K mg base YK 2 T.Jkw T.JiF ["_law_cell", "_law_kind", "_law_size"] Jqo:=by
 refine T.JkH.F.ok Jd3 (fun vs H Q E h=>?_) (fun cdv A outer s H vs Q E hr h=>?_)
 ·obtain ⟨_,_,_,rfl,_⟩:=h;rfl
 ·obtain ⟨c,kd,n,rfl,hn1,hn2,q⟩:=h;have szl:sizeLine=16777216:=sizeLine_eq;refine ⟨_,(@Je _ _ _ _ _ (@Yj _ _ _ (@Jx _ _ 3 _ _ _ _ Jd3.nd rfl (Or.inr rfl) (@Jl _ _ _ _ _ _ _ _ _ _ _ _ _ _ _ T.JjK (Jmc T) (hr.mono (by decide)) JG (@Ja _ _ _ _ _ (@Jk _ _ _ _ _ _ _ _ (@YL _) (@pv _ 0 _ _ rfl (.inl rfl) rfl rfl) (@Jd _ _ _ _)) (@Ja _ _ _ _ _ (@pv _ 2 _ _ rfl (.inl rfl) rfl rfl) (@Ja _ _ _ _ _ (@Jd _ _ _ _) (@Jc _) rfl) rfl) rfl) rfl (by decide) rfl rfl) rfl (by first | exact .inl rfl | exact .inr rfl | assumption))) (@Je _ _ _ _ _ (@Yj _ _ _ (@JfZ _ _ _ _ _ _ _ _ _ _ 4 1 ["_law_k", "_law_marks"] [3] _ _ _ _ ["_law_cell", "_law_kind", "_law_size", "_law_marks", "_law_found"] ((Jm JhD).names) (by decide +kernel) Jd3.nd rfl (@Yx _ _ _ _ _ _ rfl T.YM (@Ja _ _ _ _ _ (@pv _ 2 _ _ rfl (.inl rfl) rfl rfl) (@Jc _) rfl) rfl) (fun _ _ _ _=>(@Zr _ _ _ _ _ _ _ _ _ 0 (by decide +kernel) rfl rfl)) (fun _ _ _ _=>(@Jcs _ _ _ (@Jq _ _ _ _ _ _ _ _ (@Yl _) (@Jr _ _ _ _ _ _ _ (show IxR _ (JgF K) from (@JE _)) (@Yn _ _ _ _ _ _ _ _ _ 1 rfl rfl (by decide) (by decide)) (@YT _ _ _ _ _ _ _ _ _ 0 rfl rfl (by decide) (by decide)) (fun _ _=>rfl)) (@Jd _ _ _ _) (Ju _)))) (fun _ _ _ _=>(@YT _ _ _ _ _ _ _ _ _ 0 rfl rfl (by decide) (by decide))) rfl rfl rfl rfl rfl (by intro _; rfl))) (@Je _ _ _ _ _ (@Yj _ _ _ (@JN _ _ _ _ _ _ _ _ (@PW.pt _ _ _ (@JcU _ _ _ _ _ _ _ (@Jq _ _ _ _ _ _ _ _ (@JaY _) (@pv _ 1 _ _ rfl (.inl rfl) rfl rfl) (@Jd _ _ _ _) (Ju _)) (@JbB _ _ _ _ (@Jq _ _ _ _ _ _ _ _ (@JdN _) (@Jk _ _ _ _ _ _ _ _ (@JZ _) (@pv _ 0 _ _ rfl (.inl rfl) rfl rfl) (@Jd _ _ _ _)) (@Jd _ _ _ _) (Ju _))))) (@Ji _ _ _ (@Jx _ _ 4 _ _ _ _ Jd3.nd rfl (Or.inl rfl) (@J7 _ _ _ _ (@Ja _ _ _ _ _ (@Jk _ _ _ _ _ _ _ _ (@Y8 _) (@pv _ 2 _ _ rfl (.inl rfl) rfl rfl) (@Jd _ _ _ _)) (@Jc _) rfl)) rfl (.inl rfl))) (@JD _))) (@Je _ _ _ _ _ (@Yj _ _ _ (@JN _ _ _ _ _ _ _ _ (@PW.pt _ _ _ (@JcU _ _ _ _ _ _ _ (@Jq _ _ _ _ _ _ _ _ (@Yl _) (@Jk _ _ _ _ _ _ _ _ (@JZ _) (@pv _ 0 _ _ rfl (.inl rfl) rfl rfl) (@Jd _ _ _ _)) (@Jd _ _ _ _) (Ju _)) (@JbB _ _ _ _ (@Jq _ _ _ _ _ _ _ _ (@Jef _ hr.units0) (@pv _ 4 _ _ rfl (.inl rfl) rfl rfl) (@J7 _ _ _ _ (@Jc _)) (Ju _))))) (@Ji _ _ _ (@Jx _ _ 4 _ _ _ _ Jd3.nd rfl (Or.inl rfl) (@J7 _ _ _ _ (@Ja _ _ _ _ _ (@Jk _ _ _ _ _ _ _ _ (@Y8 _) (@pv _ 2 _ _ rfl (.inl rfl) rfl rfl) (@Jd _ _ _ _)) (@Jc _) rfl)) rfl (.inl rfl))) (@JD _))) (@Ji _ _ _ (@Jw _ _ _ _ (@pv _ 4 _ _ rfl (.inl rfl) rfl rfl))))))),?_⟩;refine ⟨fun σ1 H1=>∃ (pm:Addr) (ms:List Int),Jf H H1∧Jp K H1 pm (ms.map V.int)∧ms.length=n∧σ1=[some (.int c),some (.int kd),some (.int n),some (.ref pm),none],
   ⟨_,rfl,_,_,rfl,rfl,⟨by decide,by decide⟩,_,rfl,_,n,_,rfl,by omega,by decide,by decide,fun pm ms H1 h1 e1 h2 h3 h4=>⟨pm,ms,e1,Jp.of h2,h3,rfl⟩⟩,?_⟩
  rintro σ1 H1 ⟨pm,ms,e1,hm,hml,rfl⟩;have fresh:∀ {p:Addr} {H':Hp},Jf H H'→H' p=none→H p=none:=fun {p H'} e h=>by
   cases hd:H p with
   | none=>rfl
   | some u=>rw [e _ _ hd] at h; cases h
  let R:St→Hp→Prop:=fun σ1 H2=>∃ (p:Addr) (gs:List Int),H p=none∧Jf H H2∧H2 p=some (.lst (gs.map V.int))∧gs.Nodup∧(∀ g∈gs,0≤g∧g < n)∧σ1=[some (.int c),some (.int kd),some (.int n),some (.ref pm),some (.ref p)]
  have one:∀ {p:Addr} {H2:Hp},Jf H H2→H2 p=none→R [some (.int c),some (.int kd),some (.int n),some (.ref pm),some (.ref p)] (upd H2 p (.lst [.int ((n:Int) - 1)])):=fun {p H2} e2 np =>
   ⟨p,[(n:Int) - 1],fresh e2 np,e2.trans (Jf.upd np),Jh,by simp,fun g hg=>by rw [List.mem_singleton.mp hg]; omega,rfl⟩
  refine ⟨R,?_,?_⟩
  ·refine ⟨_,rfl,(n:Int),rfl,by omega,by omega,fun D hD=>?_⟩;rw [show ((n:Int)).toNat=n from Int.toNat_natCast n];refine JdR (n:=n) (fun i ys H2=>Jf H1 H2∧H2 D=some (.lst ys)∧∃ gs:List Int,ys=gs.map V.int∧gs.length≤i∧gs.Nodup∧∀ g∈gs,0≤g∧g < i) rfl ⟨Jf.upd hD,Jh,[],rfl,Nat.le_refl _,List.nodup_nil,fun g hg=>nomatch hg⟩ (fun i ys H2 p=>p.2.1) ?_ ?_
   ·rintro i ys H2 hi ⟨e2,hy,gs,rfl,hgl,hgn,hgr⟩;obtain ⟨x,a1,_⟩:=JdX (xs:=ms) (e:=0 + (i:Int)) (by omega) (by omega);refine ⟨_,rfl,_,rfl,pm,_,_,.int x,rfl,rfl,e2.seq hm,a1,rfl,_,rfl,Yp (fun _=>?_) (fun _=>?_)⟩
    ·refine ⟨_,rfl,hy,by rw [List.length_map]; omega,fun b u e=>?_,Jh,gs ++ [0 + (i:Int)],by rw [List.map_append]; rfl,by simp; omega,?_,fun g hg=>?_⟩
     ·rw [Jz (JA e hD)]; exact e2 b u e
     ·rw [List.nodup_append];refine ⟨hgn,by simp,fun x hx y hy e=>?_⟩;rw [List.mem_singleton] at hy;have:=hgr x hx;omega
     ·rcases List.mem_append.mp hg with w | w
      ·have:=hgr g w; omega
      ·rw [List.mem_singleton.mp w]; omega
    ·exact ⟨e2,hy,gs,rfl,by omega,hgn,fun g hg=>by have:=hgr g hg; omega⟩
   ·rintro ys H2 ⟨e2,hy,gs,rfl,_,hgn,hgr⟩;exact ⟨D,gs,fresh e1 hD,e1.trans e2,hy,hgn,hgr,rfl⟩
  rintro σ1 H2 ⟨p2,gs2,np2,e2,hp2,nd2,rg2,rfl⟩;refine ⟨R,?_,?_⟩
  ·refine ⟨_,rfl,_,_,rfl,rfl,_,rfl,Yp (fun _=>?_) (fun _=>Y5 ⟨p2,gs2,np2,e2,hp2,nd2,rg2,rfl⟩)⟩;refine ⟨_,rfl,_,_,rfl,rfl,(by show (0:Int) < 3; decide),rfl,_,rfl,Yp (fun _=>?_) (fun _=>⟨p2,gs2,np2,e2,hp2,nd2,rg2,rfl⟩)⟩;exact ⟨_,rfl,_,_,rfl,rfl,by show 1≤sizeLine; omega,fun p np=>one e2 np⟩
  clear rg2 nd2 hp2 e2 np2 gs2 p2 H2;rintro σ1 H2 ⟨p2,gs2,np2,e2,hp2,nd2,rg2,rfl⟩;refine ⟨R,?_,?_⟩
  ·refine ⟨_,rfl,_,_,rfl,rfl,(by show (0:Int) < 3; decide),rfl,_,rfl,Yp (fun _=>?_) (fun _=>Y5 ⟨p2,gs2,np2,e2,hp2,nd2,rg2,rfl⟩)⟩;refine ⟨_,rfl,by show 0≤sizeLine; omega,fun l nl=>⟨p2,l,_,rfl,rfl,(Jf.upd nl).seq (Jp.of hp2),Jp.of Jh,_,rfl,Yp (fun _=>?_) (fun _=>?_)⟩⟩
   ·exact ⟨_,rfl,_,_,rfl,rfl,by show 1≤sizeLine; omega,fun p np=>one (e2.trans (Jf.upd nl)) np⟩
   ·exact ⟨p2,gs2,np2,e2.trans (Jf.upd nl),(Jf.upd nl) _ _ hp2,nd2,rg2,rfl⟩
  clear rg2 nd2 hp2 e2 np2 gs2 p2 H2;rintro σ1 H2 ⟨p2,gs2,np2,e2,hp2,nd2,rg2,rfl⟩;exact ⟨_,rfl,q p2 gs2 H2 np2 e2 hp2 nd2 rg2⟩
theorem JkQ {K:PySem.W.Frag} {H:Hp} {D:Addr} {ys ys':List V} {zs:List (V×(Str×Str))} (h:Zp K H zs) (hD:H D=some (.lst ys)):Zp K (upd H D (.lst ys')) zs:=fun z hz=>by
 obtain ⟨a,h1,h2⟩:=h z hz;refine ⟨a,h1,?_⟩;rcases h2 with (q | ⟨o,q⟩) | q
 ·exact .inl (.inl (by rw [Jz (Jaj q hD (fun z=>nomatch z))]; exact q))
 ·exact .inl (.inr ⟨o,by rw [Jz (Jaj q hD (fun z=>nomatch z))]; exact q⟩)
 ·exact .inr q
theorem Jmb (T:Txt K mg):JL P w K mg base YK 3 T.Jkq T.Jiz ["_law_script", "_law_at_here"] (JoX K):=by
 refine T.JhQ.F.ok Jbq (fun vs H Q E h=>?_) (fun cdv A outer s H1 vs Q E hr h=>?_)
 ·obtain ⟨_,_,_,rfl,_⟩:=h;rfl
 ·obtain ⟨a,ns,k,rfl,hS,h0,q⟩:=h;have szl:sizeLine=16777216:=sizeLine_eq;refine ⟨_,(@Je _ _ _ _ _ (@Yj _ _ _ (@Jx _ _ 2 _ _ _ _ Jbq.nd rfl (Or.inl rfl) (@Jr _ _ _ _ _ _ _ (@JE _) (@J7 _ _ _ _ (@Ja _ _ _ _ _ (@Jd _ _ _ _) (@Ja _ _ _ _ _ (@Jd _ _ _ _) (@Ja _ _ _ _ _ (@Jd _ _ _ _) (@Ja _ _ _ _ _ (@Jd _ _ _ _) (@Ja _ _ _ _ _ (@Jd _ _ _ _) (@Ja _ _ _ _ _ (@Jd _ _ _ _) (@Ja _ _ _ _ _ (@Jd _ _ _ _) (@Jc _) rfl) rfl) rfl) rfl) rfl) rfl) rfl)) (@Jk _ _ _ _ _ _ _ _ (@JZ _) (@Jl _ _ _ _ _ _ _ _ _ _ _ _ _ _ _ T.ZX (Zu T) (hr.mono (by decide)) JG (@Ja _ _ _ _ _ (@pv _ 0 _ _ rfl (.inl rfl) rfl rfl) (@Ja _ _ _ _ _ (@Jk _ _ _ _ _ _ _ _ (@JM _) (@pv _ 1 _ _ rfl (.inl rfl) rfl rfl) (@Jd _ _ _ _)) (@Jc _) rfl) rfl) rfl (by decide) rfl rfl) (@Jd _ _ _ _)) (fun _ _=>rfl)) rfl (.inl rfl))) (@Je _ _ _ _ _ (@Yj _ _ _ (@Jx _ _ 3 _ _ _ _ Jbq.nd rfl (Or.inr rfl) (@Jl _ _ _ _ _ _ _ _ _ _ _ _ _ _ _ T.JkG (JqS T) (hr.mono (by decide)) JG (@Ja _ _ _ _ _ (@Jl _ _ _ _ _ _ _ _ _ _ _ _ _ _ _ T.ZX (Zu T) (hr.mono (by decide)) JG (@Ja _ _ _ _ _ (@pv _ 0 _ _ rfl (.inl rfl) rfl rfl) (@Ja _ _ _ _ _ (@Jk _ _ _ _ _ _ _ _ (@JM _) (@pv _ 1 _ _ rfl (.inl rfl) rfl rfl) (@Jd _ _ _ _)) (@Jc _) rfl) rfl) rfl (by decide) rfl rfl) (@Ja _ _ _ _ _ (@pv _ 2 _ _ rfl (.inl rfl) rfl rfl) (@Jc _) rfl) rfl) rfl (by decide) rfl rfl) rfl (by first | exact .inl rfl | exact .inr rfl | assumption))) (@Je _ _ _ _ _ (@Yj _ _ _ (@Jx _ _ 4 _ _ _ _ Jbq.nd rfl (Or.inl rfl) (@Jl _ _ _ _ _ _ _ _ _ _ _ _ _ _ _ T.ZX (Zu T) (hr.mono (by decide)) JG (@Ja _ _ _ _ _ (@pv _ 0 _ _ rfl (.inl rfl) rfl rfl) (@Ja _ _ _ _ _ (@pv _ 1 _ _ rfl (.inl rfl) rfl rfl) (@Jc _) rfl) rfl) rfl (by decide) rfl rfl) rfl (.inl rfl))) (@Je _ _ _ _ _ (@Yj _ _ _ (@Jx _ _ 5 _ _ _ _ Jbq.nd rfl (Or.inl rfl) (@Jl _ _ _ _ _ _ _ _ _ _ _ _ _ _ _ T.JkF (JqR T) (hr.mono (by decide)) JG (@Ja _ _ _ _ _ (@pv _ 4 _ _ rfl (.inl rfl) rfl rfl) (@Ja _ _ _ _ _ (@Jl _ _ _ _ _ _ _ _ _ _ _ _ _ _ _ T.ZX (Zu T) (hr.mono (by decide)) JG (@Ja _ _ _ _ _ (@pv _ 0 _ _ rfl (.inl rfl) rfl rfl) (@Ja _ _ _ _ _ (@Jk _ _ _ _ _ _ _ _ (@JM _) (@pv _ 1 _ _ rfl (.inl rfl) rfl rfl) (@Jd _ _ _ _)) (@Jc _) rfl) rfl) rfl (by decide) rfl rfl) (@Ja _ _ _ _ _ (@pv _ 2 _ _ rfl (.inl rfl) rfl rfl) (@Jc _) rfl) rfl) rfl) rfl (by decide) rfl rfl) rfl (.inl rfl))) (@Je _ _ _ _ _ (@Yj _ _ _ (@Jx _ _ 6 _ _ _ _ Jbq.nd rfl (Or.inl rfl) (@Jl _ _ _ _ _ _ _ _ _ _ _ _ _ _ _ T.JkH (JqT T) (hr.mono (by decide)) JG (@Ja _ _ _ _ _ (@Jl _ _ _ _ _ _ _ _ _ _ _ _ _ _ _ T.ZX (Zu T) (hr.mono (by decide)) JG (@Ja _ _ _ _ _ (@pv _ 0 _ _ rfl (.inl rfl) rfl rfl) (@Ja _ _ _ _ _ (@Jk _ _ _ _ _ _ _ _ (@JM _) (@pv _ 1 _ _ rfl (.inl rfl) rfl rfl) (@Jd _ _ _ _)) (@Jc _) rfl) rfl) rfl (by decide) rfl rfl) (@Ja _ _ _ _ _ (@Jk _ _ _ _ _ _ _ _ (@JZ _) (@pv _ 4 _ _ rfl (.inl rfl) rfl rfl) (@Jd _ _ _ _)) (@Ja _ _ _ _ _ (@pv _ 2 _ _ rfl (.inl rfl) rfl rfl) (@Jc _) rfl) rfl) rfl) rfl (by decide) rfl rfl) rfl (.inl rfl))) (@Je _ _ _ _ _ (@Yj _ _ _ (@JfZ _ _ _ _ _ _ _ _ _ _ 7 2 ["_law_a", "_law_b", "_law_names_here"] [3] _ _ _ _ ["_law_script", "_law_at_here", "_law_size", "_law_names_here", "_law_kind", "_law_pairs_here", "_law_goals_here", "_law_lanes"] ((Jm Jfx).names) (by decide +kernel) Jbq.nd rfl (@Zn _ _ _ _ (@pv _ 5 _ _ rfl (.inl rfl) rfl rfl)) (fun _ _ _ _=>(show PG _ _ (Jor K 2 _) from JfC rfl (@Yy _ _ _ _ _ (@Zr _ _ _ _ _ _ _ _ _ 0 (by decide +kernel) rfl rfl) (@Yy _ _ _ _ _ (@Zr _ _ _ _ _ _ _ _ _ 1 (by decide +kernel) rfl rfl) (@JdT _) rfl) rfl))) (fun _ _ _ _=>(@JbC _)) (fun _ _ _ _=>(@Yz _ _ _ _ _ (@Ja _ _ _ _ _ (@Jr _ _ _ _ _ _ _ (show IxR _ (JgF K) from (@JE _)) (@Yn _ _ _ _ _ _ _ _ _ 2 rfl rfl (by decide) (by decide)) (@YT _ _ _ _ _ _ _ _ _ 0 rfl rfl (by decide) (by decide)) (fun _ _=>rfl)) (@Ja _ _ _ _ _ (@Jr _ _ _ _ _ _ _ (show IxR _ (JgF K) from (@JE _)) (@Yn _ _ _ _ _ _ _ _ _ 2 rfl rfl (by decide) (by decide)) (@YT _ _ _ _ _ _ _ _ _ 1 rfl rfl (by decide) (by decide)) (fun _ _=>rfl)) (@Jc _) rfl) rfl))) rfl rfl rfl rfl rfl (by intro _; rfl))) (@Ji _ _ _ (@Jw _ _ _ _ (@Yz _ _ _ _ _ (@Ja _ _ _ _ _ (@pv _ 3 _ _ rfl (.inr (.inl rfl)) rfl rfl) (@Ja _ _ _ _ _ (@pv _ 7 _ _ rfl (.inl rfl) rfl rfl) (@Ja _ _ _ _ _ (@JeU _ _ _ _ _ _ _ 1 ["_law_k", "_law_names_here"] [3] _ _ _ _ ["_law_script", "_law_at_here", "_law_size", "_law_names_here", "_law_kind", "_law_pairs_here", "_law_goals_here", "_law_lanes"] ((Jm Jfx).names) (by decide +kernel) (@Zn _ _ _ _ (@pv _ 6 _ _ rfl (.inl rfl) rfl rfl)) (fun _ _ _ _=>(@Zr _ _ _ _ _ _ _ _ _ 0 (by decide +kernel) rfl rfl)) (fun _ _ _ _=>(@JbC _)) (fun _ _ _ _=>(@Jr _ _ _ _ _ _ _ (show IxR _ (JgF K) from (@JE _)) (@Yn _ _ _ _ _ _ _ _ _ 1 rfl rfl (by decide) (by decide)) (@YT _ _ _ _ _ _ _ _ _ 0 rfl rfl (by decide) (by decide)) (fun _ _=>rfl))) rfl rfl rfl (by intro _; rfl)) (@Jc _) rfl) rfl) rfl)))))))))),?_⟩;refine ⟨fun σ1 H2=>∃ n:Nat,Jf H1 H2∧1≤n∧n≤12∧σ1=[some (.ref a),some (.int k),some (.int n),none,none,none,none,none],?_,?_⟩
  ·refine ⟨by show 7≤sizeLine; omega,fun l nl=>?_⟩;obtain ⟨n,hn,h1,h2⟩:∃ n:Nat,atI [V.int 4,V.int 5,V.int 3,V.int 4,V.int 5,V.int 2,V.int 1] (YQ ns (k + 1) % 7)=some (.int n)∧1≤n∧n≤12:=by
    have h:YQ ns (k + 1) % 7=0∨YQ ns (k + 1) % 7=1∨YQ ns (k + 1) % 7=2∨YQ ns (k + 1) % 7=3∨YQ ns (k + 1) % 7=4∨YQ ns (k + 1) % 7=5∨YQ ns (k + 1) % 7=6:=by omega
    rcases h with h | h | h | h | h | h | h <;> rw [h]
    ·exact ⟨4,rfl,by decide,by decide⟩
    ·exact ⟨5,rfl,by decide,by decide⟩
    ·exact ⟨3,rfl,by decide,by decide⟩
    ·exact ⟨4,rfl,by decide,by decide⟩
    ·exact ⟨5,rfl,by decide,by decide⟩
    ·exact ⟨2,rfl,by decide,by decide⟩
    ·exact ⟨1,rfl,by decide,by decide⟩
   exact ⟨_,rfl,_,rfl,_,_,rfl,rfl,a,ns,_,rfl,(Jf.upd nl).seq hS,by omega,_,_,rfl,rfl,(by show (0:Int) < 7; decide),l,_,_,.int n,rfl,rfl,Jp.of Jh,hn,n,Jf.upd nl,h1,h2,rfl⟩
  rintro σ1 H2 ⟨n,e2,hn1,hn2,rfl⟩;refine ⟨fun σ1 H4=>∃ (pn:Addr) (ps:List Str),Jf H1 H4∧H4 pn=some (.lst (ps.map V.str))∧ps.length=n∧(∀ s∈ps,YJ s=true)∧ps.Nodup∧σ1=[some (.ref a),some (.int k),some (.int n),some (.ref pn),none,none,none,none],
   ⟨_,rfl,_,rfl,_,_,rfl,rfl,a,ns,_,rfl,e2.seq hS,by omega,_,rfl,_,n,rfl,hn1,hn2,fun pn ps H4 h1 e4 h2 h3 h4 h5=>⟨pn,ps,e2.trans e4,h2,h3,h4,h5,rfl⟩⟩,?_⟩
  rintro σ1 H4 ⟨pn,ps,e4,hpn,hpl,hpg,hpd,rfl⟩;refine ⟨fun σ1 H5=>∃ kd:Int,H5=H4∧σ1=[some (.ref a),some (.int k),some (.int n),some (.ref pn),some (.int kd),none,none,none],
   ⟨_,rfl,_,rfl,a,ns,_,rfl,e4.seq hS,h0,_,rfl,rfl⟩,?_⟩
  rintro σ1 H5 ⟨kd,rfl,rfl⟩;refine ⟨fun σ1 H6=>∃ (pp:Addr) (zs:List (V×(Int×Int))),PW K H5 pp n H6 zs∧zs.length≤40∧σ1=[some (.ref a),some (.int k),some (.int n),some (.ref pn),some (.int kd),some (.ref pp),none,none],
   ⟨_,rfl,_,rfl,_,rfl,_,_,rfl,rfl,a,ns,_,rfl,e4.seq hS,by omega,_,rfl,kd,_,n,rfl,hn1,hn2,fun pp zs H6 h1 W hl=>⟨pp,zs,W,hl,rfl⟩⟩,?_⟩
  rintro σ1 H6 ⟨pp,zs,W,hzl,rfl⟩;have e6:=e4.trans W.sm;refine ⟨fun σ1 H7=>∃ (pg:Addr) (gs:List Int),Jf H6 H7∧H7 pg=some (.lst (gs.map V.int))∧gs.Nodup∧(∀ g∈gs,0≤g∧g < n)∧σ1=[some (.ref a),some (.int k),some (.int n),some (.ref pn),some (.int kd),some (.ref pp),some (.ref pg),none],
   ⟨_,rfl,_,rfl,_,_,rfl,rfl,a,ns,_,rfl,e6.seq hS,by omega,_,rfl,_,_,rfl,rfl,(by show (0:Int) < 4; decide),_,rfl,_,_,n,rfl,hn1,hn2,fun pg gs H7 h1 e7 h2 h3 h4=>⟨pg,gs,e7,h2,h3,h4,rfl⟩⟩,?_⟩
  rintro σ1 H7 ⟨pg,gs,e7,hpgs,hgd,hgr,rfl⟩;have e17:=e6.trans e7;have hpn7:=e7 _ _ (W.sm _ _ hpn);have hpp7:=e7 _ _ W.at_;refine ⟨fun σ1 H8=>∃ (pl:Addr) (ls:List (V×(Str×Str))),Jf H7 H8∧H8 pl=some (.lst (ls.map (·.1)))∧Zp K H8 ls∧ls.map (·.2)=(zs.map (·.2)).map (nm2 ps)∧σ1=[some (.ref a),some (.int k),some (.int n),some (.ref pn),some (.int kd),some (.ref pp),some (.ref pg),some (.ref pl)],?_,?_⟩
  ·refine ⟨_,rfl,pp,rfl,⟨_,Jp.of hpp7⟩,fun D hD=>?_⟩;refine Jjy (xs:=zs.map (·.1)) (fun i ys H8=>Jf H7 H8∧H8 D=some (.lst ys)∧∃ ls:List (V×(Str×Str)),ys=ls.map (·.1)∧Zp K H8 ls∧ls.map (·.2)=((zs.take i).map (·.2)).map (nm2 ps)) rfl rfl (fun i ys H8 p=>Jp.of (p.1 _ _ hpp7)) ⟨Jf.upd hD,Jh,[],rfl,(fun z hz=>nomatch hz),rfl⟩ (fun i ys H8 p=>p.2.1) ?_ ?_
   ·rintro i x ys H8 hx ⟨e8,hy,ls,rfl,hP,hls⟩;rw [List.getElem?_map] at hx;obtain ⟨z,hz,rfl⟩:=Option.map_eq_some_iff.mp hx;obtain ⟨b,eb,hb⟩:=W.ip z (List.mem_of_getElem? hz);obtain ⟨r1,r2⟩:=W.rg z (List.mem_of_getElem? hz);refine ⟨b,.int z.2.1,.int z.2.2,eb,(e7.trans e8).tup hb,?_⟩;simp only [Jd1,if_true];have hll:ls.length≤40:=by
     have z:=congrArg List.length hls;rw [List.length_map,List.length_map,List.length_map,List.length_take] at z;omega
    refine ⟨_,rfl,_,rfl,pn,_,_,_,rfl,rfl,Jp.of (e8 _ _ hpn7),Jlu r1.1 (by omega),_,rfl,_,rfl,pn,_,_,_,rfl,rfl,Jp.of (e8 _ _ hpn7),Jlu r2.1 (by omega),by show 2≤sizeLine; omega,fun t nt=>?_⟩;have e9:=Jf.upd (o:=.tup [.str (nm ps z.2.1),.str (nm ps z.2.2)]) nt;refine ⟨e9 _ _ hy,by rw [List.length_map]; omega,fun b u e=>?_,Jh,ls ++ [(.ref t,nm2 ps z.2)],by rw [List.map_append]; rfl,fun z' hz'=>?_,?_⟩
    ·rw [Jz (JA e hD)]; exact e9 _ _ (e8 b u e)
    ·rcases List.mem_append.mp hz' with q | q
     ·exact JkQ (Jai hP e9) (e9 _ _ hy) z' q
     ·rw [List.mem_singleton.mp q];exact JkQ (zs:=[(.ref t,nm2 ps z.2)]) (fun z' hz'=>by rw [List.mem_singleton.mp hz']; exact ⟨t,rfl,JX.of Jh⟩) (e9 _ _ hy) _ (List.mem_singleton.mpr rfl)
    ·rw [List.map_append,hls,List.take_succ,hz,List.map_append,List.map_append]; rfl
   ·rintro ys H8 ⟨e8,hy,ls,rfl,hP,hls⟩;rw [List.length_map,List.take_length] at hls;exact ⟨D,ls,e8,hy,hP,hls,rfl⟩
  rintro σ1 H8 ⟨pl,ls,e8,hll,hP,hls,rfl⟩;refine ⟨_,rfl,_,rfl,_,rfl,pg,rfl,⟨_,Jp.of (e8 _ _ hpgs)⟩,fun D hD=>?_⟩;refine Jk3 (xs:=gs.map V.int) (fun i v=>∃ g,gs[i]?=some g∧v=.str (nm ps g)) rfl (Jp.of (e8 _ _ hpgs)) hD ?_ (fun i x H9 hx e9 Q' hQ=>?_) (fun ys H9 e9 hy hyl hF=>?_)
  ·rw [List.length_map];have:gs.length≤n:=by
    have z:=JgS (r:=(List.range n).map fun (i:Nat)=>(i:Int)) hgd fun x hx=>by
     have:=hgr x hx;exact List.mem_map.mpr ⟨x.toNat,List.mem_range.mpr (by omega),by omega⟩
    simpa using z
   omega
  ·rw [List.getElem?_map] at hx;obtain ⟨g,hg,rfl⟩:=Option.map_eq_some_iff.mp hx;have:=hgr g (List.mem_of_getElem? hg);exact ⟨_,rfl,_,rfl,pn,_,_,_,rfl,rfl,Jp.of (e9 _ _ (e8 _ _ hpn7)),Jlu this.1 (by omega),hQ _ ⟨g,hg,rfl⟩⟩
  ·have eys:ys=(gs.map (nm ps)).map V.str:=by
    apply List.ext_getElem?;intro i;by_cases hi:i < ys.length
    ·obtain ⟨g,h1,h2⟩:=hF i _ (List.getElem?_eq_getElem hi);rw [List.getElem?_eq_getElem hi,h2,List.getElem?_map,List.getElem?_map,h1];rfl
    ·rw [List.getElem?_eq_none (by omega),List.getElem?_eq_none];rw [List.length_map] at hyl;rw [List.length_map,List.length_map];omega
   subst eys;refine ⟨by show 3≤sizeLine; omega,fun t nt=>q t ps ls (gs.map (nm ps)) _ ((e17.trans e8).trans (e9.trans (Jf.upd nt))) ⟨⟨by omega,by omega,hpg,hpd,?_,?_,?_,?_,?_⟩,pn,pl,D,Jh,?_,?_,?_,?_⟩⟩
   ·rw [hls,List.length_map,List.length_map]; exact hzl
   ·intro z hz;rw [hls] at hz;obtain ⟨y,hy1,rfl⟩:=List.mem_map.mp hz;obtain ⟨z',hz',rfl⟩:=List.mem_map.mp hy1;obtain ⟨r1,r2⟩:=W.rg z' hz';exact ⟨Jjf r1.1 (by omega),Jjf r2.1 (by omega)⟩
   ·rw [hls];refine JkT W.nd fun x hx y hy e=>?_
    obtain ⟨z',hz',rfl⟩:=List.mem_map.mp hx;obtain ⟨z2,hz2,rfl⟩:=List.mem_map.mp hy;obtain ⟨r1,r2⟩:=W.rg z' hz';obtain ⟨r3,r4⟩:=W.rg z2 hz2;have e1:=congrArg Prod.fst e;have e2:=congrArg Prod.snd e;exact Prod.ext (Jml hpd r1.1 (by omega) r3.1 (by omega) e1) (Jml hpd r2.1 (by omega) r4.1 (by omega) e2)
   ·intro g hg;obtain ⟨x,hx,rfl⟩:=List.mem_map.mp hg;have:=hgr x hx;exact Jjf this.1 (by omega)
   ·refine JkT hgd fun x hx y hy e=>?_
    have h1:=hgr x hx;have h2:=hgr y hy;exact Jml hpd h1.1 (by omega) h2.1 (by omega) e
   ·exact (e9.trans (Jf.upd nt)) _ _ (e8 _ _ hpn7)
   ·exact (e9.trans (Jf.upd nt)) _ _ hll
   ·exact Jai hP (e9.trans (Jf.upd nt))
   ·exact (Jf.upd nt) _ _ hy
end
def rf (x:Str):List V:=[.str "refused",.str x]
def Jby (z:Str) (n:Int) (zs:List (Str×Str)) (gs:List Str):V:=if z∈gs then .str "north" else if n=0∨Jy zs z=[] then .str "south" else .non
def JrV (k:Addr):Sp:=fun vs H Q E=>∃ n m:Int,vs=[.int n,.int m]∧(0≤m∧m≤30)∧(0≤n∧n≤m→Q .non H)∧(¬ (0≤n∧n≤m)→E (.ref k) none H)
def Jqr (K:PySem.W.Frag) (C k1 k2:Addr):Sp:=fun vs H Q E=>∃ (b:Addr) (z:Str) (n:Int) (ps:List Str) (zs:List (V×(Str×Str))) (gs:List Str),vs=[.ref b,.str z,.int n]∧YE z∧zs.length≤40∧Ja6 K C H b ps zs gs ∧
 (z∉ps→E (.ref k1) none H)∧(z∈ps→¬ (0≤n∧n≤30)→E (.ref k2) none H)∧(z∈ps→0≤n∧n≤30→∀ H',Jf H H'→Q (Jby z n (zs.map (·.2)) gs) H')
def Jff (n s:Int) (r:Bool) (b a:Int):List V :=
 if b > a then (if r then [.str (hs false),.int (n + b),.int (s - b),.str (hs true)] else [.str (hs true),.int (n - b),.int (s + b),.str (hs false)])
 else if a > b then (if r then [.str (hs true),.int (n - a),.int (s + a),.str (hs true)] else [.str (hs false),.int (n + a),.int (s - a),.str (hs false)])
 else (if r then [.str (hs true),.int (n - a),.int (s + a),.str (hs false)] else [.str (hs false),.int (n + a),.int (s - a),.str (hs true)])
def Ja3 (n s:Int):Prop:=0≤n∧0≤s∧n + s≤20
instance (n s:Int):Decidable (Ja3 n s):=by unfold Ja3; exact inferInstance
def JpX (n s:Int) (r:Bool) (b a:Int):Prop:=(0≤b∧b≤(if r then s else n))∧(0≤a∧a≤(if r then n else s))
instance (n s:Int) (r:Bool) (b a:Int):Decidable (JpX n s r b a):=by unfold JpX; exact inferInstance
def Jld (k:Addr):Sp:=fun vs H Q E=>∃ z:Str,vs=[.str z]∧YE z∧(YZ z=true→Q .non H)∧(YZ z=false→E (.ref k) none H)
def JjT (k:Addr):Sp:=fun vs H Q E=>∃ n s:Int,vs=[.int n,.int s]∧(Ja3 n s→Q .non H)∧(¬ Ja3 n s→E (.ref k) none H)
theorem tcT {σ:St} {H:Hp} {F G:Hp→Prop} (h:F H):Jd1 σ H (fun b H3=>if b=true then F H3 else G H3):=by
 show if true=true then F H else G H;rw [if_pos rfl];exact h
abbrev JO (zs:List (Str×Str)) (gs:List Str) (c:Int) (t:Nat) (p:Str) (r:Bool):Int:=Yu (Jy zs) (fun p=>decide (p∈gs)) c t p r
abbrev loB (zs:List (Str×Str)) (gs:List Str) (c:Int) (t:Nat) (p:Str) (r:Bool):Int:=ZP (Jy zs) (fun p=>decide (p∈gs)) c t p r
abbrev hiC (zs:List (Str×Str)) (gs:List Str) (c:Int) (t:Nat) (p:Str) (r:Bool):Int:=ZR (Jy zs) (fun p=>decide (p∈gs)) c t p r
theorem JjO {ps:List Str} {zs:List (Str×Str)} {gs:List Str} (G:JeM ps zs gs) {p w:Str} (h:w∈Jy zs p):w∈ps:=by
 unfold Jy at h;obtain ⟨z,hz,rfl⟩:=List.mem_map.mp h;exact (G.l2 z (List.mem_filter.mp hz).1).2
theorem Jgs {ps:List Str} {zs:List (Str×Str)} {gs:List Str} (G:JeM ps zs gs) (p:Str):(Jy zs p).length≤40:=by
 unfold Jy;rw [List.length_map];exact Nat.le_trans (List.length_filter_le _ _) G.l1
theorem JeM.perm {ps ps':List Str} {zs zs':List (Str×Str)} {gs gs':List Str} (G:JeM ps zs gs) (p:ps'.Perm ps) (z:zs'.Perm zs) (g:gs'.Perm gs):JeM ps' zs' gs' :=
 ⟨by rw [p.length_eq]; exact G.p1,by rw [p.length_eq]; exact G.p2,fun x h=>G.p3 x (p.mem_iff.mp h),p.nodup_iff.mpr G.p4,by rw [z.length_eq]; exact G.l1,
  fun x h=>let q:=G.l2 x (z.mem_iff.mp h); ⟨p.mem_iff.mpr q.1,p.mem_iff.mpr q.2⟩,z.nodup_iff.mpr G.l3,fun x h=>p.mem_iff.mpr (G.g1 x (g.mem_iff.mp h)),g.nodup_iff.mpr G.g2⟩
structure Bd (K:PySem.W.Frag) (C:Addr) (H:Hp) (b:Addr) (ps:List Str) (zs:List (V×(Str×Str))) (gs:List Str):Prop where
 B:Ja6 K C H b ps zs gs
 G:JeM ps (zs.map (·.2)) gs
theorem Bd.same {K:PySem.W.Frag} {C:Addr} {H H':Hp} {b:Addr} {ps:List Str} {zs:List (V×(Str×Str))} {gs:List Str} (h:Bd K C H b ps zs gs) (e:Jf H H'):Bd K C H' b ps zs gs:=⟨h.B.same e,h.G⟩
theorem Bd.zl {K:PySem.W.Frag} {C:Addr} {H:Hp} {b:Addr} {ps:List Str} {zs:List (V×(Str×Str))} {gs:List Str} (h:Bd K C H b ps zs gs):zs.length≤40:=by have:=h.G.l1; rwa [List.length_map] at this
theorem YW.bd {K:PySem.W.Frag} {C C' dx:Addr} {H H':Hp} {b k:Addr} {ps:List Str} {zs:List (V×(Str×Str))} {gs:List Str} {fs:List (Str×V)} (h:Bd K C H b ps zs gs) (e:YW k H H') (hk:H k=some (.ins C' dx fs)) (hn:k≠b):Bd K C H' b ps zs gs:=by
 obtain ⟨⟨d,tp,tl,tg,h1,h2,h3,h4,h5⟩,G⟩:=h;exact ⟨⟨d,tp,tl,tg,e _ _ (fun z=>hn z.symm) h1,e _ _ (Jaj h2 hk (fun z=>nomatch z)) h2,e _ _ (Jaj h3 hk (fun z=>nomatch z)) h3,fun z hz=>let ⟨a,q1,q2⟩:=h4 z hz; ⟨a,q1,e.tup hk q2⟩,e _ _ (Jaj h5 hk (fun z=>nomatch z)) h5⟩,G⟩
def Jaf (p:Str) (r:Bool):List JP:=[.inr p,.inr (hs r)]
theorem JfF {a b:Bool} (h:hs a=hs b):a=b:=by cases a <;> cases b <;> first | rfl | (exact absurd h (by decide +kernel))
theorem JmQ {p q:Str} {r s:Bool} (h:Jaf p r=Jaf q s):p=q∧r=s:=by
 unfold Jaf at h;simp only [List.cons.injEq,Sum.inr.injEq,and_true] at h;exact ⟨h.1,JfF h.2⟩
def Je5 (H:Hp) (a:Addr) (ps:List Str) (f:Str→Bool→Int):Prop:=∃ kvs:List (List JP×V),H a=some (.dT kvs)∧∀ p∈ps,∀ r,Yd kvs (Jaf p r)=some (.int (f p r))
theorem Je5.same {H H':Hp} {a:Addr} {ps:List Str} {f:Str→Bool→Int} (h:Je5 H a ps f) (e:Jf H H'):Je5 H' a ps f:=let ⟨kvs,h1,h2⟩:=h; ⟨kvs,e _ _ h1,h2⟩
structure Bk (K:PySem.W.Frag) (C CB:Addr) (H:Hp) (k b:Addr) (ps:List Str) (zs:List (V×(Str×Str))) (gs:List Str) (c:Int) (t n:Nat):Prop where
 B:Bd K C H b ps zs gs
 c0:0≤c
 c1:c≤20
 t1:t≤30
 at_:∃ (dx l:Addr) (rs:List Addr),H k=some (.ins CB dx [("board",.ref b),("coins",.int c),("turns",.int t),("needs",.ref l)])∧H l=some (.lst (rs.map V.ref))∧rs.length=n∧∀ (i:Nat) a,rs[i]?=some a→Je5 H a ps (JO (zs.map (·.2)) gs c i)
theorem Bk.same {K:PySem.W.Frag} {C CB:Addr} {H H':Hp} {k b:Addr} {ps:List Str} {zs:List (V×(Str×Str))} {gs:List Str} {c:Int} {t n:Nat} (h:Bk K C CB H k b ps zs gs c t n) (e:Jf H H'):Bk K C CB H' k b ps zs gs c t n :=
 ⟨h.B.same e,h.c0,h.c1,h.t1,let ⟨dx,l,rs,h1,h2,h3,h4⟩:=h.at_; ⟨dx,l,rs,e _ _ h1,e _ _ h2,h3,fun i a q=>(h4 i a q).same e⟩⟩
section
variable (K:PySem.W.Frag) (C CB:Addr)
def JsU:Sp:=fun vs H Q _=>∃ (k b:Addr) (z:Str) (m:Nat) (ps:List Str) (zs:List (V×(Str×Str))) (gs:List Str) (c:Int) (t n:Nat),vs=[.ref k,.str z,.int ((m:Int) + 1)]∧Bk K C CB H k b ps zs gs c t n∧m < n∧z∈ps∧Jy (zs.map (·.2)) z≠[] ∧
 ∀ H',Jf H H'→Q (.int (loB (zs.map (·.2)) gs c m z false)) H'
def JsT:Sp:=fun vs H Q _=>∃ (k b:Addr) (z:Str) (m:Nat) (ps:List Str) (zs:List (V×(Str×Str))) (gs:List Str) (c:Int) (t n:Nat),vs=[.ref k,.str z,.int ((m:Int) + 1)]∧Bk K C CB H k b ps zs gs c t n∧m < n∧z∈ps∧Jy (zs.map (·.2)) z≠[] ∧
 ∀ H',Jf H H'→Q (.int (hiC (zs.map (·.2)) gs c m z true)) H'
def JrZ:Sp:=fun vs H Q _=>∃ (k b:Addr) (z:Str) (m:Nat) (r:Bool) (ps:List Str) (zs:List (V×(Str×Str))) (gs:List Str) (c:Int) (t n:Nat),vs=[.ref k,.str z,.int m,.str (hs r)]∧Bk K C CB H k b ps zs gs c t n∧m≤n∧m≤30∧z∈ps ∧
 ∀ H',Jf H H'→Q (.int (JO (zs.map (·.2)) gs c m z r)) H'
def Jqh:Sp:=fun vs H Q _=>∃ (k b:Addr) (m:Nat) (ps:List Str) (zs:List (V×(Str×Str))) (gs:List Str) (c:Int) (t n:Nat),vs=[.ref k,.int m]∧Bk K C CB H k b ps zs gs c t n∧m≤n∧m≤30 ∧
 ∀ a H',Jf H H'→Je5 H' a ps (JO (zs.map (·.2)) gs c m)→Q (.ref a) H'
def Jil (x:Addr):Sp:=fun vs H Q E=>∃ (k b dx:Addr) (c t:Int) (ps:List Str) (zs:List (V×(Str×Str))) (gs:List Str),vs=[.ref k,.ref b,.int c,.int t]∧H k=some (.ins CB dx [])∧k≠b∧Bd K C H b ps zs gs ∧
 (¬ (0≤c∧c≤20)→E (.ref x) none H)∧(0≤c∧c≤20→¬ (0≤t∧t≤30)→E (.ref x) none H) ∧
 (0≤c∧c≤20→0≤t∧t≤30→∀ H',YW k H H'→Bk K C CB H' k b ps zs gs c t.toNat (t.toNat + 1)→Q .non H')
def Jno (ps:List Str) (c:Int) (t:Nat) (z:Str) (m north:Int) (x:Str):Prop:=z∈ps∧(0≤m∧m≤t)∧(0≤north∧north≤c)∧YZ x=true
def Jgv (kP kR kH:Addr) (ps:List Str) (c:Int) (t:Nat) (z:Str) (m north:Int) (x:Str) (H:Hp) (E:XK):Prop :=
 (z∉ps→E (.ref kP) none H)∧(z∈ps→¬ (0≤m∧m≤t)→E (.ref kR) none H)∧(z∈ps→0≤m∧m≤t→¬ (0≤north∧north≤c)→E (.ref kR) none H)∧(z∈ps→0≤m∧m≤t→0≤north∧north≤c→YZ x=false→E (.ref kH) none H)
theorem Jo5 {kP kR kH:Addr} {ps:List Str} {c:Int} {t:Nat} {z:Str} {m north:Int} {x:Str} {H:Hp} {E:XK} (h:Jno ps c t z m north x):Jgv kP kR kH ps c t z m north x H E :=
 ⟨fun z=>absurd h.1 z,fun _ z=>absurd h.2.1 z,fun _ _ z=>absurd h.2.2.1 z,fun _ _ _ z=>by rw [h.2.2.2] at z; cases z⟩
def Jqe (kP kR kH:Addr):Sp:=fun vs H Q E=>∃ (k b:Addr) (z x:Str) (m north:Int) (ps:List Str) (zs:List (V×(Str×Str))) (gs:List Str) (c:Int) (t:Nat),vs=[.ref k,.str z,.int m,.int north,.str x]∧YE z∧YE x∧Bk K C CB H k b ps zs gs c t (t + 1) ∧
 Jgv kP kR kH ps c t z m north x H E∧(Jno ps c t z m north x→Q .non H)
def JoR (kP kR kH:Addr):Sp:=fun vs H Q E=>∃ (k b:Addr) (z x:Str) (m north:Int) (ps:List Str) (zs:List (V×(Str×Str))) (gs:List Str) (c:Int) (t:Nat),vs=[.ref k,.str z,.int m,.int north,.str x]∧YE z∧YE x∧Bk K C CB H k b ps zs gs c t (t + 1) ∧
 Jgv kP kR kH ps c t z m north x H E∧(z∈ps→(0≤m∧m≤t)→(0≤north∧north≤c)→∀ r,x=hs r→∀ H',Jf H H'→Q (.str (hs (decide (JO (zs.map (·.2)) gs c m.toNat z r≤north)))) H')
def ZQ (zs:List (Str×Str)) (gs:List Str) (c:Int) (m:Nat) (z:Str) (r:Bool):V:=if JO zs gs c m z r≤c then .int (JO zs gs c m z r) else .non
def Jql (kP kR kH:Addr):Sp:=fun vs H Q E=>∃ (k b:Addr) (z x:Str) (m:Int) (ps:List Str) (zs:List (V×(Str×Str))) (gs:List Str) (c:Int) (t:Nat),vs=[.ref k,.str z,.int m,.str x]∧YE z∧YE x∧Bk K C CB H k b ps zs gs c t (t + 1) ∧
 Jgv kP kR kH ps c t z m c x H E∧(z∈ps→(0≤m∧m≤t)→∀ r,x=hs r→∀ H',Jf H H'→Q (ZQ (zs.map (·.2)) gs c m.toNat z r) H')
def JuL:Option Int→V
 | none=>.non
 | some i=>.int i
def Jc9 (zs:List (Str×Str)) (gs:List Str) (m:Nat) (z:Str):Prop:=z∈gs∨m=0∨Jy zs z=[]
instance (zs:List (Str×Str)) (gs:List Str) (m:Nat) (z:Str):Decidable (Jc9 zs gs m z):=by unfold Jc9; exact inferInstance
abbrev gB (gs:List Str):Str→Bool:=fun p=>decide (p∈gs)
theorem Joe (n s:Int) (r:Bool) (b a:Int):∃ s',Jff n s r b a=[.str (hs (after n r b a).1),.int (after n r b a).2.1,.int s',.str (hs (after n r b a).2.2)]:=by
 unfold Jff after;by_cases h1:b > a
 ·rw [if_pos h1,if_pos h1]; cases r <;> exact ⟨_,rfl⟩
 ·rw [if_neg h1,if_neg h1];by_cases h2:a > b
  ·rw [if_pos h2,if_pos h2]; cases r <;> exact ⟨_,rfl⟩
  ·rw [if_neg h2,if_neg h2]; cases r <;> exact ⟨_,rfl⟩
theorem Jrk {n c:Int} {r:Bool} {b a:Int} (hn:0≤n∧n≤c) (hb:0≤b) (hb2:b≤own c n (!r)) (ha:0≤a) (ha2:a≤own c n r):0≤(after n r b a).2.1∧(after n r b a).2.1≤c:=by
 unfold after;unfold own at hb2 ha2;by_cases h1:b > a
 ·rw [if_pos h1]; cases r <;> simp at hb2 ha2 ⊢ <;> omega
 ·rw [if_neg h1];by_cases h2:a > b
  ·rw [if_pos h2]; cases r <;> simp at hb2 ha2 ⊢ <;> omega
  ·rw [if_neg h2]; cases r <;> simp at hb2 ha2 ⊢ <;> omega
end
section
variable {P:Program} {w:World} {K:PySem.W.Frag} {mg:Str→Option Value} {base:Heap}
theorem ZG (T:Txt K mg):JL P w K mg base (Zf P w) 1 T.Jds T.Jcy ["number", "most"] (JrV T.JF):=by
 refine T.Zh.F.ok1 JjV (fun vs H Q E h=>?_) (fun cdv A outer s H vs Q E hr h=>?_)
 ·obtain ⟨_,_,rfl,_⟩:=h;rfl
 ·obtain ⟨n,m,rfl,hm,q1,q2⟩:=h;refine ⟨_,(@Ji _ _ _ (@JN _ _ _ _ _ _ _ _ (@PW.pt _ _ _ (@Jah _ _ _ _ _ _ _ (@Jq _ _ _ _ _ _ _ _ (@JaY _) (@pv _ 0 _ _ rfl (.inl rfl) rfl rfl) (@Jd _ _ _ _) (Ju _)) (@Jap _ _ _ _ (@Jq _ _ _ _ _ _ _ _ (@JbY _) (@pv _ 0 _ _ rfl (.inl rfl) rfl rfl) (@pv _ 1 _ _ rfl (.inl rfl) rfl rfl) (Ju _))))) (@Ji _ _ _ (@JaN _ _ _ _ _ _ _ _ _ T.Yh T.Jcc JbA (@JbD _ _ _ _ _ _ (PJ.cons (@Js _ _ _ _) (PJ.cons (@Jka _ _ _ _ (@pv _ 1 _ _ rfl (.inl rfl) rfl rfl)) PJ.nil)) rfl) rfl rfl (by decide) rfl)) (@JD _))),?_⟩;have fm:∀ m:Nat,m < 31→(m:Int).natAbs.log2 < 1920∧(Str.empty ++ Str.ofString "it goes from 0 to " ++ Str.ofString (toString (m:Int))).length≤sizeLine:=by decide +kernel
  obtain ⟨m,rfl⟩:∃ j:Nat,m=(j:Int):=⟨m.toNat,by omega⟩
  have fm:=fm m (by omega);have bad:¬ (0≤n∧n≤m)→JlJ T.JF E (JiX [tC (.str "it goes from 0 to "),JnX (fun σ H Q=>∃ v,σ[1]?=some (some v)∧Q v H)] Str.empty) { nx:=fun _ H'=>Q .non H',rt:=Q } [some (.int n),some (.int (m:Int))] H:=fun hb =>
   ⟨_,rfl,by decide +kernel,_,rfl,_,rfl,fm.1,_,rfl,fm.2,fm.2,q2 hb⟩
  refine ⟨_,rfl,_,_,rfl,rfl,_,rfl,Yp (fun c=>?_) (fun c=>?_)⟩
  ·exact Y0 (bad fun z=>by have:=z.1; have:=of_decide_eq_true c; omega)
  refine ⟨_,rfl,_,rfl,_,_,rfl,rfl,_,rfl,Yp (fun d=>?_) (fun d=>?_)⟩
  ·exact bad fun z=>by have:=z.2; have:=of_decide_eq_true d; omega
  ·exact q1 ⟨Int.not_lt.mp fun z=>c (decide_eq_true z),Int.not_lt.mp fun z=>d (decide_eq_true z)⟩
theorem JqV (T:Txt K mg):JL P w K mg base (Zf P w) 4 T.Jkz T.JiI ["board", "place", "turns"] (Jqr K T.JT T.JU T.JF):=by
 refine T.JkJ.F.ok1 JqF (fun vs H Q E h=>?_) (fun cdv A outer s H vs Q E hr h=>?_)
 ·obtain ⟨_,_,_,_,_,_,rfl,_⟩:=h;rfl
 ·obtain ⟨b,z,n,ps,zs,gs,rfl,ht,hl,B,q1,q2,q3⟩:=h;refine ⟨_,(@Je _ _ _ _ _ (@JW _ _ _ _ (@YB _ _ _ _ _ _ _ _ _ _ _ _ _ _ _ _ _ _ _ _ (@pv _ 0 _ _ rfl (.inl rfl) rfl rfl) T.YV T.Yb.m (Zb T) (hr.mono (by decide)) T.Yb.b .nil Y3 (@Ja _ _ _ _ _ (@pv _ 1 _ _ rfl (.inl rfl) rfl rfl) (@Jc _) rfl) rfl rfl rfl) rfl) (@Je _ _ _ _ _ (@JW _ _ _ _ (@Jl _ _ _ _ _ _ _ _ _ _ _ _ _ _ _ T.Zh (ZG T) (hr.mono (by decide)) Y3 (@Ja _ _ _ _ _ (@pv _ 2 _ _ rfl (.inl rfl) rfl rfl) (@Ja _ _ _ _ _ (@ZY _ _ _ _ _ rfl T.ZT T.ZN (by decide)) (@Jc _) rfl) rfl) rfl (by decide) rfl rfl) rfl) (@Je _ _ _ _ _ (@JN _ _ _ _ _ _ _ _ (@Z5 _ _ _ (@YB _ _ _ _ _ _ _ _ _ _ _ _ _ _ _ _ _ _ _ _ (@pv _ 0 _ _ rfl (.inl rfl) rfl rfl) T.YV T.JaE.m (Jiv T) (hr.mono (by decide)) T.JaE.b .nil Y3 (@Ja _ _ _ _ _ (@pv _ 1 _ _ rfl (.inl rfl) rfl rfl) (@Jc _) rfl) rfl rfl rfl) (by intro _; rfl)) (@Ji _ _ _ (@Jw _ _ _ _ (@Js _ _ _ _))) (@JD _)) (@Je _ _ _ _ _ (@JN _ _ _ _ _ _ _ _ (@PW.pt _ _ _ (@Jah _ _ _ _ _ _ _ (@Jq _ _ _ _ _ _ _ _ (@Yl _) (@pv _ 2 _ _ rfl (.inl rfl) rfl rfl) (@Jd _ _ _ _) (Ju _)) (@Jap _ _ _ _ (@Jq _ _ _ _ _ _ _ _ (@Yl _) (@JH _ _ _ _ _ _ _ _ _ (@Yr _) rfl T.Zz PySem.boot_len (@Ja _ _ _ _ _ (@YB _ _ _ _ _ _ _ _ _ _ _ _ _ _ _ _ _ _ _ _ (@pv _ 0 _ _ rfl (.inl rfl) rfl rfl) T.YV T.Zs.m (Jdj T) (hr.mono (by decide)) T.Zs.b .nil Y3 (@Ja _ _ _ _ _ (@pv _ 1 _ _ rfl (.inl rfl) rfl rfl) (@Jc _) rfl) rfl rfl rfl) (@Jc _) rfl) (by decide) (by decide) rfl rfl) (@Jd _ _ _ _) (Ju _))))) (@Ji _ _ _ (@Jw _ _ _ _ (@Js _ _ _ _))) (@JD _)) (@Ji _ _ _ (@Jw _ _ _ _ (@Jl6 _ _ _))))))),?_⟩;obtain ⟨dx,tp,tl,tg,hb,_⟩:=id B;refine ⟨_,rfl,b,dx,_,rfl,hb,rfl,_,rfl,b,z,ps,zs,gs,rfl,ht,B,fun hin=>?_,q1⟩;refine ⟨_,rfl,n,30,rfl,⟨by decide,by decide⟩,fun hn=>?_,q2 hin⟩;refine ⟨_,rfl,b,dx,_,rfl,hb,rfl,_,rfl,b,z,ps,zs,gs,rfl,ht,B,fun _=>⟨_,rfl,?_⟩,fun h=>absurd hin h⟩;have q:=q3 hin hn;by_cases hg:z∈gs
  ·refine Zc (decide_eq_true hg) ?_;have e:Jby z n (zs.map (·.2)) gs=.str "north":=by unfold Jby; rw [if_pos hg]
   rw [e] at q;exact q H (Jf.refl _)
  ·refine Yq (decide_eq_false hg) ⟨_,rfl,rfl,_,rfl,?_⟩;by_cases h0:n=0
   ·have e:Jby z n (zs.map (·.2)) gs=.str "south":=by unfold Jby; rw [if_neg hg,if_pos (.inl h0)]
    rw [e] at q;exact Zc (by rw [h0]; exact decide_eq_true rfl) (Y0 (q H (Jf.refl _)))
   ·refine Yq (decide_eq_false fun e=>h0 (V.int.inj e)) ⟨_,rfl,b,dx,_,rfl,hb,rfl,_,rfl,b,z,ps,zs,gs,rfl,ht,hl,B,fun _ t H' e' ht'=>⟨t,_,rfl,.inr (JX.of ht'),rfl,_,rfl,?_⟩,fun h=>absurd hin h⟩;rw [List.length_map];by_cases hw:Jy (zs.map (·.2)) z=[]
    ·have e:Jby z n (zs.map (·.2)) gs=.str "south":=by unfold Jby; rw [if_neg hg,if_pos (.inr hw)]
     rw [e] at q;exact Zc (by rw [hw]; exact decide_eq_true rfl) (q H' e')
    ·have e:Jby z n (zs.map (·.2)) gs=.non:=by unfold Jby; rw [if_neg hg,if_neg (fun h=>h.elim h0 hw)]
     rw [e] at q;refine Yq (decide_eq_false fun e2=>?_) (q H' e');have e3:((Jy (zs.map (·.2)) z).length:Int)=0:=V.int.inj e2;exact hw (List.length_eq_zero_iff.mp (by omega))
theorem Jge (T:Txt K mg):JL P w K mg base (Zf P w) 1 T.JeD T.Jdm ["hand"] (Jld T.J4):=by
 refine T.Jce.F.ok1 Jlf (fun vs H Q E h=>?_) (fun cdv A outer s H vs Q E hr h=>?_)
 ·obtain ⟨_,rfl,_⟩:=h;rfl
 ·obtain ⟨z,rfl,ht,q1,q2⟩:=h;refine ⟨_,(@Ji _ _ _ (@JN _ _ _ _ _ _ _ _ (@Jq _ _ _ _ _ _ _ _ (@JbX _) (@pv _ 0 _ _ rfl (.inl rfl) rfl rfl) (@Zt _ _ _ _ rfl T.Jki (by decide)) (by with_unfolding_all rfl)) (@Ji _ _ _ (@JaN _ _ _ _ _ _ _ _ _ T.YG T.Jhr JbA (@JbD _ _ _ _ _ _ (PJ.cons (@Jed _ _ _ _ (@pv _ 0 _ _ rfl (.inl rfl) rfl rfl)) (PJ.cons (@Js _ _ _ _) PJ.nil)) rfl) rfl rfl (by decide) rfl)) (@JD _))),?_⟩;refine ⟨_,rfl,T.JfQ,_,rfl,.inr (T.Jhy H),rfl,rfl,_,rfl,?_⟩;rw [if_pos rfl,JpA];have hz:=JeR ht;have e1:(Str.empty ++ reprText z).length=(reprText z).length:=by rw [strLen_append]; exact Nat.zero_add _
  cases hb:YZ z with
  | true=>exact Y5 (q1 hb)
  | false =>
   refine Y0 ⟨_,rfl,z,rfl,Nat.le_trans hz (by decide),_,rfl,by rw [e1]; exact Nat.le_trans hz (by decide),_,rfl,?_,?_,q2 hb⟩
   all_goals
    rw [strLen_append,e1];refine Nat.le_trans (Nat.add_le_add_right hz _) (by decide)
theorem Jkd (T:Txt K mg):JL P w K mg base (Zf P w) 1 T.Jdv T.JcB ["north", "south"] (JjT T.JF):=by
 refine T.JdA.F.ok1 JjW (fun vs H Q E h=>?_) (fun cdv A outer s H vs Q E hr h=>?_)
 ·obtain ⟨_,_,rfl,_⟩:=h;rfl
 ·obtain ⟨n,s,rfl,q1,q2⟩:=h;refine ⟨_,(@Ji _ _ _ (@JN _ _ _ _ _ _ _ _ (@PW.pt _ _ _ (@Jah _ _ _ _ _ _ _ (@Jq _ _ _ _ _ _ _ _ (@JaY _) (@pv _ 0 _ _ rfl (.inl rfl) rfl rfl) (@Jd _ _ _ _) (Ju _)) (@Jah _ _ _ _ _ _ _ (@Jq _ _ _ _ _ _ _ _ (@JaY _) (@pv _ 1 _ _ rfl (.inl rfl) rfl rfl) (@Jd _ _ _ _) (Ju _)) (@Jap _ _ _ _ (@Jq _ _ _ _ _ _ _ _ (@JbY _) (@Jk _ _ _ _ _ _ _ _ (@JM _) (@pv _ 0 _ _ rfl (.inl rfl) rfl rfl) (@pv _ 1 _ _ rfl (.inl rfl) rfl rfl)) (@ZY _ _ _ _ _ rfl T.Jad T.Jab (by decide)) (Ju _)))))) (@Ji _ _ _ (@JaN _ _ _ _ _ _ _ _ _ T.Yh T.Jcc JbA (@JbD _ _ _ _ _ _ (PJ.cons (@Js _ _ _ _) (PJ.cons (@Jka _ _ _ _ (@ZY _ _ _ _ _ rfl T.Jad T.Jab (by decide))) PJ.nil)) rfl) rfl rfl (by decide) rfl)) (@JD _))),?_⟩;have bad:¬ Ja3 n s→JlJ T.JF E (JiX [tC (.str "coins go from 0, both hands' together to "),JnX (tC (.int 20))] Str.empty) { nx:=fun _ H'=>Q .non H',rt:=Q } [some (.int n),some (.int s)] H:=fun hb =>
   ⟨_,rfl,by decide +kernel,_,rfl,by decide +kernel,_,rfl,by decide +kernel,by decide +kernel,q2 hb⟩
  refine ⟨_,rfl,_,_,rfl,rfl,_,rfl,Yp (fun c=>?_) (fun c=>?_)⟩
  ·exact Y0 (bad fun z=>by have:=z.1; have:=of_decide_eq_true c; omega)
  refine ⟨_,rfl,_,_,rfl,rfl,_,rfl,Yp (fun d=>?_) (fun d=>?_)⟩
  ·exact Y0 (bad fun z=>by have:=z.2.1; have:=of_decide_eq_true d; omega)
  refine ⟨_,rfl,_,rfl,_,_,rfl,rfl,_,_,rfl,rfl,_,rfl,Yp (fun e=>?_) (fun e=>?_)⟩
  ·exact bad fun z=>by have:=z.2.2; have:=of_decide_eq_true e; omega
  ·refine q1 ⟨?_,?_,?_⟩
   ·exact Int.not_lt.mp fun z=>c (decide_eq_true z)
   ·exact Int.not_lt.mp fun z=>d (decide_eq_true z)
   ·exact Int.not_lt.mp fun z=>e (decide_eq_true z)
theorem Jb0 (T:Txt K mg):JL P w K mg base YK 4 T.Zk T.Ze ["self", "place", "turns"] (JsU K T.JT T.JV):=by
 refine T.YS.F.ok Z4 (fun vs H Q E h=>?_) (fun cdv A outer s H vs Q E hr h=>?_)
 ·obtain ⟨_,_,_,_,_,_,_,_,_,_,rfl,_⟩:=h;rfl
 ·obtain ⟨k,b,z,m,ps,zs,gs,c,t,n,rfl,B,hm,hz,hw,q⟩:=h;have hu:=Ja1 hr;refine ⟨_,(@Je _ _ _ _ _ (@Jx _ _ 3 _ _ _ _ Z4.nd rfl (Or.inr rfl) (@Jr _ _ _ _ _ _ _ (@JE _) (@YY _ _ _ _ _ (@pv _ 0 _ _ rfl (.inl rfl) rfl rfl) rfl) (@Jk _ _ _ _ _ _ _ _ (@Y8 _) (@pv _ 2 _ _ rfl (.inl rfl) rfl rfl) (@Jd _ _ _ _)) (fun _ _=>rfl)) rfl (by first | exact .inl rfl | exact .inr rfl | assumption)) (@Ji _ _ _ (@Jw _ _ _ _ (@JH _ _ _ _ _ _ _ _ _ (@JpR _ rfl) rfl T.Jlw PyProof.Rows.boot_min (@Ja _ _ _ _ _ (@JeU _ _ _ _ _ _ _ 1 ["way", "behind"] [3] _ _ _ _ ["self", "place", "turns", "behind"] ((Jm YO).names) (by decide +kernel) (@JgJ _ _ _ _ (@YB _ _ _ _ _ _ _ _ _ _ _ _ _ _ _ _ _ _ _ _ (@YY _ _ _ _ _ (@pv _ 0 _ _ rfl (.inl rfl) rfl rfl) rfl) T.YV T.Zs.m (Jdj T) (hr.mono (by decide)) T.Zs.b .nil JdM (@Ja _ _ _ _ _ (@pv _ 1 _ _ rfl (.inl rfl) rfl rfl) (@Jc _) rfl) rfl rfl rfl)) (fun _ _ _ _=>(@Zr _ _ _ _ _ _ _ _ _ 0 (by decide +kernel) rfl rfl)) (fun _ _ _ _=>(@JbC _)) (fun _ _ _ _=>(@Jac _ _ _ _ _ _ hu (@Yn _ _ _ _ _ _ _ _ _ 1 rfl rfl (by decide) (by decide)) (@Yz _ _ _ _ _ (@Ja _ _ _ _ _ (@YT _ _ _ _ _ _ _ _ _ 0 rfl rfl (by decide) (by decide)) (@Ja _ _ _ _ _ (@Js _ _ _ _) (@Jc _) rfl) rfl)) (fun _ _=>rfl))) rfl rfl rfl (by intro _; rfl)) (@Jc _) rfl) (by decide) (by decide) rfl rfl)))),?_⟩;obtain ⟨dx,l,rs,h1,h2,h3,h4⟩:=B.at_;obtain ⟨a,ha⟩:∃ a,rs[m]?=some a:=⟨_,List.getElem?_eq_getElem (by omega)⟩
  obtain ⟨kvs,hk1,hk2⟩:=h4 m a ha;obtain ⟨bdx,tp,tl,tg,hb,_⟩:=id B.B.B;have hwl:=Jgs B.B.G z;have hat:atI (rs.map V.ref) ((m:Int) + 1 - 1)=some (.ref a):=by
   rw [Int.add_sub_cancel]; exact YD (by rw [List.getElem?_map,ha]; rfl)
  refine ⟨_,rfl,k,_,dx,_,.ref l,rfl,h1,T.Yk,T.Zw,rfl,_,rfl,_,_,rfl,rfl,l,_,_,.ref a,rfl,rfl,Jp.of h2,hat,?_⟩;refine ⟨_,rfl,k,_,dx,_,.ref b,rfl,h1,T.Yk,T.Zx,rfl,b,bdx,_,rfl,hb,rfl,_,rfl,b,z,ps,zs,gs,rfl,ZA (B.B.G.p3 z hz),B.B.zl,B.B.B,fun _ tw H1 e1 ht=>?_,fun h=>absurd hz h⟩;refine ⟨tw,rfl,⟨_,JX.of ht⟩,fun D hD=>?_⟩;refine JiL (xs:=(Jy (zs.map (·.2)) z).map V.str) (fun i ys H2=>Jf H1 H2∧H2 D=some (.lst ys)∧ys=((Jy (zs.map (·.2)) z).take i).map fun w=>V.int (JO (zs.map (·.2)) gs c m w false)) rfl (fun i ys H2 p=>JX.of (p.1 _ _ ht)) ⟨Jf.upd hD,Jh,by simp⟩ (fun i ys H2 p=>p.2.1) ?_ ?_
  ·rintro i x ys H2 hx ⟨e2,hy,rfl⟩;rw [List.getElem?_map] at hx;obtain ⟨w',hw1,rfl⟩:=Option.map_eq_some_iff.mp hx;have hin:=JjO B.B.G (List.mem_of_getElem? hw1);refine tcT ?_;refine ⟨_,rfl,_,rfl,by show 2≤sizeLine; decide,fun p hp=>?_⟩;have g:=ZB.t (k:=Jaf w' false) ((Jf.upd (o:=.tup [.str w',.str "south"]) hp) _ _ (e2 _ _ (e1 _ _ hk1))) (show upd H2 p (.tup [.str w',.str "south"]) p=some (.tup ((Jaf w' false).map kV)) from Jh);rw [hk2 w' hin false] at g;have hDp:D≠p:=JA hy hp;refine ⟨a,_,rfl,g,by rw [Jz hDp]; exact hy,?_,fun b' u e=>?_,Jh,?_⟩
   ·rw [List.length_map,List.length_take];refine Nat.lt_of_le_of_lt (Nat.min_le_right _ _) (Nat.lt_of_le_of_lt hwl (by decide))
   ·rw [Jz (JA e hD),Jz (JA (e2 _ _ e) hp)]; exact e2 b' u e
   ·rw [List.take_succ,hw1,List.map_append]; rfl
  ·rintro ys H2 ⟨e2,hy,rfl⟩;rw [List.length_map,List.take_length] at hy;have e:((Jy (zs.map (·.2)) z).map fun w=>V.int (JO (zs.map (·.2)) gs c m w false))=((Jy (zs.map (·.2)) z).map fun w=>JO (zs.map (·.2)) gs c m w false).map V.int:=by rw [List.map_map]; rfl
   rw [e] at hy;refine ⟨D,_,rfl,Jp.of hy,?_,fun M hM1 hM2=>?_⟩
   ·rw [List.length_map]; exact List.length_pos_iff.mpr hw
   ·rw [Jsp hM1 hM2]; exact q H2 (e1.trans e2)
theorem JbZ (T:Txt K mg):JL P w K mg base YK 4 T.Zj T.Zd ["self", "place", "turns"] (JsT K T.JT T.JV):=by
 refine T.YR.F.ok Z3 (fun vs H Q E h=>?_) (fun cdv A outer s H vs Q E hr h=>?_)
 ·obtain ⟨_,_,_,_,_,_,_,_,_,_,rfl,_⟩:=h;rfl
 ·obtain ⟨k,b,z,m,ps,zs,gs,c,t,n,rfl,B,hm,hz,hw,q⟩:=h;have hu:=Ja1 hr;refine ⟨_,(@Je _ _ _ _ _ (@Jx _ _ 3 _ _ _ _ Z3.nd rfl (Or.inr rfl) (@Jr _ _ _ _ _ _ _ (@JE _) (@YY _ _ _ _ _ (@pv _ 0 _ _ rfl (.inl rfl) rfl rfl) rfl) (@Jk _ _ _ _ _ _ _ _ (@Y8 _) (@pv _ 2 _ _ rfl (.inl rfl) rfl rfl) (@Jd _ _ _ _)) (fun _ _=>rfl)) rfl (by first | exact .inl rfl | exact .inr rfl | assumption)) (@Ji _ _ _ (@Jw _ _ _ _ (@JH _ _ _ _ _ _ _ _ _ (@JpS _ rfl) rfl T.Jjg PyProof.Rows.boot_max (@Ja _ _ _ _ _ (@JeU _ _ _ _ _ _ _ 1 ["way", "behind"] [3] _ _ _ _ ["self", "place", "turns", "behind"] ((Jm YN).names) (by decide +kernel) (@JgJ _ _ _ _ (@YB _ _ _ _ _ _ _ _ _ _ _ _ _ _ _ _ _ _ _ _ (@YY _ _ _ _ _ (@pv _ 0 _ _ rfl (.inl rfl) rfl rfl) rfl) T.YV T.Zs.m (Jdj T) (hr.mono (by decide)) T.Zs.b .nil JdM (@Ja _ _ _ _ _ (@pv _ 1 _ _ rfl (.inl rfl) rfl rfl) (@Jc _) rfl) rfl rfl rfl)) (fun _ _ _ _=>(@Zr _ _ _ _ _ _ _ _ _ 0 (by decide +kernel) rfl rfl)) (fun _ _ _ _=>(@JbC _)) (fun _ _ _ _=>(@Jac _ _ _ _ _ _ hu (@Yn _ _ _ _ _ _ _ _ _ 1 rfl rfl (by decide) (by decide)) (@Yz _ _ _ _ _ (@Ja _ _ _ _ _ (@YT _ _ _ _ _ _ _ _ _ 0 rfl rfl (by decide) (by decide)) (@Ja _ _ _ _ _ (@Js _ _ _ _) (@Jc _) rfl) rfl)) (fun _ _=>rfl))) rfl rfl rfl (by intro _; rfl)) (@Jc _) rfl) (by decide) (by decide) rfl rfl)))),?_⟩;obtain ⟨dx,l,rs,h1,h2,h3,h4⟩:=B.at_;obtain ⟨a,ha⟩:∃ a,rs[m]?=some a:=⟨_,List.getElem?_eq_getElem (by omega)⟩
  obtain ⟨kvs,hk1,hk2⟩:=h4 m a ha;obtain ⟨bdx,tp,tl,tg,hb,_⟩:=id B.B.B;have hwl:=Jgs B.B.G z;have hat:atI (rs.map V.ref) ((m:Int) + 1 - 1)=some (.ref a):=by
   rw [Int.add_sub_cancel]; exact YD (by rw [List.getElem?_map,ha]; rfl)
  refine ⟨_,rfl,k,_,dx,_,.ref l,rfl,h1,T.Yk,T.Zw,rfl,_,rfl,_,_,rfl,rfl,l,_,_,.ref a,rfl,rfl,Jp.of h2,hat,?_⟩;refine ⟨_,rfl,k,_,dx,_,.ref b,rfl,h1,T.Yk,T.Zx,rfl,b,bdx,_,rfl,hb,rfl,_,rfl,b,z,ps,zs,gs,rfl,ZA (B.B.G.p3 z hz),B.B.zl,B.B.B,fun _ tw H1 e1 ht=>?_,fun h=>absurd hz h⟩;refine ⟨tw,rfl,⟨_,JX.of ht⟩,fun D hD=>?_⟩;refine JiL (xs:=(Jy (zs.map (·.2)) z).map V.str) (fun i ys H2=>Jf H1 H2∧H2 D=some (.lst ys)∧ys=((Jy (zs.map (·.2)) z).take i).map fun w=>V.int (JO (zs.map (·.2)) gs c m w true)) rfl (fun i ys H2 p=>JX.of (p.1 _ _ ht)) ⟨Jf.upd hD,Jh,by simp⟩ (fun i ys H2 p=>p.2.1) ?_ ?_
  ·rintro i x ys H2 hx ⟨e2,hy,rfl⟩;rw [List.getElem?_map] at hx;obtain ⟨w',hw1,rfl⟩:=Option.map_eq_some_iff.mp hx;have hin:=JjO B.B.G (List.mem_of_getElem? hw1);refine tcT ?_;refine ⟨_,rfl,_,rfl,by show 2≤sizeLine; decide,fun p hp=>?_⟩;have g:=ZB.t (k:=Jaf w' true) ((Jf.upd (o:=.tup [.str w',.str "north"]) hp) _ _ (e2 _ _ (e1 _ _ hk1))) (show upd H2 p (.tup [.str w',.str "north"]) p=some (.tup ((Jaf w' true).map kV)) from Jh);rw [hk2 w' hin true] at g;have hDp:D≠p:=JA hy hp;refine ⟨a,_,rfl,g,by rw [Jz hDp]; exact hy,?_,fun b' u e=>?_,Jh,?_⟩
   ·rw [List.length_map,List.length_take];refine Nat.lt_of_le_of_lt (Nat.min_le_right _ _) (Nat.lt_of_le_of_lt hwl (by decide))
   ·rw [Jz (JA e hD),Jz (JA (e2 _ _ e) hp)]; exact e2 b' u e
   ·rw [List.take_succ,hw1,List.map_append]; rfl
  ·rintro ys H2 ⟨e2,hy,rfl⟩;rw [List.length_map,List.take_length] at hy;have e:((Jy (zs.map (·.2)) z).map fun w=>V.int (JO (zs.map (·.2)) gs c m w true))=((Jy (zs.map (·.2)) z).map fun w=>JO (zs.map (·.2)) gs c m w true).map V.int:=by rw [List.map_map]; rfl
   rw [e] at hy;refine ⟨D,_,rfl,Jp.of hy,?_,fun M hM1 hM2=>?_⟩
   ·rw [List.length_map]; exact List.length_pos_iff.mpr hw
   ·rw [Jsr hM1 hM2]; exact q H2 (e1.trans e2)
theorem Jjb (T:Txt K mg):JL P w K mg base YK 5 T.JcG T.Jb8 ["self", "place", "turns", "ribbon"] (JrZ K T.JT T.JV):=by
 refine T.Ja5.F.ok Jaz (fun vs H Q E h=>?_) (fun cdv A outer s H vs Q E hr h=>?_)
 ·obtain ⟨_,_,_,_,_,_,_,_,_,_,_,rfl,_⟩:=h;rfl
 ·obtain ⟨k,b,z,m,r,ps,zs,gs,c,t,n,rfl,B,hm,hm2,hz,q⟩:=h;refine ⟨_,(@Je _ _ _ _ _ (@Jx _ _ 4 _ _ _ _ Jaz.nd rfl (Or.inl rfl) (@Jl _ _ _ _ _ _ _ _ _ _ _ _ _ _ _ T.JkJ (JqV T) (hr.mono (by decide)) JdM (@Ja _ _ _ _ _ (@YY _ _ _ _ _ (@pv _ 0 _ _ rfl (.inl rfl) rfl rfl) rfl) (@Ja _ _ _ _ _ (@pv _ 1 _ _ rfl (.inl rfl) rfl rfl) (@Ja _ _ _ _ _ (@pv _ 2 _ _ rfl (.inl rfl) rfl rfl) (@Jc _) rfl) rfl) rfl) rfl (by decide) rfl rfl) rfl (.inl rfl)) (@Je _ _ _ _ _ (@JN _ _ _ _ _ _ _ _ (@JfB _ _ _ _ _ _ (@Jsg _ _ _ _ _ (@pv _ 4 _ _ rfl (.inl rfl) rfl rfl)) (by first | exact Z8 _ (by decide) (by decide) | rfl)) (@Ji _ _ _ (@Jw _ _ _ _ (@Jiu _ _ _ _ _ _ _ _ (@Jq _ _ _ _ _ _ _ _ (@Yl _) (@pv _ 4 _ _ rfl (.inl rfl) rfl rfl) (@Js _ _ _ _) (Ju _)) (@Jd _ _ _ _) (@Jk _ _ _ _ _ _ _ _ (@JM _) (@YY _ _ _ _ _ (@pv _ 0 _ _ rfl (.inl rfl) rfl rfl) rfl) (@Jd _ _ _ _))))) (@JD _)) (@Je _ _ _ _ _ (@Jx _ _ 5 _ _ _ _ Jaz.nd rfl (Or.inl rfl) (@YB _ _ _ _ _ _ _ _ _ _ _ _ _ _ _ _ _ _ _ _ (@pv _ 0 _ _ rfl (.inl rfl) rfl rfl) T.Yk T.YS.m (Jb0 T) (hr.mono (by decide)) T.YS.b .nil JG (@Ja _ _ _ _ _ (@pv _ 1 _ _ rfl (.inl rfl) rfl rfl) (@Ja _ _ _ _ _ (@pv _ 2 _ _ rfl (.inl rfl) rfl rfl) (@Jc _) rfl) rfl) rfl rfl rfl) rfl (.inl rfl)) (@Je _ _ _ _ _ (@Jx _ _ 6 _ _ _ _ Jaz.nd rfl (Or.inl rfl) (@YB _ _ _ _ _ _ _ _ _ _ _ _ _ _ _ _ _ _ _ _ (@pv _ 0 _ _ rfl (.inl rfl) rfl rfl) T.Yk T.YR.m (JbZ T) (hr.mono (by decide)) T.YR.b .nil JG (@Ja _ _ _ _ _ (@pv _ 1 _ _ rfl (.inl rfl) rfl rfl) (@Ja _ _ _ _ _ (@pv _ 2 _ _ rfl (.inl rfl) rfl rfl) (@Jc _) rfl) rfl) rfl rfl rfl) rfl (.inl rfl)) (@Je _ _ _ _ _ (@JN _ _ _ _ _ _ _ _ (@Jq _ _ _ _ _ _ _ _ (@Yl _) (@pv _ 3 _ _ rfl (.inl rfl) rfl rfl) (@Js _ _ _ _) (Ju _)) (@Ji _ _ _ (@Jw _ _ _ _ (@JH _ _ _ _ _ _ _ _ _ (@Jhm _ rfl) rfl T.Jjg PyProof.Rows.boot_max (@Ja _ _ _ _ _ (@pv _ 5 _ _ rfl (.inl rfl) rfl rfl) (@Ja _ _ _ _ _ (@Jk _ _ _ _ _ _ _ _ (@YL _) (@Jk _ _ _ _ _ _ _ _ (@JM _) (@pv _ 5 _ _ rfl (.inl rfl) rfl rfl) (@pv _ 6 _ _ rfl (.inl rfl) rfl rfl)) (@Jd _ _ _ _)) (@Jc _) rfl) rfl) (by decide) (by decide) rfl rfl))) (@JD _)) (@Ji _ _ _ (@Jw _ _ _ _ (@JH _ _ _ _ _ _ _ _ _ (@Jk5 _ rfl) rfl T.Jlw PyProof.Rows.boot_min (@Ja _ _ _ _ _ (@pv _ 6 _ _ rfl (.inl rfl) rfl rfl) (@Ja _ _ _ _ _ (@Jk _ _ _ _ _ _ _ _ (@YL _) (@Jk _ _ _ _ _ _ _ _ (@JM _) (@Jk _ _ _ _ _ _ _ _ (@JM _) (@pv _ 5 _ _ rfl (.inl rfl) rfl rfl) (@pv _ 6 _ _ rfl (.inl rfl) rfl rfl)) (@Jd _ _ _ _)) (@Jd _ _ _ _)) (@Jc _) rfl) rfl) (by decide) (by decide) rfl rfl)))))))),?_⟩;obtain ⟨dx,l,rs,h1,h2,h3,h4⟩:=B.at_;refine ⟨_,rfl,k,_,dx,_,.ref b,rfl,h1,T.Yk,T.Zx,rfl,_,rfl,_,rfl,b,z,m,ps,zs,gs,rfl,ZA (B.B.G.p3 z hz),B.B.zl,B.B.B,fun h=>absurd hz h,fun _ h=>absurd (by omega) h,fun _ _ H1 e1=>?_⟩;by_cases hg:z∈gs
  ·have ev:Jby z m (zs.map (·.2)) gs=.str "north":=by unfold Jby; rw [if_pos hg]
   rw [ev];have en:JO (zs.map (·.2)) gs c m z r=0:=JcW (decide_eq_true hg);rw [en] at q;exact ⟨_,rfl,_,rfl,Y0 ⟨_,rfl,rfl,_,rfl,Y0 (q H1 e1)⟩⟩
  ·by_cases h0:(m:Int)=0∨Jy (zs.map (·.2)) z=[]
   ·have ev:Jby z m (zs.map (·.2)) gs=.str "south":=by unfold Jby; rw [if_neg hg,if_pos h0]
    rw [ev];have en:JO (zs.map (·.2)) gs c m z r=c + 1:=by
     rcases h0 with h0 | h0
     ·have:m=0:=by omega
      subst this;exact JkS (decide_eq_false hg)
     ·exact JcV (decide_eq_false hg) h0
    rw [en] at q;exact ⟨_,rfl,_,rfl,Y0 ⟨_,rfl,rfl,_,rfl,Y5 ⟨_,rfl,k,_,dx,_,.int c,rfl,e1 _ _ h1,T.Yk,T.ZZ,rfl,_,_,rfl,rfl,q H1 e1⟩⟩⟩
   ·have ev:Jby z m (zs.map (·.2)) gs=.non:=by unfold Jby; rw [if_neg hg,if_neg h0]
    rw [ev];obtain ⟨j,rfl⟩:∃ j,m=j + 1:=⟨m - 1,by omega⟩
    have hw:Jy (zs.map (·.2)) z≠[]:=fun e=>h0 (.inr e)
    refine ⟨_,rfl,_,rfl,Y5 ?_⟩;refine ⟨_,rfl,k,dx,_,rfl,e1 _ _ h1,rfl,_,rfl,_,rfl,k,b,z,j,ps,zs,gs,c,t,n,rfl,B.same e1,by omega,hz,hw,fun H2 e2=>?_⟩;have e12:=e1.trans e2;refine ⟨_,rfl,k,dx,_,rfl,e12 _ _ h1,rfl,_,rfl,_,rfl,k,b,z,j,ps,zs,gs,c,t,n,rfl,B.same e12,by omega,hz,hw,fun H3 e3=>?_⟩;have q:=q H3 (e12.trans e3);refine ⟨_,rfl,rfl,_,rfl,?_⟩;rw [Jmv];cases r with
    | true =>
     rw [JO,JgU (W:=Jy (zs.map (·.2))) (g:=fun p=>decide (p∈gs)) (p:=z) (decide_eq_false hg) hw] at q;exact Y0 ⟨_,rfl,_,rfl,_,rfl,_,_,rfl,rfl,_,_,rfl,rfl,⟨by decide,by decide⟩,_,_,rfl,q⟩
    | false =>
     rw [JO,JgT (W:=Jy (zs.map (·.2))) (g:=fun p=>decide (p∈gs)) (p:=z) (decide_eq_false hg) hw] at q;exact Y5 ⟨_,rfl,_,rfl,_,rfl,_,_,rfl,rfl,_,_,rfl,rfl,_,_,rfl,rfl,⟨by decide,by decide⟩,_,_,rfl,q⟩
theorem JgQ (T:Txt K mg):JL P w K mg base YK 6 T.Jbd T.JaV ["self", "turns"] (Jqh K T.JT T.JV):=by
 refine T.Jaa.F.ok Z2 (fun vs H Q E h=>?_) (fun cdv A outer s H vs Q E hr h=>?_)
 ·obtain ⟨_,_,_,_,_,_,_,_,_,rfl,_⟩:=h;rfl
 ·obtain ⟨k,b,m,ps,zs,gs,c,t,n,rfl,B,hm,hm2,q⟩:=h;have hu:=Ja1 hr;have szl:sizeLine=16777216:=sizeLine_eq;refine ⟨_,(@Je _ _ _ _ _ (@Jx _ _ 2 _ _ _ _ Z2.nd rfl (Or.inl rfl) (@Jl7 _ _) rfl (.inl rfl)) (@Je _ _ _ _ _ (@YH _ _ _ _ _ _ _ _ PassesOwn.never rfl (@JgJ _ _ _ _ (@YY _ _ _ _ _ (@YY _ _ _ _ _ (@pv _ 0 _ _ rfl (.inl rfl) rfl rfl) rfl) rfl)) (@JS _ _ 3 _ Z2.nd rfl (Or.inl rfl) (.inl rfl)) (@Ji _ _ _ (@YH _ _ _ _ _ _ _ _ PassesOwn.never rfl (@JgJ _ _ _ _ (@Zt _ _ _ _ rfl T.Jki (by decide))) (@JS _ _ 4 _ Z2.nd rfl (Or.inl rfl) (.inl rfl)) (@Ji _ _ _ (@JhF _ _ _ _ _ _ _ _ _ hu (@pv _ 2 _ _ rfl (.inl rfl) rfl rfl) (@Yz _ _ _ _ _ (@Ja _ _ _ _ _ (@pv _ 3 _ _ rfl (.inl rfl) rfl rfl) (@Ja _ _ _ _ _ (@pv _ 4 _ _ rfl (.inl rfl) rfl rfl) (@Jc _) rfl) rfl)) (@YB _ _ _ _ _ _ _ _ _ _ _ _ _ _ _ _ _ _ _ _ (@pv _ 0 _ _ rfl (.inl rfl) rfl rfl) T.Yk T.Ja5.m (Jjb T) (hr.mono (by decide)) T.Ja5.b .nil JG (@Ja _ _ _ _ _ (@pv _ 3 _ _ rfl (.inl rfl) rfl rfl) (@Ja _ _ _ _ _ (@pv _ 1 _ _ rfl (.inl rfl) rfl rfl) (@Ja _ _ _ _ _ (@pv _ 4 _ _ rfl (.inl rfl) rfl rfl) (@Jc _) rfl) rfl) rfl) rfl rfl rfl) rfl)) (by intro _; rfl))) (by intro _; rfl)) (@Ji _ _ _ (@Jw _ _ _ _ (@pv _ 2 _ _ rfl (.inl rfl) rfl rfl))))),?_⟩;obtain ⟨dx,l,rs,h1,h2,h3,h4⟩:=B.at_;obtain ⟨bdx,tp,tl,tg,hb,hp,_⟩:=id B.B.B;intro d hd;have kp:∀ {H2:Hp} {kvs:List (List JP×V)},Jf H H2→Jf H (upd H2 d (.dT kvs)):=fun e b' u h=>by rw [Jz (JA h hd)]; exact e b' u h
  refine ⟨_,rfl,k,_,dx,_,.ref b,rfl,kp (Jf.refl _) _ _ h1,T.Yk,T.Zx,rfl,b,_,bdx,_,.ref tp,rfl,kp (Jf.refl _) _ _ hb,T.YV,T.JaB,rfl,tp,rfl,⟨_,JX.of (kp (Jf.refl _) _ _ hp)⟩,?_⟩;refine JnE (xs:=ps.map V.str) (fun i σ H2=>∃ kvs v1 v2,Jf H H2∧H2 d=some (.dT kvs)∧kvs.length≤2 * i∧(∀ p∈ps.take i,∀ r,Yd kvs (Jaf p r)=some (.int (JO (zs.map (·.2)) gs c m p r)))∧σ=[some (.ref k),some (.int m),some (.ref d),v1,v2])
   ⟨[],none,none,kp (Jf.refl _),Jh,Nat.zero_le _,fun p hp=>by simp at hp,rfl⟩ (fun i σ H2 _ h=>by obtain ⟨_,_,_,e,_⟩:=h; exact JX.of (e _ _ hp)) ?_ ?_
  ·rintro i x σ H2 hx ⟨kvs,v1,v2,e2,hd2,hl2,hv2,rfl⟩;rw [List.getElem?_map] at hx;obtain ⟨p,hp1,rfl⟩:=Option.map_eq_some_iff.mp hx;have hpm:=List.mem_of_getElem? hp1;refine ⟨T.JfQ,rfl,⟨_,T.Jhy _⟩,?_⟩;refine JnE (xs:=[.str "north",.str "south"]) (fun j σ H3=>∃ kvs v2,Jf H H3∧H3 d=some (.dT kvs)∧kvs.length≤2 * i + j∧(∀ p∈ps.take i,∀ r,Yd kvs (Jaf p r)=some (.int (JO (zs.map (·.2)) gs c m p r))) ∧
     (0 < j→Yd kvs (Jaf p true)=some (.int (JO (zs.map (·.2)) gs c m p true)))∧(1 < j→Yd kvs (Jaf p false)=some (.int (JO (zs.map (·.2)) gs c m p false)))∧σ=[some (.ref k),some (.int m),some (.ref d),some (.str p),v2])
    ⟨kvs,v2,e2,hd2,by omega,hv2,fun z=>absurd z (by decide),fun z=>absurd z (by decide),rfl⟩ (fun i σ H2 _ h=>T.Jhy _) ?_ ?_
   ·rintro j y σ H3 hy ⟨kvs,v2,e3,hd3,hl3,hv3,hn3,hs3,rfl⟩;obtain ⟨r,rfl,hrj⟩:∃ r:Bool,y=.str (hs r)∧((r=true∧j=0)∨(r=false∧j=1)):=by
     match j,hy with
     | 0,h=>exact ⟨true,(Option.some.inj h).symm,.inl ⟨rfl,rfl⟩⟩
     | 1,h=>exact ⟨false,(Option.some.inj h).symm,.inr ⟨rfl,rfl⟩⟩
     | j + 2,h=>cases h
    refine ⟨_,rfl,k,dx,_,rfl,e3 _ _ h1,rfl,_,rfl,_,rfl,_,rfl,k,b,p,m,r,ps,zs,gs,c,t,n,rfl,B.same e3,hm,hm2,hpm,fun H4 e4=>?_⟩;refine ⟨_,rfl,_,rfl,_,rfl,by show 2≤sizeLine; decide,fun tp4 n4=>?_⟩;have hd4:upd H4 tp4 (.tup [.str p,.str (hs r)]) d=some (.dT kvs):=(Jf.upd n4) _ _ (e4 _ _ hd3);have hlen:ps.length≤12:=B.B.G.p2;have hil:i < ps.length:=(List.getElem?_eq_some_iff.mp hp1).1;have hj2:j≤1:=by rcases hrj with h | h <;> omega
    refine ⟨d,_,rfl,Jfs.t (k:=Jaf p r) hd4 (show upd H4 tp4 (.tup [.str p,.str (hs r)]) tp4=some (.tup ((Jaf p r).map kV)) from Jh) (by omega),_,_,kp ((e3.trans e4).trans (Jf.upd n4)),Jh,?_,fun p' hp' r'=>?_,fun h=>?_,fun h=>?_,rfl⟩
    ·unfold Zi;split
     ·rw [List.length_map]; omega
     ·rw [List.length_append,List.length_singleton]; omega
    ·rw [JaF];by_cases hk:Jaf p' r'=Jaf p r
     ·obtain ⟨rfl,rfl⟩:=JmQ hk;rw [if_pos rfl]
     ·rw [if_neg hk]; exact hv3 p' hp' r'
    ·rw [JaF];rcases hrj with ⟨rfl,rfl⟩ | ⟨rfl,rfl⟩
     ·rw [if_pos rfl]
     ·rw [if_neg (fun e=>by have:=(JmQ e).2; cases this)]; exact hn3 (by decide)
    ·rcases hrj with ⟨rfl,rfl⟩ | ⟨rfl,rfl⟩
     ·exact absurd h (by decide)
     ·rw [JaF,if_pos rfl]
   ·rintro σ H3 ⟨kvs,v2,e3,hd3,hl3,hv3,hn3,hs3,rfl⟩;refine ⟨kvs,_,_,e3,hd3,by have:[V.str "north",V.str "south"].length=2:=rfl; omega,fun p' hp' r=>?_,rfl⟩;rw [List.take_succ,hp1] at hp';rcases List.mem_append.mp hp' with h | h
    ·exact hv3 p' h r
    ·have h:p'=p:=by simpa using h
     subst h;cases r with
     | true=>exact hn3 (by decide)
     | false=>exact hs3 (by decide)
  ·rintro σ H2 ⟨kvs,v1,v2,e2,hd2,hl2,hv2,rfl⟩;rw [List.length_map,List.take_length] at hv2;exact ⟨_,rfl,q d H2 e2 ⟨kvs,hd2,hv2⟩⟩
theorem JgR (T:Txt K mg):JL P w K mg base (Zf P w) 7 T.JcO T.JeB ["self", "board", "coins", "turns"] (Jil K T.JT T.JV T.JF):=by
 refine T.JcQ.F.ok1 Jgx (fun vs H Q E h=>?_) (fun cdv A outer s H vs Q E hr h=>?_)
 ·obtain ⟨_,_,_,_,_,_,_,_,rfl,_⟩:=h;rfl
 ·obtain ⟨k,b,dx,c,t,ps,zs,gs,rfl,hk,hkb,B,q1,q2,q⟩:=h;have szl:sizeLine=16777216:=sizeLine_eq;refine ⟨_,(@Je _ _ _ _ _ (@JW _ _ _ _ (@Jl _ _ _ _ _ _ _ _ _ _ _ _ _ _ _ T.Zh (ZG T) (hr.mono (by decide)) Y3 (@Ja _ _ _ _ _ (@pv _ 2 _ _ rfl (.inl rfl) rfl rfl) (@Ja _ _ _ _ _ (@ZY _ _ _ _ _ rfl T.Jad T.Jab (by decide)) (@Jc _) rfl) rfl) rfl (by decide) rfl rfl) rfl) (@Je _ _ _ _ _ (@JW _ _ _ _ (@Jl _ _ _ _ _ _ _ _ _ _ _ _ _ _ _ T.Zh (ZG T) (hr.mono (by decide)) Y3 (@Ja _ _ _ _ _ (@pv _ 3 _ _ rfl (.inl rfl) rfl rfl) (@Ja _ _ _ _ _ (@ZY _ _ _ _ _ rfl T.ZT T.ZN (by decide)) (@Jc _) rfl) rfl) rfl (by decide) rfl rfl) rfl) (@Je _ _ _ _ _ (@JbV _ _ _ _ _ _ _ _ (@pv _ 0 _ _ rfl (.inl rfl) rfl rfl) (@pv _ 1 _ _ rfl (.inl rfl) rfl rfl) rfl) (@Je _ _ _ _ _ (@JbV _ _ _ _ _ _ _ _ (@pv _ 0 _ _ rfl (.inl rfl) rfl rfl) (@pv _ 2 _ _ rfl (.inl rfl) rfl rfl) rfl) (@Je _ _ _ _ _ (@JbV _ _ _ _ _ _ _ _ (@pv _ 0 _ _ rfl (.inl rfl) rfl rfl) (@pv _ 3 _ _ rfl (.inl rfl) rfl rfl) rfl) (@Je _ _ _ _ _ (@JbV _ _ _ _ _ _ _ _ (@pv _ 0 _ _ rfl (.inl rfl) rfl rfl) (@J7 _ _ _ _ (@Jc _)) rfl) (@Ji _ _ _ (@YH _ _ _ _ _ _ _ _ PassesOwn.leaving rfl (@Yx _ _ _ _ _ _ rfl T.YM (@Ja _ _ _ _ _ (@Jk _ _ _ _ _ _ _ _ (@JM _) (@pv _ 3 _ _ rfl (.inl rfl) rfl rfl) (@Jd _ _ _ _)) (@Jc _) rfl) rfl) (@JS _ _ 4 _ Jgx.nd rfl (Or.inl rfl) (.inl rfl)) (@Ji _ _ _ (@JW _ _ _ _ (@Jbl _ _ _ _ _ _ _ _ _ _ _ _ PySem.F.plainAttrs_list PySem.F.slot_list_append PySem.F.type_list_append (@Zg _) (@YY _ _ _ _ _ (@pv _ 0 _ _ rfl (.inl rfl) rfl rfl) rfl) (@Ja _ _ _ _ _ (@YB _ _ _ _ _ _ _ _ _ _ _ _ _ _ _ _ _ _ _ _ (@pv _ 0 _ _ rfl (.inl rfl) rfl rfl) T.Yk T.Jaa.m (JgQ T) (hr.mono (by decide)) T.Jaa.b .nil JG (@Ja _ _ _ _ _ (@pv _ 4 _ _ rfl (.inl rfl) rfl rfl) (@Jc _) rfl) rfl rfl rfl) (@Jc _) rfl) rfl rfl rfl rfl rfl) rfl)) (by intro _; rfl))))))))),?_⟩;refine ⟨_,rfl,c,20,rfl,⟨by decide,by decide⟩,fun hc=>?_,q1⟩;refine ⟨_,rfl,t,30,rfl,⟨by decide,by decide⟩,fun ht=>?_,q2 hc⟩;have q:=q hc ht;obtain ⟨tn,rfl⟩:∃ j:Nat,t=(j:Int):=⟨t.toNat,by omega⟩
  rw [Int.toNat_natCast] at q;refine ⟨_,rfl,_,rfl,k,_,dx,_,rfl,hk,T.Yk,T.Zx,by decide,?_⟩;have b1:YW k H (upd H k (.ins T.JV dx (Yt "board" (.ref b) []))):=YW.put;have h1:upd H k (.ins T.JV dx (Yt "board" (.ref b) [])) k=some (.ins T.JV dx [("board",.ref b)]):=Jh;generalize upd H k (.ins T.JV dx (Yt "board" (.ref b) []))=H1 at b1 h1;refine ⟨_,rfl,_,rfl,k,_,dx,_,rfl,h1,T.Yk,T.ZZ,by show 1 < 1000; decide,?_⟩;have b2:=b1.trans (YW.put (o:=.ins T.JV dx (Yt "coins" (.int c) [("board",.ref b)])));have h2:upd H1 k (.ins T.JV dx (Yt "coins" (.int c) [("board",.ref b)])) k=some (.ins T.JV dx [("board",.ref b),("coins",.int c)]):=Jh;generalize upd H1 k (.ins T.JV dx (Yt "coins" (.int c) [("board",.ref b)]))=H2 at b2 h2;refine ⟨_,rfl,_,rfl,k,_,dx,_,rfl,h2,T.Yk,T.Jdk,by show 2 < 1000; decide,?_⟩;have b3:=b2.trans (YW.put (o:=.ins T.JV dx (Yt "turns" (.int (tn:Int)) [("board",.ref b),("coins",.int c)])));have h3:upd H2 k (.ins T.JV dx (Yt "turns" (.int (tn:Int)) [("board",.ref b),("coins",.int c)])) k=some (.ins T.JV dx [("board",.ref b),("coins",.int c),("turns",.int (tn:Int))]):=Jh;generalize upd H2 k (.ins T.JV dx (Yt "turns" (.int (tn:Int)) [("board",.ref b),("coins",.int c)]))=H3 at b3 h3;refine ⟨by show 0≤sizeLine; decide,fun l hl=>?_⟩;refine ⟨_,rfl,k,_,dx,_,rfl,(Jf.upd hl) _ _ h3,T.Yk,T.Zw,by show 3 < 1000; decide,?_⟩;have lk:l≠k:=fun e=>by rw [e,h3] at hl; cases hl
  have lH:H l=none:=by
   cases e:H l with
   | none=>rfl
   | some u=>rw [b3 l u lk e] at hl; cases hl
  have b4:=(b3.trans (YW.of (Jf.upd (o:=.lst []) hl))).trans (YW.put (o:=.ins T.JV dx (Yt "needs" (.ref l) [("board",.ref b),("coins",.int c),("turns",.int (tn:Int))])));have h4:upd (upd H3 l (.lst [])) k (.ins T.JV dx (Yt "needs" (.ref l) [("board",.ref b),("coins",.int c),("turns",.int (tn:Int))])) k=some (.ins T.JV dx [("board",.ref b),("coins",.int c),("turns",.int (tn:Int)),("needs",.ref l)]):=Jh;have l4:upd (upd H3 l (.lst [])) k (.ins T.JV dx (Yt "needs" (.ref l) [("board",.ref b),("coins",.int c),("turns",.int (tn:Int))])) l=some (.lst []):=by rw [Jz lk,Jh]
  generalize upd (upd H3 l (.lst [])) k (.ins T.JV dx (Yt "needs" (.ref l) [("board",.ref b),("coins",.int c),("turns",.int (tn:Int))]))=H4 at b4 h4 l4;refine ⟨_,rfl,_,_,rfl,rfl,(tn:Int) + 1,rfl,by omega,by omega,?_⟩;rw [show ((tn:Int) + 1).toNat=tn + 1 by omega];refine YU (n:=tn + 1) (fun i σ H5=>∃ rs v,YW k H H5∧H5 k=some (.ins T.JV dx [("board",.ref b),("coins",.int c),("turns",.int (tn:Int)),("needs",.ref l)])∧H5 l=some (.lst (rs.map V.ref))∧rs.length=i∧(∀ (j:Nat) a,rs[j]?=some a→Je5 H5 a ps (JO (zs.map (·.2)) gs c j))∧σ=[some (.ref k),some (.ref b),some (.int c),some (.int (tn:Int)),v])
   ⟨[],none,b4,h4,l4,rfl,fun j a e=>by simp at e,rfl⟩ ?_ ?_
  ·rintro i σ H5 hi ⟨rs,v,b5,h5,l5,len5,r5,rfl⟩;have B5:Bk K T.JT T.JV H5 k b ps zs gs c tn i:=⟨YW.bd B b5 hk hkb,hc.1,hc.2,by omega,dx,l,rs,h5,l5,len5,r5⟩
   refine ⟨_,rfl,k,_,dx,_,.ref l,rfl,h5,T.Yk,T.Zw,rfl,.inl ⟨rfl,_,Jp.of l5⟩,_,rfl,k,dx,_,rfl,h5,rfl,_,rfl,k,b,i,ps,zs,gs,c,tn,i,by rw [Int.zero_add]; rfl,B5,Nat.le_refl _,by omega,fun a H6 e6 r6=>?_⟩;refine ⟨l,_,_,rfl,rfl,e6 _ _ l5,by rw [List.length_map]; omega,rs ++ [a],_,?_,?_,?_,?_,?_,rfl⟩
   ·intro x u hx hu;rw [Jz (JA hu lH)];exact e6 _ _ (b5 x u hx hu)
   ·rw [Jz (fun e=>lk e.symm)]; exact e6 _ _ h5
   ·rw [Jh,List.map_append]; rfl
   ·rw [List.length_append,len5]; rfl
   ·intro j x hx;have key:∀ {y:Addr} {f:Str→Bool→Int},Je5 H6 y ps f→Je5 (upd H6 l (.lst (rs.map V.ref ++ [.ref a]))) y ps f:=fun {y f} hy=>by
     obtain ⟨kvs,y1,y2⟩:=hy;exact ⟨kvs,by rw [Jz (Jaj y1 (e6 _ _ l5) (fun z=>nomatch z))]; exact y1,y2⟩
    by_cases hj:j < rs.length
    ·rw [List.getElem?_append_left hj] at hx;exact key ((r5 j x hx).same e6)
    ·rw [List.getElem?_append_right (by omega)] at hx;have hj0:j - rs.length=0:=by
      cases e:j - rs.length with
      | zero=>rfl
      | succ n=>rw [e] at hx; simp at hx
     rw [hj0] at hx;have:a=x:=by simpa using hx
     subst this;have:j=i:=by omega
     subst this;exact key r6
  ·rintro σ H5 ⟨rs,v,b5,h5,l5,len5,r5,rfl⟩;exact q H5 b5 ⟨YW.bd B b5 hk hkb,hc.1,hc.2,by omega,dx,l,rs,h5,l5,len5,r5⟩
theorem Jcj (T:Txt K mg):JL P w K mg base (Zf P w) 3 T.JaW T.Jaw ["self", "place", "turns", "north", "ribbon"] (Jqe K T.JT T.JV T.JU T.JF T.J4):=by
 refine T.Y9.F.ok1 Jgr (fun vs H Q E h=>?_) (fun cdv A outer s H vs Q E hr h=>?_)
 ·obtain ⟨_,_,_,_,_,_,_,_,_,_,_,rfl,_⟩:=h;rfl
 ·obtain ⟨k,b,z,x,m,north,ps,zs,gs,c,t,rfl,tz,tx,B,⟨q1,q2,q3,q4⟩,q⟩:=h;refine ⟨_,(@Je _ _ _ _ _ (@JW _ _ _ _ (@YB _ _ _ _ _ _ _ _ _ _ _ _ _ _ _ _ _ _ _ _ (@YY _ _ _ _ _ (@pv _ 0 _ _ rfl (.inl rfl) rfl rfl) rfl) T.YV T.Yb.m (Zb T) (hr.mono (by decide)) T.Yb.b .nil Y3 (@Ja _ _ _ _ _ (@pv _ 1 _ _ rfl (.inl rfl) rfl rfl) (@Jc _) rfl) rfl rfl rfl) rfl) (@Je _ _ _ _ _ (@JW _ _ _ _ (@Jl _ _ _ _ _ _ _ _ _ _ _ _ _ _ _ T.Zh (ZG T) (hr.mono (by decide)) Y3 (@Ja _ _ _ _ _ (@pv _ 2 _ _ rfl (.inl rfl) rfl rfl) (@Ja _ _ _ _ _ (@YY _ _ _ _ _ (@pv _ 0 _ _ rfl (.inl rfl) rfl rfl) rfl) (@Jc _) rfl) rfl) rfl (by decide) rfl rfl) rfl) (@Je _ _ _ _ _ (@JW _ _ _ _ (@Jl _ _ _ _ _ _ _ _ _ _ _ _ _ _ _ T.Zh (ZG T) (hr.mono (by decide)) Y3 (@Ja _ _ _ _ _ (@pv _ 3 _ _ rfl (.inl rfl) rfl rfl) (@Ja _ _ _ _ _ (@YY _ _ _ _ _ (@pv _ 0 _ _ rfl (.inl rfl) rfl rfl) rfl) (@Jc _) rfl) rfl) rfl (by decide) rfl rfl) rfl) (@Ji _ _ _ (@JW _ _ _ _ (@Jl _ _ _ _ _ _ _ _ _ _ _ _ _ _ _ T.Jce (Jge T) (hr.mono (by decide)) Y3 (@Ja _ _ _ _ _ (@pv _ 4 _ _ rfl (.inl rfl) rfl rfl) (@Jc _) rfl) rfl (by decide) rfl rfl) rfl))))),?_⟩;obtain ⟨dx,l,rs,h1,h2,h3,h4⟩:=B.at_;obtain ⟨bdx,tp,tl,tg,hb,_⟩:=id B.B.B;have:=B.c0;have:=B.c1;have:=B.t1;refine ⟨_,rfl,k,_,dx,_,.ref b,rfl,h1,T.Yk,T.Zx,rfl,b,bdx,_,rfl,hb,rfl,_,rfl,b,z,ps,zs,gs,rfl,tz,B.B.B,fun hz=>?_,q1⟩;refine ⟨_,rfl,_,rfl,k,_,dx,_,.int t,rfl,h1,T.Yk,T.Jdk,rfl,m,t,rfl,⟨by omega,by omega⟩,fun hm=>?_,q2 hz⟩;refine ⟨_,rfl,_,rfl,k,_,dx,_,.int c,rfl,h1,T.Yk,T.ZZ,rfl,north,c,rfl,⟨by omega,by omega⟩,fun hn=>?_,q3 hz hm⟩;exact ⟨_,rfl,x,rfl,tx,fun hx=>q ⟨hz,hm,hn,hx⟩,q4 hz hm hn⟩
theorem Jke (T:Txt K mg):JL P w K mg base (Zf P w) 4 T.Jdx T.JcD ["self", "place", "turns", "north", "ribbon"] (JoR K T.JT T.JV T.JU T.JF T.J4):=by
 refine T.Jbp.F.ok1 JjY (fun vs H Q E h=>?_) (fun cdv A outer s H vs Q E hr h=>?_)
 ·obtain ⟨_,_,_,_,_,_,_,_,_,_,_,rfl,_⟩:=h;rfl
 ·obtain ⟨k,b,z,x,m,north,ps,zs,gs,c,t,rfl,tz,tx,B,qe,q⟩:=h;have hu:=Ja1 hr;refine ⟨_,(@Je _ _ _ _ _ (@JW _ _ _ _ (@YB _ _ _ _ _ _ _ _ _ _ _ _ _ _ _ _ _ _ _ _ (@pv _ 0 _ _ rfl (.inl rfl) rfl rfl) T.Yk T.Y9.m (Jcj T) (hr.mono (by decide)) T.Y9.b .nil Y3 (@Ja _ _ _ _ _ (@pv _ 1 _ _ rfl (.inl rfl) rfl rfl) (@Ja _ _ _ _ _ (@pv _ 2 _ _ rfl (.inl rfl) rfl rfl) (@Ja _ _ _ _ _ (@pv _ 3 _ _ rfl (.inl rfl) rfl rfl) (@Ja _ _ _ _ _ (@pv _ 4 _ _ rfl (.inl rfl) rfl rfl) (@Jc _) rfl) rfl) rfl) rfl) rfl rfl rfl) rfl) (@Ji _ _ _ (@Jw _ _ _ _ (@Jiu _ _ _ _ _ _ _ _ (@Jq _ _ _ _ _ _ _ _ (@Jog _) (@pv _ 3 _ _ rfl (.inl rfl) rfl rfl) (@Jac _ _ _ _ _ _ hu (@Jr _ _ _ _ _ _ _ (@JE _) (@YY _ _ _ _ _ (@pv _ 0 _ _ rfl (.inl rfl) rfl rfl) rfl) (@pv _ 2 _ _ rfl (.inl rfl) rfl rfl) (fun _ _=>rfl)) (@Yz _ _ _ _ _ (@Ja _ _ _ _ _ (@pv _ 1 _ _ rfl (.inl rfl) rfl rfl) (@Ja _ _ _ _ _ (@pv _ 4 _ _ rfl (.inl rfl) rfl rfl) (@Jc _) rfl) rfl)) (fun _ _=>rfl)) (Ju _)) (@Js _ _ _ _) (@Js _ _ _ _))))),?_⟩;obtain ⟨dx,l,rs,h1,h2,h3,h4⟩:=B.at_;refine ⟨_,rfl,k,dx,_,rfl,h1,rfl,_,rfl,_,rfl,_,rfl,_,rfl,k,b,z,x,m,north,ps,zs,gs,c,t,rfl,tz,tx,B,qe,fun ⟨hz,hm,hn,hx⟩=>?_⟩;obtain ⟨r,rfl⟩:=Jkh hx;obtain ⟨j,rfl⟩:∃ j:Nat,m=(j:Int):=⟨m.toNat,by omega⟩
  obtain ⟨a,ha⟩:∃ a,rs[j]?=some a:=⟨_,List.getElem?_eq_getElem (by omega)⟩
  obtain ⟨kvs,hk1,hk2⟩:=h4 j a ha;have hat:atI (rs.map V.ref) (j:Int)=some (.ref a):=YD (by rw [List.getElem?_map,ha]; rfl);refine ⟨_,rfl,_,rfl,k,_,dx,_,.ref l,rfl,h1,T.Yk,T.Zw,rfl,_,rfl,l,_,_,.ref a,rfl,rfl,Jp.of h2,hat,_,rfl,_,rfl,by show 2≤sizeLine; decide,fun p hp=>?_⟩;have g:=ZB.t (k:=Jaf z r) ((Jf.upd (o:=.tup [.str z,.str (hs r)]) hp) _ _ hk1) (show upd H p (.tup [.str z,.str (hs r)]) p=some (.tup ((Jaf z r).map kV)) from Jh);rw [hk2 z hz r] at g;have q:=q hz hm hn r rfl _ (Jf.upd (o:=.tup [.str z,.str (hs r)]) hp);rw [Int.toNat_natCast] at q;refine ⟨a,_,rfl,g,_,_,rfl,rfl,_,rfl,Yp (fun hc=>?_) (fun hc=>?_)⟩
  ·rw [hc] at q; exact q
  ·rw [Bool.not_eq_true] at hc; rw [hc] at q; exact q
theorem Jln (T:Txt K mg):JL P w K mg base (Zf P w) 4 T.JeG T.Jdp ["self", "place", "turns", "ribbon"] (Jql K T.JT T.JV T.JU T.JF T.J4):=by
 refine T.Jch.F.ok1 Jf9 (fun vs H Q E h=>?_) (fun cdv A outer s H vs Q E hr h=>?_)
 ·obtain ⟨_,_,_,_,_,_,_,_,_,_,rfl,_⟩:=h;rfl
 ·obtain ⟨k,b,z,x,m,ps,zs,gs,c,t,rfl,tz,tx,B,qe,q⟩:=h;have hu:=Ja1 hr;refine ⟨_,(@Je _ _ _ _ _ (@JW _ _ _ _ (@YB _ _ _ _ _ _ _ _ _ _ _ _ _ _ _ _ _ _ _ _ (@pv _ 0 _ _ rfl (.inl rfl) rfl rfl) T.Yk T.Y9.m (Jcj T) (hr.mono (by decide)) T.Y9.b .nil Y3 (@Ja _ _ _ _ _ (@pv _ 1 _ _ rfl (.inl rfl) rfl rfl) (@Ja _ _ _ _ _ (@pv _ 2 _ _ rfl (.inl rfl) rfl rfl) (@Ja _ _ _ _ _ (@YY _ _ _ _ _ (@pv _ 0 _ _ rfl (.inl rfl) rfl rfl) rfl) (@Ja _ _ _ _ _ (@pv _ 3 _ _ rfl (.inl rfl) rfl rfl) (@Jc _) rfl) rfl) rfl) rfl) rfl rfl rfl) rfl) (@Je _ _ _ _ _ (@Jx _ _ 4 _ _ _ _ Jf9.nd rfl (Or.inl rfl) (@Jac _ _ _ _ _ _ hu (@Jr _ _ _ _ _ _ _ (@JE _) (@YY _ _ _ _ _ (@pv _ 0 _ _ rfl (.inl rfl) rfl rfl) rfl) (@pv _ 2 _ _ rfl (.inl rfl) rfl rfl) (fun _ _=>rfl)) (@Yz _ _ _ _ _ (@Ja _ _ _ _ _ (@pv _ 1 _ _ rfl (.inl rfl) rfl rfl) (@Ja _ _ _ _ _ (@pv _ 3 _ _ rfl (.inl rfl) rfl rfl) (@Jc _) rfl) rfl)) (fun _ _=>rfl)) rfl (.inl rfl)) (@Ji _ _ _ (@Jw _ _ _ _ (@Jiu _ _ _ _ _ _ _ _ (@Jq _ _ _ _ _ _ _ _ (@JbY _) (@pv _ 4 _ _ rfl (.inl rfl) rfl rfl) (@YY _ _ _ _ _ (@pv _ 0 _ _ rfl (.inl rfl) rfl rfl) rfl) (Ju _)) (@Jl6 _ _ _) (@pv _ 4 _ _ rfl (.inl rfl) rfl rfl)))))),?_⟩;obtain ⟨dx,l,rs,h1,h2,h3,h4⟩:=B.at_;refine ⟨_,rfl,k,dx,_,rfl,h1,rfl,_,rfl,_,rfl,_,rfl,k,_,dx,_,.int c,rfl,h1,T.Yk,T.ZZ,rfl,_,rfl,k,b,z,x,m,c,ps,zs,gs,c,t,rfl,tz,tx,B,qe,fun ⟨hz,hm,hn,hx⟩=>?_⟩;obtain ⟨r,rfl⟩:=Jkh hx;obtain ⟨j,rfl⟩:∃ j:Nat,m=(j:Int):=⟨m.toNat,by omega⟩
  obtain ⟨a,ha⟩:∃ a,rs[j]?=some a:=⟨_,List.getElem?_eq_getElem (by omega)⟩
  obtain ⟨kvs,hk1,hk2⟩:=h4 j a ha;have hat:atI (rs.map V.ref) (j:Int)=some (.ref a):=YD (by rw [List.getElem?_map,ha]; rfl);refine ⟨_,rfl,k,_,dx,_,.ref l,rfl,h1,T.Yk,T.Zw,rfl,_,rfl,l,_,_,.ref a,rfl,rfl,Jp.of h2,hat,_,rfl,_,rfl,by show 2≤sizeLine; decide,fun p hp=>?_⟩;have e1:Jf H (upd H p (.tup [.str z,.str (hs r)])):=Jf.upd hp;have g:=ZB.t (k:=Jaf z r) (e1 _ _ hk1) (show upd H p (.tup [.str z,.str (hs r)]) p=some (.tup ((Jaf z r).map kV)) from Jh);rw [hk2 z hz r] at g;have q:=q hz hm r rfl _ e1;rw [Int.toNat_natCast] at q;refine ⟨a,_,rfl,g,_,rfl,_,rfl,k,_,dx,_,.int c,rfl,e1 _ _ h1,T.Yk,T.ZZ,rfl,_,_,rfl,rfl,_,rfl,Yp (fun hc=>?_) (fun hc=>?_)⟩
  ·rw [ZQ,if_neg (by have:=of_decide_eq_true hc; omega)] at q; exact q
  ·rw [ZQ,if_pos (Int.not_lt.mp fun h=>hc (decide_eq_true h))] at q; exact ⟨_,rfl,q⟩
end
def Jqk (K:PySem.W.Frag):Sp:=fun vs H Q _=>∃ (t:Addr) (z:Str) (ps:List Str) (zs:List (V×(Str×Str))) (gs:List Str),vs=[.ref t,.str z]∧Ground K H t ps zs gs∧∀ (p:Addr) (ws:List Str) (H':Hp),Jf H H'→H' p=some (.lst (ws.map V.str))→ws.Perm (Jy (zs.map (·.2)) z)→ws.Pairwise sle→Q (.ref p) H'
def ZH (z:Str) (n:Int) (zs:List (Str×Str)) (gs:List Str):Str:=if z∈gs then "north" else if n=0∨Jy zs z=[] then "south" else ""
def JsQ (K:PySem.W.Frag):Sp:=fun vs H Q _=>∃ (t:Addr) (z:Str) (n:Int) (ps:List Str) (zs:List (V×(Str×Str))) (gs:List Str),vs=[.ref t,.str z,.int n]∧Ground K H t ps zs gs∧∀ H',Jf H H'→Q (.str (ZH z n (zs.map (·.2)) gs)) H'
section
variable {K:PySem.W.Frag} {C CB:Addr} {H:Hp} {σ:St} {i j l:Nat} {E:XK} {Q:VK}
theorem Joo {H4:Hp} {l1 l2 l3 x dx:Addr} {ps:List Str} {zs:List (V×(Str×Str))} {gs:List Str} (e4:Jf H H4) (k1:H4 l1=some (.lst (ps.map V.str))) (k2:H4 l2=some (.lst (zs.map (·.1)))) (k3:H4 l3=some (.lst (gs.map V.str))) (hP:Zp K H4 zs) (G:JeM ps (zs.map (·.2)) gs)
  (nx:H4 x=none) (ndx:H4 dx=none) (q:∀ ps' zs' gs' H',Jf H H'→Bd K C H' x ps' zs' gs'→ps'.Perm ps→ps'.Pairwise sle→zs'.Perm zs→(zs'.map (·.2)).Pairwise ple→gs'.Perm gs→gs'.Pairwise sle→Q .non H') :
  Jnm K C (.ref x :: ([.ref l1,.ref l2,.ref l3] ++ [])) (upd (upd H4 dx (.own x)) x (.ins C dx [])) Q E:=by
 have e5:Jf H4 (upd (upd H4 dx (.own x)) x (.ins C dx [])):=fun b u e=>by
  rw [Jz (JA e nx),Jz (JA e ndx)]; exact e
 refine ⟨x,l1,l2,l3,dx,ps,zs,gs,rfl,Jh,Jp.of (e5 _ _ k1),Jp.of (e5 _ _ k2),Jai hP e5,Jp.of (e5 _ _ k3),G,fun H' ps' zs' gs' bt pp ps zp zs gp gs B=>q ps' zs' gs' H' (fun b u e=>?_) ⟨B,G.perm pp (zp.map _) gp⟩ pp ps zp zs gp gs⟩;have e6:=e4 b u e;exact bt b u (JA e6 nx) (e5 b u e6)
theorem Jpp {x0 x dx:Addr} {b:Addr} {ps:List Str} {zs:List (V×(Str×Str))} {gs:List Str} {c t:Int} (B:Bd K C H b ps zs gs) (hc:0≤c∧c≤20) (ht:0≤t∧t≤30)
  (nx:H x=none) (ndx:H dx=none) (q:∀ H',Jf H H'→Bk K C CB H' x b ps zs gs c t.toNat (t.toNat + 1)→Q .non H') :
  Jil K C CB x0 (.ref x :: ([.ref b,.int c,.int t] ++ [])) (upd (upd H dx (.own x)) x (.ins CB dx [])) Q E:=by
 have e5:Jf H (upd (upd H dx (.own x)) x (.ins CB dx [])):=fun b u e=>by
  rw [Jz (JA e nx),Jz (JA e ndx)]; exact e
 obtain ⟨bdx,_,_,_,hb,_⟩:=id B.B;refine ⟨x,b,dx,c,t,ps,zs,gs,rfl,Jh,(fun e=>by rw [← e,nx] at hb; cases hb),B.same e5,fun h=>absurd hc h,fun _ h=>absurd ht h,fun _ _ H' bt Bk'=>q H' (fun b u e=>?_) Bk'⟩;exact bt b u (JA e nx) (e5 b u e)
theorem Bk.ins {k b:Addr} {ps:List Str} {zs:List (V×(Str×Str))} {gs:List Str} {c:Int} {t n:Nat} (h:Bk K C CB H k b ps zs gs c t n):∃ dx l,H k=some (.ins CB dx [("board",.ref b),("coins",.int c),("turns",.int t),("needs",.ref l)]):=let ⟨dx,l,_,h1,_⟩:=h.at_; ⟨dx,l,h1⟩
end
theorem JdL {zs zs':List (Str×Str)} (h:zs'.Perm zs) (p:Str):(Jy zs' p).Perm (Jy zs p):=(h.filter _).map _
theorem Jp7 {zs zs':List (Str×Str)} (h:zs'.Perm zs) (p:Str):Jy zs' p=[]↔Jy zs p=[]:=by
 have hp:=JdL h p;constructor
 ·intro e; rw [e] at hp; exact hp.symm.eq_nil
 ·intro e; rw [e] at hp; exact hp.eq_nil
theorem JsG {z:Str} {m:Nat} {zs zs':List (Str×Str)} {gs gs':List Str} (zp:zs'.Perm zs) (gp:gs'.Perm gs) :
  (z∈gs'∧ZH z (m:Int) zs gs = "north"∧Jc9 zs' gs' m z)∨(z∉gs'∧ZH z (m:Int) zs gs = "south"∧Jc9 zs' gs' m z)∨(ZH z (m:Int) zs gs = ""∧¬ Jc9 zs' gs' m z):=by
 have e1:(z∈gs')↔(z∈gs):=gp.mem_iff;have e2:=Jp7 zp z;unfold ZH Jc9;by_cases hg:z∈gs
 ·exact .inl ⟨e1.mpr hg,by rw [if_pos hg],.inl (e1.mpr hg)⟩
 ·by_cases h0:(m:Int)=0∨Jy zs z=[]
  ·refine .inr (.inl ⟨fun h=>hg (e1.mp h),by rw [if_neg hg,if_pos h0],.inr ?_⟩);rcases h0 with h0 | h0
   ·exact .inl (by omega)
   ·exact .inr (e2.mpr h0)
  ·refine .inr (.inr ⟨by rw [if_neg hg,if_neg h0],?_⟩);rintro (h | h | h)
   ·exact hg (e1.mp h)
   ·exact h0 (.inl (by omega))
   ·exact h0 (.inr (e2.mp h))
theorem Jmm {zs:List (Str×Str)} {gs:List Str} {c:Int} {m:Nat} {z:Str} {r:Bool} (h:Jc9 zs gs m z):JO zs gs c m z r=if z∈gs then 0 else c + 1:=by
 by_cases hg:z∈gs
 ·rw [if_pos hg]; exact JcW (decide_eq_true hg)
 ·rw [if_neg hg];rcases h with h | h | h
  ·exact absurd h hg
  ·subst h; exact JkS (decide_eq_false hg)
  ·exact JcV (decide_eq_false hg) h
theorem Jej {x n:Int} (h:0 < n):0≤x % n∧x % n < n:=⟨Int.emod_nonneg _ (by omega),Int.emod_lt_of_pos _ h⟩
theorem JmR {ps:List Str} (h:1≤ps.length) (x:Int):∃ p,atI (ps.map V.str) (x % ((ps.map V.str).length:Int))=some (.str p)∧p∈ps:=by
 rw [List.length_map];have hb:=Jej (x:=x) (n:=(ps.length:Int)) (by omega);exact ⟨_,Jlu hb.1 hb.2,Jjf hb.1 hb.2⟩
theorem JlE {zs:List (Str×Str)} (h:zs.Pairwise ple) (p:Str):(Jy zs p).Pairwise sle:=by
 unfold Jy;rw [List.pairwise_map];refine List.Pairwise.imp_of_mem ?_ (h.filter _);intro x y hx hy hxy;have e1:x.1=p:=of_decide_eq_true (List.mem_filter.mp hx).2;have e2:y.1=p:=of_decide_eq_true (List.mem_filter.mp hy).2;have z:(if y.1.cps.toList=x.1.cps.toList then decide (y.2.cps.toList < x.2.cps.toList) else decide (y.1.cps.toList < x.1.cps.toList))=false:=hxy;rw [if_pos (by rw [e1,e2])] at z;exact z
theorem Jp8 {zs zs':List (Str×Str)} {ws:List Str} {p:Str} (hz:zs'.Pairwise ple) (zp:zs'.Perm zs) (hw:ws.Perm (Jy zs p)) (hs:ws.Pairwise sle):ws=Jy zs' p :=
 JiY (fun _ _=>Jqt) (hw.trans (JdL zp p).symm) hs (JlE hz p)
def JrX (K:PySem.W.Frag):Sp:=fun vs H Q _=>∃ (t:Addr) (c:Int) (ps:List Str) (zs:List (V×(Str×Str))) (gs:List Str),vs=[.ref t,.int c]∧Ground K H t ps zs gs∧∀ (p:Str) (H':Hp),p∈ps→Jf H H'→Q (.str p) H'
theorem Jsv (r:Bool):inV (.str (hs r)) [.str "north",.str "south"]=true:=by cases r <;> decide +kernel
def JlA:V→Bool
 | .non=>true
 | .int _=>true
 | .str _=>true
 | _=>false
def Jqc:Sp:=fun vs H Q _=>∃ i:Int,vs=[.int i]∧Q (.bl true) H
def Jr1:Sp:=fun vs H Q _=>∃ i:Int,vs=[.int i]∧∀ b H',Jf H H'→Q (.str (hs b)) H'
def Jqn:Sp:=fun vs H Q _=>∃ x:V,vs=[x,x]∧JlA x=true∧Q (.bl true) H
def Jr3 (K:PySem.W.Frag):Sp:=fun vs H Q _=>∃ (p q:Addr) (xs:List V),vs=[.ref p,.ref q]∧H p=some (.tup xs)∧JX K H q xs∧xs.length≤1000∧xs.all JlA=true∧Q (.bl true) H
section
variable {K:PySem.W.Frag} {mg:Str→Option Value} (T:Txt K mg)
def JoQ (ps:List Str) (z:Str) (m n s:Int) (x:Str) (H:Hp) (E:XK):Prop :=
 (z∉ps→E (.ref T.JU) none H)∧(z∈ps→¬ (0≤m∧m≤30)→E (.ref T.JF) none H)∧(z∈ps→0≤m∧m≤30→¬ Ja3 n s→E (.ref T.JF) none H)∧(z∈ps→0≤m∧m≤30→Ja3 n s→YZ x=false→E (.ref T.J4) none H)
def JrT (ps:List Str) (z:Str) (m n s:Int) (x:Str):Prop:=z∈ps∧(0≤m∧m≤30)∧Ja3 n s∧YZ x=true
def JoZ:Sp:=fun vs H Q E=>∃ (b:Addr) (z x:Str) (m n s:Int) (ps:List Str) (zs:List (V×(Str×Str))) (gs:List Str),vs=[.ref b,.str z,.int m,.int n,.int s,.str x]∧YE z∧YE x∧Bd K T.JT H b ps zs gs∧JoQ T ps z m n s x H E∧(JrT ps z m n s x→Q .non H)
end
theorem YW.dict {d a:Addr} {H H':Hp} {kvs:List (JP×V)} {o:HO} (e:YW d H H') (hd:H d=some (.dK kvs)) (h:H a=some o) (ho:∀ k,o≠.dK k):H' a=some o :=
 e _ _ (fun z=>by subst z; rw [hd] at h; exact ho _ (Option.some.inj h).symm) h
theorem YW.sqD {K:PySem.W.Frag} {d a:Addr} {H H':Hp} {kvs:List (JP×V)} {xs:List V} (e:YW d H H') (hd:H d=some (.dK kvs)) (h:JX K H a xs):JX K H' a xs:=by
 rcases h with (h | ⟨o,h⟩) | h
 ·exact .inl (.inl (e.dict hd h (fun _ z=>nomatch z)))
 ·exact .inl (.inr ⟨o,e.dict hd h (fun _ z=>nomatch z)⟩)
 ·exact .inr h
theorem YW.bdD {K:PySem.W.Frag} {C d:Addr} {H H':Hp} {kvs:List (JP×V)} {b:Addr} {ps:List Str} {zs:List (V×(Str×Str))} {gs:List Str} (e:YW d H H') (hd:H d=some (.dK kvs)) (h:Bd K C H b ps zs gs):Bd K C H' b ps zs gs:=by
 obtain ⟨⟨dx,tp,tl,tg,h1,h2,h3,h4,h5⟩,G⟩:=h;exact ⟨⟨dx,tp,tl,tg,e.dict hd h1 (fun _ z=>nomatch z),e.dict hd h2 (fun _ z=>nomatch z),e.dict hd h3 (fun _ z=>nomatch z),fun z hz=>let ⟨a,q1,q2⟩:=h4 z hz; ⟨a,q1,e.sqD hd q2⟩,e.dict hd h5 (fun _ z=>nomatch z)⟩,G⟩
theorem YW.grD {K:PySem.W.Frag} {d:Addr} {H H':Hp} {kvs:List (JP×V)} {t:Addr} {ps:List Str} {zs:List (V×(Str×Str))} {gs:List Str} (e:YW d H H') (hd:H d=some (.dK kvs)) (h:Ground K H t ps zs gs):Ground K H' t ps zs gs :=
 ⟨h.good,let ⟨pn,pl,pg,h1,h2,h3,h4,h5⟩:=h.at_; ⟨pn,pl,pg,e.dict hd h1 (fun _ z=>nomatch z),e.dict hd h2 (fun _ z=>nomatch z),e.dict hd h3 (fun _ z=>nomatch z),fun z hz=>let ⟨a,q1,q2⟩:=h4 z hz; ⟨a,q1,e.sqD hd q2⟩,e.dict hd h5 (fun _ z=>nomatch z)⟩⟩
section
variable {K:PySem.W.Frag} {mg:Str→Option Value} (T:Txt K mg)
def Jtl (kvs:List (JP×V)) (z:Str) (n:Int) (H:Hp) (E:XK):Prop :=
 (YJ z=false→E (.ref T.JaS) none H)∧(YJ z=true→(Yd kvs (.inr z)).isSome=true→E (.ref T.Jcw) none H)∧(YJ z=true→Yd kvs (.inr z)=none→n≤(kvs.length:Int)→E (.ref T.Jer) none H)
def Jr4:Sp:=fun vs H Q E=>∃ (d:Addr) (z:Str) (n:Int) (kvs:List (JP×V)),vs=[.str z,.ref d,.int n]∧YE z∧(0≤n∧n≤20)∧H d=some (.dK kvs)∧(∀ H',Jf H H'→Jtl T kvs z n H' E) ∧
 (YJ z=true→Yd kvs (.inr z)=none→(kvs.length:Int) < n→∀ H',Jf H H'→Q .non H')
def Jr0:Sp:=fun vs H Q E=>∃ (d:Addr) (z:Str) (kvs:List (JP×V)),vs=[.str z,.ref d]∧YE z∧H d=some (.dK kvs)∧(Yd kvs (.inr z)=none→E (.ref T.ZD) none H)∧(∀ v,Yd kvs (.inr z)=some v→Q v H)
structure Jat (H:Hp) (h d1 d2:Addr) (bs gs:List (JP×V)):Prop where
 hi:∃ dh,H h=some (.ins T.Ye dh [("kept_boards",.ref d1),("kept_games",.ref d2)])
 h1:H d1=some (.dK bs)
 h2:H d2=some (.dK gs)
 ne:d1≠d2
def JlM:Sp:=fun vs H Q _=>∃ (h dx:Addr),vs=[.ref h]∧H h=some (.ins T.Ye dx [])∧∀ d1 d2 H',YW h H H'→H d1=none→H d2=none→Jat T H' h d1 d2 [] []→Q .non H'
def Jr5:Sp:=fun vs H Q E=>∃ (h d1 d2:Addr) (z:Str) (v:V) (bs gs:List (JP×V)),vs=[.ref h,.str z,v]∧YE z∧Jat T H h d1 d2 bs gs∧(∀ H',Jf H H'→Jtl T bs z 12 H' E) ∧
 (YJ z=true→Yd bs (.inr z)=none→bs.length < 12→∀ H',YW d1 H H'→Jat T H' h d1 d2 (bs ++ [(.inr z,v)]) gs→Q .non H')
def Jn1:Sp:=fun vs H Q E=>∃ (h d1 d2:Addr) (z:Str) (bs gs:List (JP×V)),vs=[.ref h,.str z]∧YE z∧Jat T H h d1 d2 bs gs∧(Yd bs (.inr z)=none→E (.ref T.ZD) none H)∧(∀ v,Yd bs (.inr z)=some v→Q v H)
def Jqm:Sp:=fun vs H Q E=>∃ (h d1 d2:Addr) (z p x:Str) (m n s:Int) (bs gm:List (JP×V)),vs=[.ref h,.str z,.str p,.int m,.int n,.int s,.str x]∧YE z∧YE p∧YE x∧Jat T H h d1 d2 bs gm∧(Yd bs (.inr z)=none→E (.ref T.ZD) none H) ∧
 (∀ v,Yd bs (.inr z)=some v→∃ (b:Addr) (ps:List Str) (zs:List (V×(Str×Str))) (gs:List Str),v=.ref b∧Bd K T.JT H b ps zs gs∧JoQ T ps p m n s x H E∧(p∈ps→0≤m∧m≤30→Ja3 n s→∀ r,x=hs r→∀ H',Jf H H'→Q (.str (hs (decide (JO (zs.map (·.2)) gs (n + s) m.toNat p r≤n)))) H'))
def JoV:Sp:=fun vs H Q E=>∃ (h d1 d2:Addr) (z p x:Str) (c m:Int) (bs gm:List (JP×V)),vs=[.ref h,.str z,.int c,.str p,.int m,.str x]∧YE z∧YE p∧YE x∧Jat T H h d1 d2 bs gm∧(Yd bs (.inr z)=none→E (.ref T.ZD) none H) ∧
 (∀ v,Yd bs (.inr z)=some v→∃ (b:Addr) (ps:List Str) (zs:List (V×(Str×Str))) (gs:List Str),v=.ref b∧Bd K T.JT H b ps zs gs∧(¬ (0≤c∧c≤20)→∀ H',Jf H H'→E (.ref T.JF) none H')∧(0≤c∧c≤20→∀ H',Jf H H'→Jgv T.JU T.JF T.J4 ps c 30 p m c x H' E) ∧
  (p∈ps→0≤m∧m≤30→0≤c∧c≤20→∀ r,x=hs r→∀ H',Jf H H'→Q (ZQ (zs.map (·.2)) gs c m.toNat p r) H'))
variable {T}
theorem Jat.same {H H':Hp} {h d1 d2:Addr} {bs gs:List (JP×V)} (A:Jat T H h d1 d2 bs gs) (e:Jf H H'):Jat T H' h d1 d2 bs gs:=⟨let ⟨dh,q⟩:=A.hi; ⟨dh,e _ _ q⟩,e _ _ A.h1,e _ _ A.h2,A.ne⟩
theorem Jpo {H:Hp} {h dx:Addr} {Q:VK} {E:XK} (nx:H h=none) (ndx:H dx=none) (q:∀ d1 d2 H',Jf H H'→H d1=none→H d2=none→Jat T H' h d1 d2 [] []→Q .non H'):JlM T (.ref h :: []) (upd (upd H dx (.own h)) h (.ins T.Ye dx [])) Q E:=by
 have e5:Jf H (upd (upd H dx (.own h)) h (.ins T.Ye dx [])):=fun b u e=>by
  rw [Jz (JA e nx),Jz (JA e ndx)]; exact e
 exact ⟨h,dx,rfl,Jh,fun d1 d2 H' bt n1 n2 A=>q d1 d2 H' (fun b u e=>bt b u (JA e nx) (e5 b u e)) (e5.free n1) (e5.free n2) A⟩
theorem Jon {C CB x0 x dx:Addr} {H:Hp} {Q:VK} {E:XK} {b:Addr} {ps:List Str} {zs:List (V×(Str×Str))} {gs:List Str} {c t:Int} (B:Bd K C H b ps zs gs)
  (nx:H x=none) (ndx:H dx=none) (hE:¬ ((0≤c∧c≤20)∧0≤t∧t≤30)→∀ H',Jf H H'→E (.ref x0) none H') (q:0≤c∧c≤20→0≤t∧t≤30→∀ H',Jf H H'→Bk K C CB H' x b ps zs gs c t.toNat (t.toNat + 1)→Q .non H') :
  Jil K C CB x0 (.ref x :: ([.ref b,.int c,.int t] ++ [])) (upd (upd H dx (.own x)) x (.ins CB dx [])) Q E:=by
 have e5:Jf H (upd (upd H dx (.own x)) x (.ins CB dx [])):=fun b u e=>by
  rw [Jz (JA e nx),Jz (JA e ndx)]; exact e
 obtain ⟨bdx,_,_,_,hb,_⟩:=id B.B;exact ⟨x,b,dx,c,t,ps,zs,gs,rfl,Jh,(fun e=>by rw [← e,nx] at hb; cases hb),B.same e5,fun h=>hE (fun z=>h z.1) _ e5,fun _ h=>hE (fun z=>h z.2) _ e5,fun h1 h2 H' bt Bk'=>q h1 h2 H' (fun b u e=>bt b u (JA e nx) (e5 b u e)) Bk'⟩
end
section
variable {P:Program} {w:World} {K:PySem.W.Frag} {mg:Str→Option Value} {base:Heap}
theorem Jl9 (T:Txt K mg):JL P w K mg base YK 1 T.Jko T.Jix ["_law_found"] Jqc:=by
 refine T.JhP.F.ok JqC (fun vs H Q E h=>?_) (fun cdv A outer s H vs Q E hr h=>?_)
 ·obtain ⟨i,rfl,_⟩:=h;rfl
 ·obtain ⟨i,rfl,q⟩:=h;refine ⟨_,(@Ji _ _ _ (@Jw _ _ _ _ (@Ji6 _ _ _ _ _ _ _ (@JH _ _ _ _ _ _ _ _ _ (@Jau _) rfl T.J8 PyProof.Rows.boot_isinstance (@Ja _ _ _ _ _ (@pv _ 0 _ _ rfl (.inl rfl) rfl rfl) (@Ja _ _ _ _ _ (@Jee _ _ _ _ rfl T.JeV PyProof.Rows.boot_int (by decide) (by decide)) (@Jc _) rfl) rfl) (by decide) (by decide) rfl rfl) (@JgK _ _ _ _ _ (@Jtc _ _ _ _ (@JH _ _ _ _ _ _ _ _ _ (@Jau _) rfl T.J8 PyProof.Rows.boot_isinstance (@Ja _ _ _ _ _ (@pv _ 0 _ _ rfl (.inl rfl) rfl rfl) (@Ja _ _ _ _ _ (@Jee _ _ _ _ rfl T.Jpn PyProof.Rows.boot_bool (by decide) (by decide)) (@Jc _) rfl) rfl) (by decide) (by decide) rfl rfl)))))),?_⟩;refine ⟨_,rfl,_,_,_,_,rfl,⟨_,.inl rfl⟩,.int i,Jtp,_,rfl,Y0 ?_⟩;exact ⟨_,rfl,_,_,_,_,rfl,⟨_,.inl rfl⟩,.int i,Jtq,_,rfl,q⟩
theorem Jbt (T:Txt K mg):JL P w K mg base YK 2 T.Jkv T.JiE ["_law_found", "_law_due"] Jqn:=by
 refine T.Ja4.F.ok JqD (fun vs H Q E h=>?_) (fun cdv A outer s H vs Q E hr h=>?_)
 ·obtain ⟨_,rfl,_⟩:=h;rfl
 ·obtain ⟨x,rfl,hx,q⟩:=h;refine ⟨_,(@Je _ _ _ _ _ (@JN _ _ _ _ _ _ _ _ (@JfB _ _ _ _ _ _ (@JgL _ _ _ _ _ (@pv _ 1 _ _ rfl (.inl rfl) rfl rfl)) (by first | exact Z8 _ (by decide) (by decide) | rfl)) (@Ji _ _ _ (@Jw _ _ _ _ (@Jpd _ _ _ _ _ _ (@JgL _ _ _ _ _ (@pv _ 0 _ _ rfl (.inl rfl) rfl rfl)) (by first | exact Z8 _ (by decide) (by decide) | rfl)))) (@JD _)) (@Je _ _ _ _ _ (@JN _ _ _ _ _ _ _ _ (@Z5 _ _ _ (@JH _ _ _ _ _ _ _ _ _ (@Jau _) rfl T.J8 PyProof.Rows.boot_isinstance (@Ja _ _ _ _ _ (@pv _ 1 _ _ rfl (.inl rfl) rfl rfl) (@Ja _ _ _ _ _ (@Jee _ _ _ _ rfl T.Jlv PyProof.Rows.boot_str (by decide) (by decide)) (@Jc _) rfl) rfl) (by decide) (by decide) rfl rfl) (by intro _; rfl)) (@Ji _ _ _ (@Jw _ _ _ _ (@Ji6 _ _ _ _ _ _ _ (@JH _ _ _ _ _ _ _ _ _ (@Jau _) rfl T.J8 PyProof.Rows.boot_isinstance (@Ja _ _ _ _ _ (@pv _ 0 _ _ rfl (.inl rfl) rfl rfl) (@Ja _ _ _ _ _ (@Jee _ _ _ _ rfl T.Jlv PyProof.Rows.boot_str (by decide) (by decide)) (@Jc _) rfl) rfl) (by decide) (by decide) rfl rfl) (@JgK _ _ _ _ _ (@ZF _ _ _ _ _ _ _ _ (@Yl _) (@pv _ 0 _ _ rfl (.inl rfl) rfl rfl) (@pv _ 1 _ _ rfl (.inl rfl) rfl rfl) (Ju _)))))) (@JD _)) (@Ji _ _ _ (@Jw _ _ _ _ (@Ji6 _ _ _ _ _ _ _ (@Jl _ _ _ _ _ _ _ _ _ _ _ _ _ _ _ T.JhP (Jl9 T) (hr.mono (by decide)) JG (@Ja _ _ _ _ _ (@pv _ 0 _ _ rfl (.inl rfl) rfl rfl) (@Jc _) rfl) rfl (by decide) rfl rfl) (@JgK _ _ _ _ _ (@ZF _ _ _ _ _ _ _ _ (@Yl _) (@pv _ 0 _ _ rfl (.inl rfl) rfl rfl) (@pv _ 1 _ _ rfl (.inl rfl) rfl rfl) (Ju _)))))))),?_⟩;refine ⟨_,rfl,_,rfl,?_⟩;cases x with
  | non =>
   refine Zc (by rfl) ⟨_,rfl,?_⟩;exact q
  | int i =>
   refine Yq (by rfl) ⟨_,rfl,_,_,_,_,rfl,⟨_,.inl rfl⟩,.int i,Jto,_,rfl,Y5 ?_⟩;refine ⟨_,rfl,i,rfl,_,rfl,Y0 ⟨_,rfl,_,rfl,rfl,?_⟩⟩;rw [decide_eq_true rfl];exact q
  | str z =>
   refine Yq (by rfl) ⟨_,rfl,_,_,_,_,rfl,⟨_,.inl rfl⟩,.str z,Jmr,_,rfl,Y0 ?_⟩;refine ⟨_,rfl,_,_,_,_,rfl,⟨_,.inl rfl⟩,.str z,Jmr,_,rfl,Y0 ⟨_,rfl,_,rfl,rfl,?_⟩⟩;rw [decide_eq_true rfl];exact q
  | _=>exact absurd hx Bool.false_ne_true
theorem Jnx (T:Txt K mg):JL P w K mg base YK 1 T.JmG T.Jkl ["_law_cell"] Jr1:=by
 refine T.JjL.F.ok Jsa (fun vs H Q E h=>?_) (fun cdv A outer s H vs Q E hr h=>?_)
 ·obtain ⟨i,rfl,_⟩:=h;rfl
 ·obtain ⟨i,rfl,q⟩:=h;refine ⟨_,(@Ji _ _ _ (@Jw _ _ _ _ (@Jr _ _ _ _ _ _ _ (@JE _) (@J7 _ _ _ _ (@Ja _ _ _ _ _ (@Js _ _ _ _) (@Ja _ _ _ _ _ (@Js _ _ _ _) (@Jc _) rfl) rfl)) (@Jk _ _ _ _ _ _ _ _ (@JZ _) (@pv _ 0 _ _ rfl (.inl rfl) rfl rfl) (@Jd _ _ _ _)) (fun _ _=>rfl)))),?_⟩;refine ⟨by decide,fun p hp=>⟨_,rfl,_,_,rfl,rfl,(by show (0:Int) < 2; decide),p,_,_,.str (hs (decide (i % 2=0))),rfl,rfl,Jp.of Jh,?_,q _ _ (Jf.upd hp)⟩⟩;have h:i % 2=0∨i % 2=1:=by omega
  rcases h with h | h <;> rw [h] <;> rfl
theorem Jsj (T:Txt K mg):JL P w K mg base YK 3 T.JmH T.Jkm ["_law_found", "_law_due"] (Jr3 K):=by
 refine T.JmX.F.ok Jnp (fun vs H Q E h=>?_) (fun cdv A outer s H vs Q E hr h=>?_)
 ·obtain ⟨_,_,_,rfl,_⟩:=h;rfl
 ·obtain ⟨p,t,xs,rfl,hp,ht,hl,hx,q⟩:=h;have hl2:xs.length≤sizeLine:=Nat.le_trans hl (by decide);refine ⟨_,(@Je _ _ _ _ _ (@JN _ _ _ _ _ _ _ _ (@JfB _ _ _ _ _ _ (@JgL _ _ _ _ _ (@pv _ 1 _ _ rfl (.inl rfl) rfl rfl)) (by first | exact Z8 _ (by decide) (by decide) | rfl)) (@Ji _ _ _ (@Jw _ _ _ _ (@Jpd _ _ _ _ _ _ (@JgL _ _ _ _ _ (@pv _ 0 _ _ rfl (.inl rfl) rfl rfl)) (by first | exact Z8 _ (by decide) (by decide) | rfl)))) (@JD _)) (@Je _ _ _ _ _ (@JN _ _ _ _ _ _ _ _ (@PW.pt _ _ _ (@Jah _ _ _ _ _ _ _ (@Jbf _ _ _ _ (@Z5 _ _ _ (@JH _ _ _ _ _ _ _ _ _ (@Jau _) rfl T.J8 PyProof.Rows.boot_isinstance (@Ja _ _ _ _ _ (@pv _ 0 _ _ rfl (.inl rfl) rfl rfl) (@Ja _ _ _ _ _ (@Jee _ _ _ _ rfl T.JdU PyProof.Rows.boot_tuple (by decide) (by decide)) (@Jc _) rfl) rfl) (by decide) (by decide) rfl rfl) (by intro _; rfl))) (@Jap _ _ _ _ (@Jq _ _ _ _ _ _ _ _ (@JdN _) (@JH _ _ _ _ _ _ _ _ _ (@Yr _) rfl T.Zz PySem.boot_len (@Ja _ _ _ _ _ (@pv _ 0 _ _ rfl (.inl rfl) rfl rfl) (@Jc _) rfl) (by decide) (by decide) rfl rfl) (@JH _ _ _ _ _ _ _ _ _ (@Yr _) rfl T.Zz PySem.boot_len (@Ja _ _ _ _ _ (@pv _ 1 _ _ rfl (.inl rfl) rfl rfl) (@Jc _) rfl) (by decide) (by decide) rfl rfl) (Ju _))))) (@Ji _ _ _ (@Jw _ _ _ _ (@JbW _ _ _ _))) (@JD _)) (@Je _ _ _ _ _ (@YH _ _ _ _ _ _ _ _ PassesOwn.never rfl (@Yx _ _ _ _ _ _ rfl T.YM (@Ja _ _ _ _ _ (@JH _ _ _ _ _ _ _ _ _ (@Yr _) rfl T.Zz PySem.boot_len (@Ja _ _ _ _ _ (@pv _ 1 _ _ rfl (.inl rfl) rfl rfl) (@Jc _) rfl) (by decide) (by decide) rfl rfl) (@Jc _) rfl) rfl) (@JS _ _ 2 _ Jnp.nd rfl (Or.inl rfl) (.inl rfl)) (@Ji _ _ _ (@JN _ _ _ _ _ _ _ _ (@Jbf _ _ _ _ (@Z5 _ _ _ (@Jl _ _ _ _ _ _ _ _ _ _ _ _ _ _ _ T.Ja4 (Jbt T) (hr.mono (by decide)) JG (@Ja _ _ _ _ _ (@Jr _ _ _ _ _ _ _ (@Yg _) (@pv _ 0 _ _ rfl (.inl rfl) rfl rfl) (@pv _ 2 _ _ rfl (.inl rfl) rfl rfl) (fun _ _=>rfl)) (@Ja _ _ _ _ _ (@Jr _ _ _ _ _ _ _ (@Yg _) (@pv _ 1 _ _ rfl (.inl rfl) rfl rfl) (@pv _ 2 _ _ rfl (.inl rfl) rfl rfl) (fun _ _=>rfl)) (@Jc _) rfl) rfl) rfl (by decide) rfl rfl) (by intro _; rfl))) (@Ji _ _ _ (@Jw _ _ _ _ (@JbW _ _ _ _))) (@JD _))) (by intro _; rfl)) (@Ji _ _ _ (@Jw _ _ _ _ (@JbW _ _ _ _)))))),?_⟩;refine ⟨_,rfl,_,rfl,Y5 ⟨_,rfl,_,_,_,_,rfl,⟨_,.inl rfl⟩,.tup hp,Jtn,_,rfl,Y5 ?_⟩⟩;refine ⟨_,rfl,p,xs,rfl,.inr (JX.of hp),_,rfl,t,xs,rfl,.inr ht,rfl,_,rfl,?_⟩;refine Yq (by rw [decide_eq_true rfl]; rfl) ?_;refine ⟨_,rfl,t,xs,rfl,.inr ht,(xs.length:Int),rfl,by omega,by omega,YU (n:=xs.length) (fun i σ H2=>H2=H∧∃ v,σ=[some (.ref p),some (.ref t),v]) ⟨rfl,none,rfl⟩ ?_ ?_⟩
  ·rintro i σ H2 hi ⟨rfl,v,rfl⟩;obtain ⟨y,hy⟩:∃ y,xs[i]?=some y:=⟨xs[i],List.getElem?_eq_getElem hi⟩
   have e0:(0:Int) + (i:Int)=(i:Int):=by omega
   have hf:JlA y=true:=List.all_eq_true.mp hx y (List.mem_of_getElem? hy);refine ⟨_,rfl,_,rfl,p,xs,_,y,rfl,rfl,JX.of hp,by rw [e0]; exact YD hy,_,rfl,_,rfl,t,xs,_,y,rfl,rfl,ht,by rw [e0]; exact YD hy,y,rfl,hf,_,rfl,Y5 ?_⟩;exact ⟨rfl,_,rfl⟩
  ·rintro σ H2 ⟨rfl,v,rfl⟩;exact q
theorem Jnw (T:Txt K mg):JL P w K mg base YK 1 T.JmE T.Jkj ["_law_ground", "_law_place"] (Jqk K):=by
 refine T.JjI.F.ok Jr9 (fun vs H Q E h=>?_) (fun cdv A outer s H vs Q E hr h=>?_)
 ·obtain ⟨_,_,_,_,_,rfl,_⟩:=h;rfl
 ·obtain ⟨t,z,ps,zs,gs,rfl,G,q⟩:=h;have szl:sizeLine=16777216:=sizeLine_eq;refine ⟨_,(@Ji _ _ _ (@Jw _ _ _ _ (@JH _ _ _ _ _ _ _ _ _ (@Jf6 _) rfl T.Jei PyProof.Rows.boot_sorted (@Ja _ _ _ _ _ (@JeU _ _ _ _ _ _ _ 2 ["_law_start", "_law_end", "_law_place"] [1] _ _ _ _ ["_law_ground", "_law_place"] ((Jm Ji1).names) (by decide +kernel) (@Zn _ _ _ _ (@Jr _ _ _ _ _ _ _ (@Yg _) (@pv _ 0 _ _ rfl (.inl rfl) rfl rfl) (@Jd _ _ _ _) (fun _ _=>rfl))) (fun _ _ _ _=>(show PG _ _ (Jor K 2 _) from JfC rfl (@Yy _ _ _ _ _ (@Zr _ _ _ _ _ _ _ _ _ 0 (by decide +kernel) rfl rfl) (@Yy _ _ _ _ _ (@Zr _ _ _ _ _ _ _ _ _ 1 (by decide +kernel) rfl rfl) (@JdT _) rfl) rfl))) (fun _ _ _ _=>(@Jcs _ _ _ (@Jq _ _ _ _ _ _ _ _ (@Yl _) (@YT _ _ _ _ _ _ _ _ _ 0 rfl rfl (by decide) (by decide)) (@Yn _ _ _ _ _ _ _ _ _ 2 rfl rfl (by decide) (by decide)) (Ju _)))) (fun _ _ _ _=>(@YT _ _ _ _ _ _ _ _ _ 1 rfl rfl (by decide) (by decide))) rfl rfl rfl (by intro _; rfl)) (@Jc _) rfl) (by decide) (by decide) rfl rfl))),?_⟩;obtain ⟨pn,pl,pg,h1,h2,h3,h4,h5⟩:=G.at_;have hzl:zs.length≤40:=by have:=G.good.l1; rwa [List.length_map] at this
  have wl:∀ i,(Jy ((zs.map (·.2)).take i) z).length≤40:=fun i=>by
   unfold Jy;rw [List.length_map];refine Nat.le_trans (List.length_filter_le _ _) ?_;rw [List.length_take,List.length_map];omega
  refine ⟨_,rfl,t,_,_,.ref pl,rfl,rfl,JX.of h1,rfl,pl,rfl,⟨_,Jp.of h3⟩,fun D hD=>?_⟩;refine Jjy (xs:=zs.map (·.1)) (fun i ys H2=>Jf H H2∧H2 D=some (.lst ys)∧ys=(Jy ((zs.map (·.2)).take i) z).map V.str) rfl rfl (fun i ys H2 p=>Jp.of (p.1 _ _ h3)) ⟨Jf.upd hD,Jh,by simp [Jy]⟩ (fun i ys H2 p=>p.2.1) ?_ ?_
  ·rintro i x ys H2 hx ⟨e2,hy,rfl⟩;rw [List.getElem?_map] at hx;obtain ⟨y,hy1,rfl⟩:=Option.map_eq_some_iff.mp hx;obtain ⟨a,ea,ha⟩:=h4 y (List.mem_of_getElem? hy1);have step:(zs.map (·.2)).take (i + 1)=(zs.map (·.2)).take i ++ [y.2]:=by
    rw [List.take_succ,List.getElem?_map,hy1]; rfl
   have wstep:Jy ((zs.map (·.2)).take (i + 1)) z=Jy ((zs.map (·.2)).take i) z ++ (if y.2.1=z then [y.2.2] else []):=by
    unfold Jy;rw [step,List.filter_append,List.map_append];by_cases h:y.2.1=z
    ·simp [h]
    ·simp [h]
   have wli:=wl i;refine ⟨a,.str y.2.1,.str y.2.2,ea,e2.tup ha,_,rfl,_,rfl,rfl,_,rfl,?_⟩;by_cases h:y.2.1=z
   ·refine Zc (by rw [h]; exact decide_eq_true rfl) ⟨_,rfl,hy,by rw [List.length_map]; omega,fun b' u e=>?_,Jh,?_⟩
    ·rw [Jz (JA e hD)]; exact e2 b' u e
    ·rw [wstep,if_pos h,List.map_append]; rfl
   ·refine Yq (decide_eq_false (fun e=>h (V.str.inj e))) ⟨e2,hy,?_⟩;rw [wstep,if_neg h,List.append_nil]
  ·rintro ys H2 ⟨e2,hy,rfl⟩;rw [List.length_map] at hy;rw [show zs.length=(zs.map (·.2)).length by simp] at hy;have wll:=wl (zs.map (·.2)).length;rw [List.take_length] at hy wll;exact ⟨D,_,rfl,Jp.of hy,by omega,fun p ws np hp hs=>q p ws _ (e2.trans (Jf.upd np)) Jh hp hs⟩
theorem Jph (T:Txt K mg):JL P w K mg base YK 2 T.Jou T.Jmx ["_law_ground", "_law_place", "_law_left"] (JsQ K):=by
 refine T.JlC.F.ok JsY (fun vs H Q E h=>?_) (fun cdv A outer s H vs Q E hr h=>?_)
 ·obtain ⟨_,_,_,_,_,_,rfl,_⟩:=h;rfl
 ·obtain ⟨t,z,n,ps,zs,gs,rfl,G,q⟩:=h;refine ⟨_,(@Je _ _ _ _ _ (@JN _ _ _ _ _ _ _ _ (@Jq _ _ _ _ _ _ _ _ (@JgO _) (@pv _ 1 _ _ rfl (.inl rfl) rfl rfl) (@Jr _ _ _ _ _ _ _ (@Yg _) (@pv _ 0 _ _ rfl (.inl rfl) rfl rfl) (@Jd _ _ _ _) (fun _ _=>rfl)) (by with_unfolding_all rfl)) (@Ji _ _ _ (@Jw _ _ _ _ (@Js _ _ _ _))) (@JD _)) (@Je _ _ _ _ _ (@JN _ _ _ _ _ _ _ _ (@PW.pt _ _ _ (@Jah _ _ _ _ _ _ _ (@Jq _ _ _ _ _ _ _ _ (@Yl _) (@pv _ 2 _ _ rfl (.inl rfl) rfl rfl) (@Jd _ _ _ _) (Ju _)) (@Jap _ _ _ _ (@Jq _ _ _ _ _ _ _ _ (@Jef _ hr.units0) (@Jl _ _ _ _ _ _ _ _ _ _ _ _ _ _ _ T.JjI (Jnw T) (hr.mono (by decide)) JG (@Ja _ _ _ _ _ (@pv _ 0 _ _ rfl (.inl rfl) rfl rfl) (@Ja _ _ _ _ _ (@pv _ 1 _ _ rfl (.inl rfl) rfl rfl) (@Jc _) rfl) rfl) rfl (by decide) rfl rfl) (@J7 _ _ _ _ (@Jc _)) (Ju _))))) (@Ji _ _ _ (@Jw _ _ _ _ (@Js _ _ _ _))) (@JD _)) (@Ji _ _ _ (@Jw _ _ _ _ (@Js _ _ _ _))))),?_⟩;obtain ⟨pn,pl,pg,h1,h2,h3,h4,h5⟩:=G.at_;refine ⟨_,rfl,_,rfl,t,_,_,.ref pg,rfl,rfl,JX.of h1,rfl,pg,_,rfl,.inl (Jp.of h5),rfl,Jc7 gs,_,rfl,?_⟩;rw [if_neg Bool.false_ne_true,Jet];by_cases hg:z∈gs
  ·refine Zc (decide_eq_true hg) ?_;have e:ZH z n (zs.map (·.2)) gs = "north":=by unfold ZH; rw [if_pos hg]
   rw [e] at q;exact q H (Jf.refl _)
  ·refine Yq (decide_eq_false hg) ⟨_,rfl,rfl,_,rfl,?_⟩;by_cases h0:n=0
   ·have e:ZH z n (zs.map (·.2)) gs = "south":=by unfold ZH; rw [if_neg hg,if_pos (.inl h0)]
    rw [e] at q;exact Zc (by rw [h0]; exact decide_eq_true rfl) (Y0 (q H (Jf.refl _)))
   ·refine Yq (decide_eq_false fun e=>h0 (V.int.inj e)) ⟨_,rfl,_,rfl,t,z,ps,zs,gs,rfl,G,fun p ws H' e' hp wp _=>⟨by show 0≤sizeLine; decide,fun l nl=>⟨p,l,_,rfl,rfl,(Jf.upd nl).seq (Jp.of hp),Jp.of Jh,_,rfl,?_⟩⟩⟩;by_cases hw:Jy (zs.map (·.2)) z=[]
    ·have e:ZH z n (zs.map (·.2)) gs = "south":=by unfold ZH; rw [if_neg hg,if_pos (.inr hw)]
     rw [e] at q;rw [hw] at wp;exact Zc (by rw [wp.eq_nil]; rfl) (q _ (e'.trans (Jf.upd nl)))
    ·have e:ZH z n (zs.map (·.2)) gs = "":=by unfold ZH; rw [if_neg hg,if_neg (fun h=>h.elim h0 hw)]
     rw [e] at q;refine Yq ?_ (q _ (e'.trans (Jf.upd nl)));cases ws with
     | nil=>exact absurd (wp.symm.eq_nil) hw
     | cons _ _=>rfl
theorem Jsi (T:Txt K mg):JL P w K mg base YK 3 T.JmF T.Jkk ["_law_ground", "_law_cell"] (JrX K):=by
 refine T.JmW.F.ok JhA (fun vs H Q E h=>?_) (fun cdv A outer s H vs Q E hr h=>?_)
 ·obtain ⟨_,_,_,_,_,rfl,_⟩:=h;rfl
 ·obtain ⟨t,c,ps,zs,gs,rfl,G,q⟩:=h;refine ⟨_,(@Je _ _ _ _ _ (@Jx _ _ 2 _ _ _ _ JhA.nd rfl (Or.inl rfl) (@Jr _ _ _ _ _ _ _ (@Yg _) (@pv _ 0 _ _ rfl (.inl rfl) rfl rfl) (@Jd _ _ _ _) (fun _ _=>rfl)) rfl (.inl rfl)) (@Je _ _ _ _ _ (@YH _ _ _ _ _ _ _ _ PassesOwn.never rfl (@Yx _ _ _ _ _ _ rfl T.YM (@Ja _ _ _ _ _ (@JH _ _ _ _ _ _ _ _ _ (@Yr _) rfl T.Zz PySem.boot_len (@Ja _ _ _ _ _ (@pv _ 2 _ _ rfl (.inl rfl) rfl rfl) (@Jc _) rfl) (by decide) (by decide) rfl rfl) (@Jc _) rfl) rfl) (@JS _ _ 3 _ JhA.nd rfl (Or.inl rfl) (.inl rfl)) (@Je _ _ _ _ _ (@Jx _ _ 4 _ _ _ _ JhA.nd rfl (Or.inl rfl) (@Jr _ _ _ _ _ _ _ (@JE _) (@pv _ 2 _ _ rfl (.inl rfl) rfl rfl) (@Jk _ _ _ _ _ _ _ _ (@JZ _) (@Jk _ _ _ _ _ _ _ _ (@JM _) (@pv _ 1 _ _ rfl (.inl rfl) rfl rfl) (@pv _ 3 _ _ rfl (.inl rfl) rfl rfl)) (@JH _ _ _ _ _ _ _ _ _ (@Yr _) rfl T.Zz PySem.boot_len (@Ja _ _ _ _ _ (@pv _ 2 _ _ rfl (.inl rfl) rfl rfl) (@Jc _) rfl) (by decide) (by decide) rfl rfl)) (fun _ _=>rfl)) rfl (.inl rfl)) (@Ji _ _ _ (@JN _ _ _ _ _ _ _ _ (@Jq _ _ _ _ _ _ _ _ (@Yl _) (@Jl _ _ _ _ _ _ _ _ _ _ _ _ _ _ _ T.JlC (Jph T) (hr.mono (by decide)) JG (@Ja _ _ _ _ _ (@pv _ 0 _ _ rfl (.inl rfl) rfl rfl) (@Ja _ _ _ _ _ (@pv _ 4 _ _ rfl (.inl rfl) rfl rfl) (@Ja _ _ _ _ _ (@Jd _ _ _ _) (@Jc _) rfl) rfl) rfl) rfl (by decide) rfl rfl) (@Js _ _ _ _) (Ju _)) (@Ji _ _ _ (@Jw _ _ _ _ (@pv _ 4 _ _ rfl (.inl rfl) rfl rfl))) (@JD _)))) (by intro _; rfl)) (@Ji _ _ _ (@Jw _ _ _ _ (@Jr _ _ _ _ _ _ _ (@JE _) (@pv _ 2 _ _ rfl (.inl rfl) rfl rfl) (@Jk _ _ _ _ _ _ _ _ (@JZ _) (@pv _ 1 _ _ rfl (.inl rfl) rfl rfl) (@JH _ _ _ _ _ _ _ _ _ (@Yr _) rfl T.Zz PySem.boot_len (@Ja _ _ _ _ _ (@pv _ 2 _ _ rfl (.inl rfl) rfl rfl) (@Jc _) rfl) (by decide) (by decide) rfl rfl)) (fun _ _=>rfl)))))),?_⟩;obtain ⟨pn,pl,pg,h1,h2,h3,h4,h5⟩:=G.at_;have p1:=G.good.p1;have p2:=G.good.p2;refine ⟨_,rfl,t,_,_,.ref pn,rfl,rfl,JX.of h1,rfl,?_⟩;refine ⟨_,rfl,pn,_,rfl,.inl (Jp.of h2),((ps.map V.str).length:Int),rfl,by rw [List.length_map]; omega,by rw [List.length_map]; omega,?_⟩;rw [Int.toNat_natCast];refine YU (n:=(ps.map V.str).length) (fun i σ H2=>Jf H H2∧∃ v3 v4,σ=[some (.ref t),some (.int c),some (.ref pn),v3,v4]) ⟨Jf.refl _,none,none,rfl⟩ ?_ ?_
  ·rintro i σ H2 hi ⟨e2,v3,v4,rfl⟩;obtain ⟨p,hp,hpm⟩:=JmR p1 (c + (0 + (i:Int)));refine ⟨_,rfl,_,rfl,_,rfl,_,_,rfl,rfl,_,rfl,pn,_,rfl,.inl (Jp.of (e2 _ _ h2)),_,_,rfl,rfl,(by rw [List.length_map]; omega),pn,_,_,.str p,rfl,rfl,Jp.of (e2 _ _ h2),hp,?_⟩;refine ⟨_,rfl,_,rfl,t,p,1,ps,zs,gs,rfl,G.same e2,fun H3 e3=>⟨rfl,_,rfl,Yp (fun _=>?_) (fun _=>?_)⟩⟩
   ·exact ⟨_,rfl,q p H3 hpm (e2.trans e3)⟩
   ·exact ⟨e2.trans e3,_,_,rfl⟩
  ·rintro σ H2 ⟨e2,v3,v4,rfl⟩;obtain ⟨p,hp,hpm⟩:=JmR p1 c;exact ⟨_,rfl,_,rfl,_,rfl,pn,_,rfl,.inl (Jp.of (e2 _ _ h2)),_,_,rfl,rfl,(by rw [List.length_map]; omega),pn,_,_,.str p,rfl,rfl,Jp.of (e2 _ _ h2),hp,q p H2 hpm e2⟩
def Jm4:Sp:=fun vs H Q _=>∃ c:Int,vs=[.int c]∧∀ z H',YE z→Jf H H'→Q (.str z) H'
theorem Jm7 (T:Txt K mg):JL P w K mg base YK 2 T.Jf5 T.Jfg ["_law_cell"] Jm4:=by
 refine T.Jf7.F.ok Jm5 (fun vs H Q E h=>?_) (fun cdv A outer s H vs Q E hr h=>?_)
 ·obtain ⟨_,rfl,_⟩:=h;rfl
 ·obtain ⟨c,rfl,q⟩:=h;refine ⟨_,(@Je _ _ _ _ _ (@JN _ _ _ _ _ _ _ _ (@Jq _ _ _ _ _ _ _ _ (@Yl _) (@Jk _ _ _ _ _ _ _ _ (@JZ _) (@pv _ 0 _ _ rfl (.inl rfl) rfl rfl) (@Jd _ _ _ _)) (@Jd _ _ _ _) (Ju _)) (@Ji _ _ _ (@Jw _ _ _ _ (@Jr _ _ _ _ _ _ _ (@JE _) (@J7 _ _ _ _ (@Ja _ _ _ _ _ (@Js _ _ _ _) (@Ja _ _ _ _ _ (@Js _ _ _ _) (@Ja _ _ _ _ _ (@Js _ _ _ _) (@Ja _ _ _ _ _ (@Js _ _ _ _) (@Ja _ _ _ _ _ (@Js _ _ _ _) (@Ja _ _ _ _ _ (@Js _ _ _ _) (@Jc _) rfl) rfl) rfl) rfl) rfl) rfl)) (@Jk _ _ _ _ _ _ _ _ (@JZ _) (@Jk _ _ _ _ _ _ _ _ (@YL _) (@pv _ 0 _ _ rfl (.inl rfl) rfl rfl) (@Jd _ _ _ _)) (@Jd _ _ _ _)) (fun _ _=>rfl)))) (@JD _)) (@Ji _ _ _ (@Jw _ _ _ _ (@Jl _ _ _ _ _ _ _ _ _ _ _ _ _ _ _ T.JjL (Jnx T) (hr.mono (by decide)) JG (@Ja _ _ _ _ _ (@Jk _ _ _ _ _ _ _ _ (@YL _) (@pv _ 0 _ _ rfl (.inl rfl) rfl rfl) (@Jd _ _ _ _)) (@Jc _) rfl) rfl (by decide) rfl rfl)))),?_⟩;refine ⟨_,rfl,_,_,rfl,rfl,(by show (0:Int) < 5; decide),rfl,_,rfl,Yp (fun _=>?_) (fun _=>?_)⟩
  ·refine ⟨by show 6≤sizeLine; decide,fun l hl=>?_⟩;obtain ⟨z,hz,ht⟩:∃ z:Str,atI [V.str "",V.str "North",V.str "north ",V.str "souh",V.str "east",V.str "northsouth"] (c / 5 % 6)=some (.str z)∧YE z:=by
    have h:c / 5 % 6=0∨c / 5 % 6=1∨c / 5 % 6=2∨c / 5 % 6=3∨c / 5 % 6=4∨c / 5 % 6=5:=by omega
    rcases h with h | h | h | h | h | h <;> rw [h] <;> exact ⟨_,rfl,Jhx (by decide +kernel)⟩
   exact ⟨_,rfl,_,_,rfl,rfl,⟨by decide,by decide⟩,_,_,rfl,rfl,(by show (0:Int) < 6; decide),l,_,_,.str z,rfl,rfl,Jp.of Jh,hz,q z _ ht (Jf.upd hl)⟩
  ·exact ⟨_,rfl,_,_,rfl,rfl,⟨by decide,by decide⟩,_,rfl,fun b H' e=>q _ H' (JjR b) e⟩
def JiT:List Str:=["BadName", "BadHand", "OutOfRange", "Twice", "NoPlace", "BadBid", "NoLane", "NotDue", "NothingDone", "Taken", "Full", "Missing"]
def Jji (j:Nat):List V:=(List.range 12).map (fun k=>V.bl (k == j)) ++ [.bl true]
def Jqd:Sp:=fun vs H Q _=>∃ (l:Addr) (j:Nat) (x:Str),vs=[.ref l]∧H l=some (.lst (Jji j))∧JiT[j]?=some x∧∀ p H',Jf H H'→H' p=some (.tup (rf x))→Q (.ref p) H'
theorem Jq0 (j i:Nat) (h:i < 12):atI (Jji j) ((0:Int) + (i:Int))=some (.bl (i == j)):=by
 rw [Int.zero_add];refine YD ?_;unfold Jji;rw [List.getElem?_append_left (by simp; exact h),List.getElem?_map,List.getElem?_range h];rfl
theorem Jp6 (i:Nat) (h:i < 12):∃ x,JiT[i]?=some x∧atI (JiT.map V.str) ((0:Int) + (i:Int))=some (.str x):=by
 refine ⟨JiT[i]'h,List.getElem?_eq_getElem h,?_⟩;rw [Int.zero_add];refine YD ?_;rw [List.getElem?_map,List.getElem?_eq_getElem h];rfl
theorem JqP (T:Txt K mg):JL P w K mg base YK 1 T.Jkp T.Jiy ["_law_marks"] Jqd:=by
 refine T.JkD.F.ok JfT (fun vs H Q E h=>?_) (fun cdv A outer s H vs Q E hr h=>?_)
 ·obtain ⟨_,_,_,rfl,_⟩:=h;rfl
 ·obtain ⟨l,j,x,rfl,hl,hx,q⟩:=h;refine ⟨_,(@Je _ _ _ _ _ (@Yj _ _ _ (@Jx _ _ 1 _ _ _ _ JfT.nd rfl (Or.inr rfl) (@J7 _ _ _ _ (@Ja _ _ _ _ _ (@Js _ _ _ _) (@Ja _ _ _ _ _ (@Js _ _ _ _) (@Ja _ _ _ _ _ (@Js _ _ _ _) (@Ja _ _ _ _ _ (@Js _ _ _ _) (@Ja _ _ _ _ _ (@Js _ _ _ _) (@Ja _ _ _ _ _ (@Js _ _ _ _) (@Jc _) rfl) rfl) rfl) rfl) rfl) rfl)) rfl (by first | exact .inl rfl | exact .inr rfl | assumption))) (@Je _ _ _ _ _ (@Yj _ _ _ (@Jx _ _ 1 _ _ _ _ JfT.nd rfl (Or.inr rfl) (@Jk _ _ _ _ _ _ _ _ (@Jtg _) (@pv _ 1 _ _ rfl (.inr (.inl rfl)) rfl rfl) (@J7 _ _ _ _ (@Ja _ _ _ _ _ (@Js _ _ _ _) (@Ja _ _ _ _ _ (@Js _ _ _ _) (@Ja _ _ _ _ _ (@Js _ _ _ _) (@Ja _ _ _ _ _ (@Js _ _ _ _) (@Ja _ _ _ _ _ (@Js _ _ _ _) (@Ja _ _ _ _ _ (@Js _ _ _ _) (@Jc _) rfl) rfl) rfl) rfl) rfl) rfl))) rfl (by first | exact .inl rfl | exact .inr rfl | assumption))) (@Je _ _ _ _ _ (@JfZ _ _ _ _ _ _ _ _ _ _ 2 1 ["_law_k", "_law_words", "_law_marks"] [1,0] _ _ _ _ ["_law_marks", "_law_words", "_law_found"] ((Jm JhB).names) (by decide +kernel) JfT.nd rfl (@Yx _ _ _ _ _ _ rfl T.YM (@Ja _ _ _ _ _ (@Jd _ _ _ _) (@Jc _) rfl) rfl) (fun _ _ _ _=>(@Zr _ _ _ _ _ _ _ _ _ 0 (by decide +kernel) rfl rfl)) (fun _ _ _ _=>(@Jcs _ _ _ (@Z5 _ _ _ (@Jr _ _ _ _ _ _ _ (show IxR _ (JgF K) from (@JE _)) (@Yn _ _ _ _ _ _ _ _ _ 2 rfl rfl (by decide) (by decide)) (@YT _ _ _ _ _ _ _ _ _ 0 rfl rfl (by decide) (by decide)) (fun _ _=>rfl)) (by intro _; rfl)))) (fun _ _ _ _=>(@Jr _ _ _ _ _ _ _ (show IxR _ (JgF K) from (@JE _)) (@Yn _ _ _ _ _ _ _ _ _ 1 rfl rfl (by decide) (by decide)) (@YT _ _ _ _ _ _ _ _ _ 0 rfl rfl (by decide) (by decide)) (fun _ _=>rfl))) rfl rfl rfl rfl rfl (by intro _; rfl)) (@Je _ _ _ _ _ (@JN _ _ _ _ _ _ _ _ (@PW.pt _ _ _ (@JcU _ _ _ _ _ _ _ (@Jq _ _ _ _ _ _ _ _ (@Yl _) (@JH _ _ _ _ _ _ _ _ _ (@Yr _) rfl T.Zz PySem.boot_len (@Ja _ _ _ _ _ (@pv _ 2 _ _ rfl (.inl rfl) rfl rfl) (@Jc _) rfl) (by decide) (by decide) rfl rfl) (@Jd _ _ _ _) (Ju _)) (@JbB _ _ _ _ (@Z5 _ _ _ (@Jr _ _ _ _ _ _ _ (@JE _) (@pv _ 0 _ _ rfl (.inr (.inl rfl)) rfl rfl) (@Jd _ _ _ _) (fun _ _=>rfl)) (by intro _; rfl))))) (@Ji _ _ _ (@Jw _ _ _ _ (@Yz _ _ _ _ _ (@Ja _ _ _ _ _ (@Js _ _ _ _) (@Ja _ _ _ _ _ (@Jr _ _ _ _ _ _ _ (@JE _) (@pv _ 2 _ _ rfl (.inl rfl) rfl rfl) (@Jd _ _ _ _) (fun _ _=>rfl)) (@Jc _) rfl) rfl)))) (@JD _)) (@Ji _ _ _ (@Jw _ _ _ _ (@Yz _ _ _ _ _ (@Ja _ _ _ _ _ (@Js _ _ _ _) (@Ja _ _ _ _ _ (@Js _ _ _ _) (@Jc _) rfl) rfl)))))))),?_⟩;have hj:j < 12:=(List.getElem?_eq_some_iff.mp hx).1;refine ⟨fun σ1 H1=>∃ p1,Jf H H1∧H1 p1=some (.lst [.str "BadName",.str "BadHand",.str "OutOfRange",.str "Twice",.str "NoPlace",.str "BadBid"])∧σ1=[some (.ref l),some (.ref p1),none],
   ⟨by show 6≤sizeLine; decide,fun p1 hp1=>⟨p1,Jf.upd hp1,Jh,rfl⟩⟩,?_⟩
  rintro σ1 H1 ⟨p1,s1,hp1,rfl⟩;refine ⟨fun σ2 H3=>∃ p3,Jf H1 H3∧H3 p3=some (.lst (JiT.map V.str))∧σ2=[some (.ref l),some (.ref p3),none],
   ⟨_,rfl,by show 6≤sizeLine; decide,fun p2 hp2=>⟨p1,p2,_,_,rfl,rfl,(Jf.upd hp2) _ _ hp1,Jh,by show 12≤sizeLine; decide,fun p3 hp3=>⟨p3,(Jf.upd hp2).trans (Jf.upd hp3),Jh,rfl⟩⟩⟩,?_⟩
  rintro σ2 H3 ⟨p3,s13,hw3,rfl⟩;have s3:=s1.trans s13;refine ⟨12,rfl,by decide,by decide,fun D hD=>JdR (n:=12) (fun i ys H4=>Jf H3 H4∧H4 D=some (.lst ys)∧ys=if j < i then [.str x] else []) rfl ?_ ?_ ?_ ?_⟩
  ·exact ⟨Jf.upd hD,Jh,by simp⟩
  ·exact fun i ys H4 p=>p.2.1
  ·rintro i ys H4 hi ⟨e4,hD4,hys⟩;have keep:∀ o,Jf H3 (upd H4 D o):=fun o b u e=>by rw [Jz (JA e hD)]; exact e4 b u e
   refine ⟨_,rfl,_,rfl,l,_,_,_,rfl,rfl,Jp.of (e4 _ _ (s3 _ _ hl)),Jq0 j i hi,_,rfl,?_⟩;by_cases hij:i=j
   ·subst hij;obtain ⟨y,hy1,hy2⟩:=Jp6 i hi;rw [hx] at hy1;cases hy1;rw [if_neg (Nat.lt_irrefl _)] at hys;subst hys;refine Zc (by simp) ⟨_,rfl,_,rfl,p3,_,_,.str x,rfl,rfl,Jp.of (e4 _ _ hw3),hy2,hD4,by show 0 < sizeLine; decide,keep _,Jh,?_⟩;rw [if_pos (Nat.lt_succ_self _)]; rfl
   ·refine Yq (by simpa using hij) ⟨e4,hD4,?_⟩;rw [hys];by_cases hlt:j < i
    ·rw [if_pos hlt,if_pos (by omega)]
    ·rw [if_neg hlt,if_neg (by omega)]
  ·rintro ys H4 ⟨e4,hD4,hys⟩;rw [if_pos hj] at hys;subst hys;have s4:=s3.trans e4;refine ⟨_,rfl,D,_,rfl,.inl (Jp.of hD4),rfl,_,rfl,Zc (decide_eq_true rfl) ?_⟩;refine ⟨_,rfl,l,_,_,.bl true,rfl,rfl,Jp.of (s4 _ _ hl),?_,_,rfl,Y0 ?_⟩
   ·have z:atI (Jji j) ((12:Nat):Int)=some (.bl true):=YD (by unfold Jji; rw [List.getElem?_append_right (by simp)]; simp);exact z
   refine ⟨_,rfl,D,_,_,.str x,rfl,rfl,Jp.of hD4,rfl,by show 2≤sizeLine; decide,fun p hp=>q p _ (s4.trans (Jf.upd hp)) Jh⟩
theorem JoN {p:Str} (h:YJ p=true):YE (p ++ "zzzzzz")∧YJ (p ++ "zzzzzz")=false:=by
 refine ⟨(JsI (Jf2 h) (JtI (n:=6) (z := "zzzzzz") (by decide +kernel))).mono (by decide),?_⟩;have hp:1≤p.length:=by
  unfold YJ at h;rw [Bool.and_eq_true,Bool.and_eq_true,decide_eq_true_eq] at h;exact h.1.1
 unfold YJ;rw [strLen_append];have:¬ p.length + (Str.ofString "zzzzzz").length≤6:=by
  have:(Str.ofString "zzzzzz").length=6:=by decide +kernel
  omega
 rw [decide_eq_false this];simp
theorem JbK {X:Cx} {K:PySem.W.Frag} (h:X.K=K):IxR X (Jir K):=by
 subst h;exact Yg
def JlN (K:PySem.W.Frag):Sp:=fun vs H Q _=>∃ (t:Addr) (c:Int) (ps:List Str) (zs:List (V×(Str×Str))) (gs:List Str),vs=[.ref t,.int c]∧Ground K H t ps zs gs∧∀ z H',YE z→Jf H H'→Q (.str z) H'
theorem Jmj (T:Txt K mg):JL P w K mg base YK 1 T.Jfl T.Jey ["_law_ground", "_law_cell"] (JlN K):=by
 refine T.Jfq.F.ok JlU (fun vs H Q E h=>?_) (fun cdv A outer s H vs Q E hr h=>?_)
 ·obtain ⟨_,_,_,_,_,rfl,_⟩:=h;rfl
 ·obtain ⟨t,c,ps,zs,gs,rfl,G,q⟩:=h;have szl:sizeLine=16777216:=sizeLine_eq;refine ⟨_,(@Je _ _ _ _ _ (@JN _ _ _ _ _ _ _ _ (@Jq _ _ _ _ _ _ _ _ (@Yl _) (@Jk _ _ _ _ _ _ _ _ (@JZ _) (@pv _ 1 _ _ rfl (.inl rfl) rfl rfl) (@Jd _ _ _ _)) (@Jd _ _ _ _) (Ju _)) (@Ji _ _ _ (@Jw _ _ _ _ (@Jr _ _ _ _ _ _ _ (@JE _) (@J7 _ _ _ _ (@Ja _ _ _ _ _ (@Jk _ _ _ _ _ _ _ _ (@Ji7 _) (@Jr _ _ _ _ _ _ _ (@JE _) (@Jr _ _ _ _ _ _ _ (@Yg _) (@pv _ 0 _ _ rfl (.inl rfl) rfl rfl) (@Jd _ _ _ _) (fun _ _=>rfl)) (@Jd _ _ _ _) (fun _ _=>rfl)) (@Js _ _ _ _)) (@Ja _ _ _ _ _ (@Js _ _ _ _) (@Ja _ _ _ _ _ (@Js _ _ _ _) (@Jc _) rfl) rfl) rfl)) (@Jk _ _ _ _ _ _ _ _ (@JZ _) (@Jk _ _ _ _ _ _ _ _ (@YL _) (@pv _ 1 _ _ rfl (.inl rfl) rfl rfl) (@Jd _ _ _ _)) (@Jd _ _ _ _)) (fun _ _=>rfl)))) (@JD _)) (@Ji _ _ _ (@Jw _ _ _ _ (@Jr _ _ _ _ _ _ _ (@JE _) (@Jr _ _ _ _ _ _ _ (@Yg _) (@pv _ 0 _ _ rfl (.inl rfl) rfl rfl) (@Jd _ _ _ _) (fun _ _=>rfl)) (@Jk _ _ _ _ _ _ _ _ (@JZ _) (@Jk _ _ _ _ _ _ _ _ (@YL _) (@pv _ 1 _ _ rfl (.inl rfl) rfl rfl) (@Jd _ _ _ _)) (@JH _ _ _ _ _ _ _ _ _ (@Yr _) rfl T.Zz PySem.boot_len (@Ja _ _ _ _ _ (@Jr _ _ _ _ _ _ _ (@Yg _) (@pv _ 0 _ _ rfl (.inl rfl) rfl rfl) (@Jd _ _ _ _) (fun _ _=>rfl)) (@Jc _) rfl) (by decide) (by decide) rfl rfl)) (fun _ _=>rfl))))),?_⟩;obtain ⟨pn,pl,pg,h1,h2,h3,h4,h5⟩:=G.at_;have p1:=G.good.p1;obtain ⟨p0,hp0⟩:∃ p0,ps[0]?=some p0:=⟨_,List.getElem?_eq_getElem (by omega)⟩
  have gp0:=G.good.p3 p0 (List.mem_of_getElem? hp0);have l0:p0.length≤6:=(Jf2 gp0).1;have z6:(Str.ofString "zzzzzz").length=6:=by decide +kernel
  refine ⟨_,rfl,_,_,rfl,rfl,(by show (0:Int) < 5; decide),rfl,_,rfl,Yp (fun _=>?_) (fun _=>?_)⟩
  ·refine ⟨_,rfl,t,_,_,.ref pn,rfl,rfl,JX.of h1,rfl,pn,_,_,.str p0,rfl,rfl,Jp.of h2,YD (j:=0) (by rw [List.getElem?_map,hp0]; rfl),_,_,rfl,rfl,by omega,by show 3≤sizeLine; decide,fun l hl=>?_⟩;obtain ⟨z,hz,ht⟩:∃ z:Str,atI [V.str (p0 ++ "zzzzzz"),V.str "",V.str "A"] (c / 5 % 3)=some (.str z)∧YE z:=by
    have h:c / 5 % 3=0∨c / 5 % 3=1∨c / 5 % 3=2:=by omega
    rcases h with h | h | h <;> rw [h]
    ·exact ⟨_,rfl,(JoN gp0).1⟩
    ·exact ⟨_,rfl,Jhx (by decide +kernel)⟩
    ·exact ⟨_,rfl,Jhx (by decide +kernel)⟩
   exact ⟨_,rfl,_,_,rfl,rfl,⟨by decide,by decide⟩,_,_,rfl,rfl,(by show (0:Int) < 3; decide),l,_,_,.str z,rfl,rfl,Jp.of Jh,hz,q z _ ht (Jf.upd hl)⟩
  ·obtain ⟨p2,hp2,hpm2⟩:=JmR p1 (c / 5);exact ⟨_,rfl,t,_,_,.ref pn,rfl,rfl,JX.of h1,rfl,_,rfl,_,_,rfl,rfl,⟨by decide,by decide⟩,_,rfl,t,_,_,.ref pn,rfl,rfl,JX.of h1,rfl,pn,_,rfl,.inl (Jp.of h2),_,_,rfl,rfl,(by show (0:Int) < _; rw [List.length_map]; omega),pn,_,_,.str p2,rfl,rfl,Jp.of h2,hp2,q p2 H (ZA (G.good.p3 p2 hpm2)) (Jf.refl _)⟩
end
section
variable {P:Program} {w:World} {K:PySem.W.Frag} {mg:Str→Option Value} {base:Heap}
theorem JhW (T:Txt K mg):JL P w K mg base (Zf P w) 4 T.Jbw T.Jba ["board", "place", "turns", "north", "south", "ribbon"] (JoZ T):=by
 refine T.Jbz.F.ok1 JhU (fun vs H Q E h=>?_) (fun cdv A outer s H vs Q E hr h=>?_)
 ·obtain ⟨_,_,_,_,_,_,_,_,_,rfl,_⟩:=h;rfl
 ·obtain ⟨b,z,x,m,n,s,ps,zs,gs,rfl,tz,tx,B,⟨q1,q2,q3,q4⟩,q⟩:=h;refine ⟨_,(@Je _ _ _ _ _ (@JW _ _ _ _ (@YB _ _ _ _ _ _ _ _ _ _ _ _ _ _ _ _ _ _ _ _ (@pv _ 0 _ _ rfl (.inl rfl) rfl rfl) T.YV T.Yb.m (Zb T) (hr.mono (by decide)) T.Yb.b .nil Y3 (@Ja _ _ _ _ _ (@pv _ 1 _ _ rfl (.inl rfl) rfl rfl) (@Jc _) rfl) rfl rfl rfl) rfl) (@Je _ _ _ _ _ (@JW _ _ _ _ (@Jl _ _ _ _ _ _ _ _ _ _ _ _ _ _ _ T.Zh (ZG T) (hr.mono (by decide)) Y3 (@Ja _ _ _ _ _ (@pv _ 2 _ _ rfl (.inl rfl) rfl rfl) (@Ja _ _ _ _ _ (@ZY _ _ _ _ _ rfl T.ZT T.ZN (by decide)) (@Jc _) rfl) rfl) rfl (by decide) rfl rfl) rfl) (@Je _ _ _ _ _ (@JW _ _ _ _ (@Jl _ _ _ _ _ _ _ _ _ _ _ _ _ _ _ T.JdA (Jkd T) (hr.mono (by decide)) Y3 (@Ja _ _ _ _ _ (@pv _ 3 _ _ rfl (.inl rfl) rfl rfl) (@Ja _ _ _ _ _ (@pv _ 4 _ _ rfl (.inl rfl) rfl rfl) (@Jc _) rfl) rfl) rfl (by decide) rfl rfl) rfl) (@Ji _ _ _ (@JW _ _ _ _ (@Jl _ _ _ _ _ _ _ _ _ _ _ _ _ _ _ T.Jce (Jge T) (hr.mono (by decide)) Y3 (@Ja _ _ _ _ _ (@pv _ 5 _ _ rfl (.inl rfl) rfl rfl) (@Jc _) rfl) rfl (by decide) rfl rfl) rfl))))),?_⟩;obtain ⟨bdx,tp,tl,tg,hb,_⟩:=id B.B;refine ⟨_,rfl,b,bdx,_,rfl,hb,rfl,_,rfl,b,z,ps,zs,gs,rfl,tz,B.B,fun hz=>?_,q1⟩;refine ⟨_,rfl,m,30,rfl,⟨by decide,by decide⟩,fun hm=>?_,q2 hz⟩;refine ⟨_,rfl,_,rfl,n,s,rfl,fun hc=>?_,q3 hz hm⟩;exact ⟨_,rfl,x,rfl,tx,fun hx=>q ⟨hz,hm,hc,hx⟩,q4 hz hm hc⟩
theorem Jmi (T:Txt K mg):JL P w K mg base (Zf P w) 2 T.Jfk T.Jex ["name", "kept", "most"] (Jr4 T):=by
 refine T.Jfp.F.ok1 JlT (fun vs H Q E h=>?_) (fun cdv A outer s H vs Q E hr h=>?_)
 ·obtain ⟨_,_,_,_,rfl,_⟩:=h;rfl
 ·obtain ⟨d,z,n,kvs,rfl,tz,hn,hd,hE,q⟩:=h;have hu:=Ja1 hr;refine ⟨_,(@Je _ _ _ _ _ (@JN _ _ _ _ _ _ _ _ (@Jbf _ _ _ _ (@Z5 _ _ _ (@Jl _ _ _ _ _ _ _ _ _ _ _ _ _ _ _ T.JcP (JgP T) (hr.mono (by decide)) JG (@Ja _ _ _ _ _ (@pv _ 0 _ _ rfl (.inl rfl) rfl rfl) (@Jc _) rfl) rfl (by decide) rfl rfl) (by intro _; rfl))) (@Ji _ _ _ (@JaN _ _ _ _ _ _ _ _ _ T.JjG T.Jhq JbA (@JbD _ _ _ _ _ _ (PJ.cons (@Jed _ _ _ _ (@pv _ 0 _ _ rfl (.inl rfl) rfl rfl)) (PJ.cons (@Js _ _ _ _) PJ.nil)) rfl) rfl rfl (by decide) rfl)) (@JD _)) (@Je _ _ _ _ _ (@JN _ _ _ _ _ _ _ _ (@JfB _ _ _ _ _ _ (@Jtd _ _ _ _ _ hu (@pv _ 0 _ _ rfl (.inl rfl) rfl rfl) (@pv _ 1 _ _ rfl (.inl rfl) rfl rfl)) (by first | exact Z8 _ (by decide) (by decide) | rfl)) (@Ji _ _ _ (@JaN _ _ _ _ _ _ _ _ _ T.JmT T.JkA JbA (@JbD _ _ _ _ _ _ (PJ.cons (@Jed _ _ _ _ (@pv _ 0 _ _ rfl (.inl rfl) rfl rfl)) (PJ.cons (@Js _ _ _ _) PJ.nil)) rfl) rfl rfl (by decide) rfl)) (@JD _)) (@Ji _ _ _ (@JN _ _ _ _ _ _ _ _ (@Jq _ _ _ _ _ _ _ _ (@Jog _) (@JH _ _ _ _ _ _ _ _ _ (@JpT _) rfl T.Zz PySem.boot_len (@Ja _ _ _ _ _ (@pv _ 1 _ _ rfl (.inl rfl) rfl rfl) (@Jc _) rfl) (by decide) (by decide) rfl rfl) (@pv _ 2 _ _ rfl (.inl rfl) rfl rfl) (Ju _)) (@Ji _ _ _ (@JaN _ _ _ _ _ _ _ _ _ T.JnP T.JmN JbA (@JbD _ _ _ _ _ _ (PJ.cons (@Js _ _ _ _) (PJ.cons (@Jka _ _ _ _ (@pv _ 2 _ _ rfl (.inl rfl) rfl rfl)) (PJ.cons (@Js _ _ _ _) PJ.nil))) rfl) rfl rfl (by decide) rfl)) (@JD _))))),?_⟩;refine ⟨_,rfl,z,rfl,tz.1,fun H1 e1=>⟨_,rfl,?_⟩⟩;obtain ⟨q1,q2,q3⟩:=hE H1 e1;have hz:=JeR tz;have e0:(Str.empty ++ reprText z).length=(reprText z).length:=by rw [strLen_append]; exact Nat.zero_add _
  have jn:∀ {x:Str},x.length≤50→(Str.empty ++ reprText z ++ x).length≤sizeLine:=fun hx=>by
   rw [strLen_append,e0];exact Nat.le_trans (Nat.add_le_add hz hx) (by decide)
  have hz2:(reprText z).length≤sizeLine:=Nat.le_trans hz (by decide);by_cases hg:YJ z=true
  ·refine Yq (by rw [hg]; rfl) ⟨_,rfl,_,rfl,d,_,rfl,ZB.k (k:=Sum.inr z) (e1 _ _ hd),_,rfl,?_⟩;cases hv:Yd kvs (Sum.inr z) with
   | some v =>
    rw [hv] at q2;exact Y0 ⟨_,rfl,z,rfl,hz2,_,rfl,by rw [e0]; exact hz2,_,rfl,jn (by decide +kernel),jn (by decide +kernel),q2 hg rfl⟩
   | none =>
    refine Y5 ⟨_,rfl,d,kvs,rfl,e1 _ _ hd,_,rfl,_,_,rfl,rfl,_,rfl,Yp (fun c=>?_) (fun c=>?_)⟩
    ·have fm:∀ m:Nat,m < 21→(m:Int).natAbs.log2 < 1920∧(Str.empty ++ Str.ofString "at most " ++ Str.ofString (toString (m:Int))).length≤sizeLine∧(Str.empty ++ Str.ofString "at most " ++ Str.ofString (toString (m:Int)) ++ Str.ofString " are kept").length≤sizeLine:=by decide +kernel
     obtain ⟨m,rfl⟩:∃ j:Nat,n=(j:Int):=⟨n.toNat,by omega⟩
     have fm:=fm m (by omega);exact ⟨_,rfl,by decide +kernel,_,rfl,_,rfl,fm.1,_,rfl,fm.2.1,_,rfl,fm.2.2,fm.2.2,q3 hg hv (of_decide_eq_true c)⟩
    ·exact q hg hv (Int.not_le.mp fun z=>c (decide_eq_true z)) H1 e1
  ·have hg:YJ z=false:=by simpa using hg
   exact Zc (by rw [hg]; rfl) ⟨_,rfl,z,rfl,hz2,_,rfl,by rw [e0]; exact hz2,_,rfl,jn (by decide +kernel),jn (by decide +kernel),q1 hg⟩
theorem Jmh (T:Txt K mg):JL P w K mg base (Zf P w) 1 T.Jfj T.Jew ["name", "kept"] (Jr0 T):=by
 refine T.Jfo.F.ok1 JlS (fun vs H Q E h=>?_) (fun cdv A outer s H vs Q E hr h=>?_)
 ·obtain ⟨_,_,_,rfl,_⟩:=h;rfl
 ·obtain ⟨d,z,kvs,rfl,tz,hd,qE,q⟩:=h;have hu:=Ja1 hr;refine ⟨_,(@Je _ _ _ _ _ (@JN _ _ _ _ _ _ _ _ (@JfB _ _ _ _ _ _ (@Jpe _ _ _ _ _ hu (@pv _ 0 _ _ rfl (.inl rfl) rfl rfl) (@pv _ 1 _ _ rfl (.inl rfl) rfl rfl)) (by first | exact Z8 _ (by decide) (by decide) | rfl)) (@Ji _ _ _ (@JaN _ _ _ _ _ _ _ _ _ T.JjF T.Jhp JbA (@JbD _ _ _ _ _ _ (PJ.cons (@Js _ _ _ _) (PJ.cons (@Jed _ _ _ _ (@pv _ 0 _ _ rfl (.inl rfl) rfl rfl)) PJ.nil)) rfl) rfl rfl (by decide) rfl)) (@JD _)) (@Ji _ _ _ (@Jw _ _ _ _ (@Jac _ _ _ _ _ _ hu (@pv _ 1 _ _ rfl (.inl rfl) rfl rfl) (@pv _ 0 _ _ rfl (.inl rfl) rfl rfl) (fun _ _=>rfl))))),?_⟩;have hz:=JeR tz;refine ⟨_,rfl,_,rfl,d,_,rfl,ZB.k (k:=Sum.inr z) hd,_,rfl,?_⟩;cases hv:Yd kvs (Sum.inr z) with
  | some v =>
   have g:=ZB.k (k:=Sum.inr z) hd;rw [hv] at g;exact Y5 ⟨_,rfl,_,rfl,d,v,rfl,g,q v hv⟩
  | none =>
   have hl:(Str.empty ++ Str.ofString "nothing is kept under ").length≤50:=by decide +kernel
   have jn:(Str.empty ++ Str.ofString "nothing is kept under " ++ reprText z).length≤sizeLine:=by
    rw [strLen_append];exact Nat.le_trans (Nat.add_le_add hl hz) (by decide)
   exact Y0 ⟨_,rfl,Nat.le_trans hl (by decide),_,rfl,z,rfl,Nat.le_trans hz (by decide),_,rfl,jn,jn,qE hv⟩
theorem Jmk (T:Txt K mg):JL P w K mg base YK 1 T.JcN T.JeA ["self"] (JlM T):=by
 refine T.Jfr.F.ok JlV (fun vs H Q E h=>?_) (fun cdv A outer s H vs Q E hr h=>?_)
 ·obtain ⟨_,_,rfl,_⟩:=h;rfl
 ·obtain ⟨h,dx,rfl,hh,q⟩:=h;refine ⟨_,(@Je _ _ _ _ _ (@JbV _ _ _ _ _ _ _ _ (@pv _ 0 _ _ rfl (.inl rfl) rfl rfl) (@Jl8 _ _) rfl) (@Ji _ _ _ (@JbV _ _ _ _ _ _ _ _ (@pv _ 0 _ _ rfl (.inl rfl) rfl rfl) (@Jl8 _ _) rfl))),?_⟩;intro d1 n1;have e1:=Jf.upd (o:=.dK []) n1;refine ⟨_,rfl,h,_,dx,_,rfl,e1 _ _ hh,T.Jae,T.Zl,by decide,?_⟩;have b2:=(YW.of (b:=h) e1).trans (YW.put (o:=.ins T.Ye dx (Yt "kept_boards" (.ref d1) [])));have d1h:d1≠h:=fun e=>by rw [e,hh] at n1; cases n1
  have k2:upd (upd H d1 (.dK [])) h (.ins T.Ye dx (Yt "kept_boards" (.ref d1) [])) d1=some (.dK []):=by rw [Jz d1h,Jh]
  have h2:upd (upd H d1 (.dK [])) h (.ins T.Ye dx (Yt "kept_boards" (.ref d1) [])) h=some (.ins T.Ye dx [("kept_boards",.ref d1)]):=Jh;generalize upd (upd H d1 (.dK [])) h (.ins T.Ye dx (Yt "kept_boards" (.ref d1) []))=H2 at b2 k2 h2;intro d2 n2;have e3:=Jf.upd (o:=.dK []) n2;have d2h:d2≠h:=fun e=>by rw [e,h2] at n2; cases n2
  have d12:d1≠d2:=JA k2 n2;have nd2:H d2=none:=by
   cases hq:H d2 with
   | none=>rfl
   | some u=>have:=b2 _ _ d2h hq; rw [n2] at this; cases this
  refine ⟨_,rfl,h,_,dx,_,rfl,e3 _ _ h2,T.Jae,T.JcX,by show 1 < 1000; decide,?_⟩;exact q d1 d2 _ ((b2.trans (YW.of e3)).trans YW.put) n1 nd2 ⟨⟨dx,Jh⟩,by rw [Jz d1h]; exact e3 _ _ k2,by rw [Jz d2h,Jh],d12⟩
theorem JhX (T:Txt K mg):JL P w K mg base (Zf P w) 3 T.Jbx T.Jbb ["self", "name", "board"] (Jr5 T):=by
 refine T.Jal.F.ok1 JhV (fun vs H Q E h=>?_) (fun cdv A outer s H vs Q E hr h=>?_)
 ·obtain ⟨_,_,_,_,_,_,_,rfl,_⟩:=h;rfl
 ·obtain ⟨h,d1,d2,z,v,bs,gs,rfl,tz,A0,hE,q⟩:=h;have hu:=Ja1 hr;refine ⟨_,(@Je _ _ _ _ _ (@JW _ _ _ _ (@Jl _ _ _ _ _ _ _ _ _ _ _ _ _ _ _ T.Jfp (Jmi T) (hr.mono (by decide)) Y3 (@Ja _ _ _ _ _ (@pv _ 1 _ _ rfl (.inl rfl) rfl rfl) (@Ja _ _ _ _ _ (@YY _ _ _ _ _ (@pv _ 0 _ _ rfl (.inl rfl) rfl rfl) rfl) (@Ja _ _ _ _ _ (@ZY _ _ _ _ _ rfl T.Jbn T.Jbk (by decide)) (@Jc _) rfl) rfl) rfl) rfl (by decide) rfl rfl) rfl) (@Ji _ _ _ (@JhF _ _ _ _ _ _ _ _ _ hu (@YY _ _ _ _ _ (@pv _ 0 _ _ rfl (.inl rfl) rfl rfl) rfl) (@pv _ 1 _ _ rfl (.inl rfl) rfl rfl) (@pv _ 2 _ _ rfl (.inl rfl) rfl rfl) rfl))),?_⟩;obtain ⟨dh,hh⟩:=A0.hi;refine ⟨_,rfl,_,rfl,h,_,dh,_,.ref d1,rfl,hh,T.Jae,T.Zl,rfl,d1,z,12,bs,rfl,tz,⟨by decide,by decide⟩,A0.h1,hE,fun hg hv hl H1 e1=>?_⟩;have A1:=A0.same e1;have hl2:bs.length < 12:=by omega
  refine ⟨_,rfl,_,rfl,h,_,dh,_,.ref d1,rfl,e1 _ _ hh,T.Jae,T.Zl,rfl,_,rfl,d1,_,rfl,Jfs.k (k:=Sum.inr z) A1.h1 (Nat.lt_of_lt_of_le hl2 (by decide)),?_⟩;rw [JqJ v hv];have hd:h≠d1:=fun e=>by have:=A0.h1; rw [← e,hh] at this; cases this
  exact q hg hv hl2 _ ((YW.of e1).trans YW.put) ⟨⟨dh,by rw [Jz hd]; exact e1 _ _ hh⟩,Jh,by rw [Jz A0.ne.symm]; exact A1.h2,A0.ne⟩
theorem Jeg (T:Txt K mg):JL P w K mg base (Zf P w) 2 T.Jb9 T.Jbu ["self", "name"] (Jn1 T):=by
 refine T.Zv.F.ok1 Jio (fun vs H Q E h=>?_) (fun cdv A outer s H vs Q E hr h=>?_)
 ·obtain ⟨_,_,_,_,_,_,rfl,_⟩:=h;rfl
 ·obtain ⟨h,d1,d2,z,bs,gs,rfl,tz,A0,qE,q⟩:=h;refine ⟨_,(@Ji _ _ _ (@Jw _ _ _ _ (@Jl _ _ _ _ _ _ _ _ _ _ _ _ _ _ _ T.Jfo (Jmh T) (hr.mono (by decide)) Y3 (@Ja _ _ _ _ _ (@pv _ 1 _ _ rfl (.inl rfl) rfl rfl) (@Ja _ _ _ _ _ (@YY _ _ _ _ _ (@pv _ 0 _ _ rfl (.inl rfl) rfl rfl) rfl) (@Jc _) rfl) rfl) rfl (by decide) rfl rfl))),?_⟩;obtain ⟨dh,hh⟩:=A0.hi;exact ⟨_,rfl,_,rfl,h,_,dh,_,.ref d1,rfl,hh,T.Jae,T.Zl,rfl,d1,z,bs,rfl,tz,A0.h1,qE,q⟩
theorem Jlm (T:Txt K mg):JL P w K mg base (Zf P w) 9 T.JeF T.Jdo ["self", "board_name", "place", "turns", "north", "south", "ribbon"] (Jqm T):=by
 refine T.Jcg.F.ok1 Jf8 (fun vs H Q E h=>?_) (fun cdv A outer s H vs Q E hr h=>?_)
 ·obtain ⟨_,_,_,_,_,_,_,_,_,_,_,rfl,_⟩:=h;rfl
 ·obtain ⟨h,d1,d2,z,p,x,m,n,s,bs,gm,rfl,tz,tp,tx,A0,qE,q⟩:=h;refine ⟨_,(@Je _ _ _ _ _ (@Jx _ _ 7 _ _ _ _ Jf8.nd rfl (Or.inl rfl) (@YB _ _ _ _ _ _ _ _ _ _ _ _ _ _ _ _ _ _ _ _ (@pv _ 0 _ _ rfl (.inl rfl) rfl rfl) T.Jae T.Zv.m (Jeg T) (hr.mono (by decide)) T.Zv.b .nil Y3 (@Ja _ _ _ _ _ (@pv _ 1 _ _ rfl (.inl rfl) rfl rfl) (@Jc _) rfl) rfl rfl rfl) rfl (.inl rfl)) (@Je _ _ _ _ _ (@JW _ _ _ _ (@Jl _ _ _ _ _ _ _ _ _ _ _ _ _ _ _ T.Jbz (JhW T) (hr.mono (by decide)) Y3 (@Ja _ _ _ _ _ (@pv _ 7 _ _ rfl (.inl rfl) rfl rfl) (@Ja _ _ _ _ _ (@pv _ 2 _ _ rfl (.inl rfl) rfl rfl) (@Ja _ _ _ _ _ (@pv _ 3 _ _ rfl (.inl rfl) rfl rfl) (@Ja _ _ _ _ _ (@pv _ 4 _ _ rfl (.inl rfl) rfl rfl) (@Ja _ _ _ _ _ (@pv _ 5 _ _ rfl (.inl rfl) rfl rfl) (@Ja _ _ _ _ _ (@pv _ 6 _ _ rfl (.inl rfl) rfl rfl) (@Jc _) rfl) rfl) rfl) rfl) rfl) rfl) rfl (by decide) rfl rfl) rfl) (@Ji _ _ _ (@Jw _ _ _ _ (@YB _ _ _ _ _ _ _ _ _ _ _ _ _ _ _ _ _ _ _ _ (@Jj9 _ _ _ _ _ _ _ _ _ _ _ _ _ _ _ _ _ T.Jkf (JgR T) (hr.mono (by decide)) rfl T.JmO T.JcQ.b .nil JdM (@Ja _ _ _ _ _ (@pv _ 7 _ _ rfl (.inl rfl) rfl rfl) (@Ja _ _ _ _ _ (@Jk _ _ _ _ _ _ _ _ (@JM _) (@pv _ 4 _ _ rfl (.inl rfl) rfl rfl) (@pv _ 5 _ _ rfl (.inl rfl) rfl rfl)) (@Ja _ _ _ _ _ (@pv _ 3 _ _ rfl (.inl rfl) rfl rfl) (@Jc _) rfl) rfl) rfl) (by decide) rfl rfl) T.Yk T.Jbp.m (Jke T) (hr.mono (by decide)) T.Jbp.b .nil JdM (@Ja _ _ _ _ _ (@pv _ 2 _ _ rfl (.inl rfl) rfl rfl) (@Ja _ _ _ _ _ (@pv _ 3 _ _ rfl (.inl rfl) rfl rfl) (@Ja _ _ _ _ _ (@pv _ 4 _ _ rfl (.inl rfl) rfl rfl) (@Ja _ _ _ _ _ (@pv _ 6 _ _ rfl (.inl rfl) rfl rfl) (@Jc _) rfl) rfl) rfl) rfl) rfl rfl rfl))))),?_⟩;obtain ⟨dh,hh⟩:=A0.hi;refine ⟨_,rfl,h,dh,_,rfl,hh,rfl,_,rfl,h,d1,d2,z,bs,gm,rfl,tz,A0,qE,fun v hv=>?_⟩;obtain ⟨b,ps,zs,gs,rfl,B,sE,q⟩:=q v hv;refine ⟨_,rfl,_,rfl,_,rfl,_,rfl,_,rfl,_,rfl,b,p,x,m,n,s,ps,zs,gs,rfl,tp,tx,B,sE,fun ⟨hp,hm,hc,hx⟩=>?_⟩;obtain ⟨r,rfl⟩:=Jkh hx;have hcc:0≤n∧0≤s∧n + s≤20:=hc;refine ⟨_,rfl,_,rfl,_,rfl,_,_,rfl,rfl,_,rfl,fun k dx nx ndx hne=>Jpp B ⟨by omega,by omega⟩ hm nx ndx fun H1 e1 Bk1=>⟨rfl,?_⟩⟩;obtain ⟨kdx,l,hk⟩:=Bk1.ins;have e:((m.toNat:Nat):Int)=m:=Int.toNat_of_nonneg hm.1;refine ⟨k,kdx,_,rfl,hk,rfl,_,rfl,_,rfl,_,rfl,_,rfl,k,b,p,hs r,m,n,ps,zs,gs,n + s,m.toNat,rfl,tp,tx,Bk1,Jo5 ⟨hp,⟨hm.1,by omega⟩,⟨by omega,by omega⟩,Jg3 r⟩,fun _ _ _ r' hr' H2 e2=>q hp hm hc r' hr' H2 (e1.trans e2)⟩
theorem Jll (T:Txt K mg):JL P w K mg base (Zf P w) 9 T.JeE T.Jdn ["self", "board_name", "coins", "place", "turns", "ribbon"] (JoV T):=by
 refine T.Jcf.F.ok1 Jlg (fun vs H Q E h=>?_) (fun cdv A outer s H vs Q E hr h=>?_)
 ·obtain ⟨_,_,_,_,_,_,_,_,_,_,rfl,_⟩:=h;rfl
 ·obtain ⟨h,d1,d2,z,p,x,c,m,bs,gm,rfl,tz,tp,tx,A0,qE,q⟩:=h;refine ⟨_,(@Ji _ _ _ (@Jw _ _ _ _ (@YB _ _ _ _ _ _ _ _ _ _ _ _ _ _ _ _ _ _ _ _ (@Jj9 _ _ _ _ _ _ _ _ _ _ _ _ _ _ _ _ _ T.Jkf (JgR T) (hr.mono (by decide)) rfl T.JmO T.JcQ.b .nil Y3 (@Ja _ _ _ _ _ (@YB _ _ _ _ _ _ _ _ _ _ _ _ _ _ _ _ _ _ _ _ (@pv _ 0 _ _ rfl (.inl rfl) rfl rfl) T.Jae T.Zv.m (Jeg T) (hr.mono (by decide)) T.Zv.b .nil Y3 (@Ja _ _ _ _ _ (@pv _ 1 _ _ rfl (.inl rfl) rfl rfl) (@Jc _) rfl) rfl rfl rfl) (@Ja _ _ _ _ _ (@pv _ 2 _ _ rfl (.inl rfl) rfl rfl) (@Ja _ _ _ _ _ (@ZY _ _ _ _ _ rfl T.ZT T.ZN (by decide)) (@Jc _) rfl) rfl) rfl) (by decide) rfl rfl) T.Yk T.Jch.m (Jln T) (hr.mono (by decide)) T.Jch.b .nil Y3 (@Ja _ _ _ _ _ (@pv _ 3 _ _ rfl (.inl rfl) rfl rfl) (@Ja _ _ _ _ _ (@pv _ 4 _ _ rfl (.inl rfl) rfl rfl) (@Ja _ _ _ _ _ (@pv _ 5 _ _ rfl (.inl rfl) rfl rfl) (@Jc _) rfl) rfl) rfl) rfl rfl rfl))),?_⟩;obtain ⟨dh,hh⟩:=A0.hi;refine ⟨_,rfl,h,dh,_,rfl,hh,rfl,_,rfl,h,d1,d2,z,bs,gm,rfl,tz,A0,qE,fun v hv=>?_⟩;obtain ⟨b,ps,zs,gs,rfl,B,cE,sE,q⟩:=q v hv;refine ⟨_,rfl,fun k dx nx ndx hne=>Jon B nx ndx (fun hn=>cE fun hc=>hn ⟨hc,by decide,by decide⟩) fun hc _ H1 e1 Bk1=>⟨rfl,?_⟩⟩;obtain ⟨kdx,l,hk⟩:=Bk1.ins;exact ⟨k,kdx,_,rfl,hk,rfl,_,rfl,_,rfl,_,rfl,k,b,p,x,m,ps,zs,gs,c,30,rfl,tp,tx,Bk1,sE hc H1 e1,fun hp hm r hr' H2 e2=>q hp hm hc r hr' H2 (e1.trans e2)⟩
end
section
variable {P:Program} {w:World} {K:PySem.W.Frag} {mg:Str→Option Value} {base:Heap}
def JsV:Sp:=fun vs H Q _=>∃ b:Bool,vs=[.str (hs b)]∧Q (.str (hs (!b))) H
def JoT:Sp:=fun vs H Q _=>∃ (n s b a:Int) (r:Bool),vs=[.int n,.int s,.str (hs r),.int b,.int a]∧∀ p H',Jf H H'→H' p=some (.tup (Jff n s r b a))→Q (.ref p) H'
theorem Jmf (T:Txt K mg):JL P w K mg base YK 1 T.Joz T.JmC ["_law_hand_here"] JsV:=by
 refine T.JjM.F.ok JsZ (fun vs H Q E h=>?_) (fun cdv A outer s H vs Q E hr h=>?_)
 ·obtain ⟨i,rfl,_⟩:=h;rfl
 ·obtain ⟨b,rfl,q⟩:=h;refine ⟨_,(@Je _ _ _ _ _ (@JN _ _ _ _ _ _ _ _ (@Jq _ _ _ _ _ _ _ _ (@Yl _) (@pv _ 0 _ _ rfl (.inl rfl) rfl rfl) (@Js _ _ _ _) (Ju _)) (@Ji _ _ _ (@Jw _ _ _ _ (@Js _ _ _ _))) (@JD _)) (@Ji _ _ _ (@Jw _ _ _ _ (@Js _ _ _ _)))),?_⟩;refine ⟨_,rfl,rfl,_,rfl,?_⟩;rw [Jmv];cases b with
  | true=>exact Y0 q
  | false=>exact Y5 q
theorem Jpj (T:Txt K mg):JL P w K mg base YK 2 T.JiK T.Jg7 ["_law_north", "_law_south", "_law_ribbon", "_law_bid", "_law_reply"] JoT:=by
 refine T.JiR.F.ok JaK (fun vs H Q E h=>?_) (fun cdv A outer s H vs Q E hr h=>?_)
 ·obtain ⟨_,_,_,_,_,rfl,_⟩:=h;rfl
 ·obtain ⟨n,s,b,a,r,rfl,q⟩:=h;refine ⟨_,(@Je _ _ _ _ _ (@Jx _ _ 5 _ _ _ _ JaK.nd rfl (Or.inl rfl) (@pv _ 2 _ _ rfl (.inl rfl) rfl rfl) rfl (.inl rfl)) (@Je _ _ _ _ _ (@Jx _ _ 6 _ _ _ _ JaK.nd rfl (Or.inl rfl) (@pv _ 4 _ _ rfl (.inl rfl) rfl rfl) rfl (.inl rfl)) (@Je _ _ _ _ _ (@Jx _ _ 7 _ _ _ _ JaK.nd rfl (Or.inl rfl) (@pv _ 2 _ _ rfl (.inl rfl) rfl rfl) rfl (.inl rfl)) (@Je _ _ _ _ _ (@JN _ _ _ _ _ _ _ _ (@Jq _ _ _ _ _ _ _ _ (@JbY _) (@pv _ 3 _ _ rfl (.inl rfl) rfl rfl) (@pv _ 4 _ _ rfl (.inl rfl) rfl rfl) (Ju _)) (@Je _ _ _ _ _ (@Jx _ _ 5 _ _ _ _ JaK.nd rfl (Or.inl rfl) (@Jl _ _ _ _ _ _ _ _ _ _ _ _ _ _ _ T.JjM (Jmf T) (hr.mono (by decide)) JG (@Ja _ _ _ _ _ (@pv _ 2 _ _ rfl (.inl rfl) rfl rfl) (@Jc _) rfl) rfl (by decide) rfl rfl) rfl (.inl rfl)) (@Ji _ _ _ (@Jx _ _ 6 _ _ _ _ JaK.nd rfl (Or.inl rfl) (@pv _ 3 _ _ rfl (.inl rfl) rfl rfl) rfl (.inl rfl)))) (@JD _)) (@Je _ _ _ _ _ (@JN _ _ _ _ _ _ _ _ (@Jq _ _ _ _ _ _ _ _ (@Yl _) (@pv _ 3 _ _ rfl (.inl rfl) rfl rfl) (@pv _ 4 _ _ rfl (.inl rfl) rfl rfl) (Ju _)) (@Ji _ _ _ (@Jx _ _ 7 _ _ _ _ JaK.nd rfl (Or.inl rfl) (@Jl _ _ _ _ _ _ _ _ _ _ _ _ _ _ _ T.JjM (Jmf T) (hr.mono (by decide)) JG (@Ja _ _ _ _ _ (@pv _ 2 _ _ rfl (.inl rfl) rfl rfl) (@Jc _) rfl) rfl (by decide) rfl rfl) rfl (.inl rfl))) (@JD _)) (@Je _ _ _ _ _ (@JN _ _ _ _ _ _ _ _ (@Jq _ _ _ _ _ _ _ _ (@Yl _) (@pv _ 5 _ _ rfl (.inl rfl) rfl rfl) (@Js _ _ _ _) (Ju _)) (@Ji _ _ _ (@Jw _ _ _ _ (@Yz _ _ _ _ _ (@Ja _ _ _ _ _ (@pv _ 5 _ _ rfl (.inl rfl) rfl rfl) (@Ja _ _ _ _ _ (@Jk _ _ _ _ _ _ _ _ (@Y8 _) (@pv _ 0 _ _ rfl (.inl rfl) rfl rfl) (@pv _ 6 _ _ rfl (.inl rfl) rfl rfl)) (@Ja _ _ _ _ _ (@Jk _ _ _ _ _ _ _ _ (@JM _) (@pv _ 1 _ _ rfl (.inl rfl) rfl rfl) (@pv _ 6 _ _ rfl (.inl rfl) rfl rfl)) (@Ja _ _ _ _ _ (@pv _ 7 _ _ rfl (.inl rfl) rfl rfl) (@Jc _) rfl) rfl) rfl) rfl)))) (@JD _)) (@Ji _ _ _ (@Jw _ _ _ _ (@Yz _ _ _ _ _ (@Ja _ _ _ _ _ (@pv _ 5 _ _ rfl (.inl rfl) rfl rfl) (@Ja _ _ _ _ _ (@Jk _ _ _ _ _ _ _ _ (@JM _) (@pv _ 0 _ _ rfl (.inl rfl) rfl rfl) (@pv _ 6 _ _ rfl (.inl rfl) rfl rfl)) (@Ja _ _ _ _ _ (@Jk _ _ _ _ _ _ _ _ (@Y8 _) (@pv _ 1 _ _ rfl (.inl rfl) rfl rfl) (@pv _ 6 _ _ rfl (.inl rfl) rfl rfl)) (@Ja _ _ _ _ _ (@pv _ 7 _ _ rfl (.inl rfl) rfl rfl) (@Jc _) rfl) rfl) rfl) rfl)))))))))),?_⟩;refine ⟨_,rfl,_,rfl,_,rfl,_,rfl,_,rfl,_,_,rfl,rfl,_,rfl,?_⟩;have fin:∀ p,H p=none→Jf H (upd H p (.tup (Jff n s r b a))):=fun p hp=>Jf.upd hp
  refine Yp (fun c=>?_) (fun c=>?_)
  ·have c':a < b:=of_decide_eq_true c;refine ⟨_,rfl,r,rfl,_,rfl,_,rfl,_,rfl,rfl,_,rfl,?_⟩;refine Yq (decide_eq_false (fun z=>by cases z; omega)) ?_;refine ⟨_,rfl,rfl,_,rfl,?_⟩;rw [Jmv];have e:Jff n s r b a=if r then [.str (hs false),.int (n + b),.int (s - b),.str (hs true)] else [.str (hs true),.int (n - b),.int (s + b),.str (hs false)]:=by unfold Jff; rw [if_pos c']
   cases r with
   | true =>
    refine Y5 ⟨_,rfl,_,rfl,_,rfl,_,_,rfl,rfl,_,rfl,_,rfl,_,_,rfl,rfl,_,rfl,by show 4≤sizeLine; decide,fun p hp=>q p _ (Jf.upd hp) ?_⟩;rw [Jh,e]; rfl
   | false =>
    refine Y0 ⟨_,rfl,_,rfl,_,rfl,_,_,rfl,rfl,_,rfl,_,rfl,_,_,rfl,rfl,_,rfl,by show 4≤sizeLine; decide,fun p hp=>q p _ (Jf.upd hp) ?_⟩;rw [Jh,e]; rfl
  ·have c':¬ a < b:=fun z=>c (decide_eq_true z)
   refine ⟨_,rfl,_,rfl,rfl,_,rfl,?_⟩;refine Yp (fun d=>?_) (fun d=>?_)
   ·have d':b=a:=by have z:=of_decide_eq_true d; cases z; rfl
    refine ⟨_,rfl,r,rfl,_,rfl,rfl,_,rfl,?_⟩;rw [Jmv];have e:Jff n s r b a=if r then [.str (hs true),.int (n - a),.int (s + a),.str (hs false)] else [.str (hs false),.int (n + a),.int (s - a),.str (hs true)]:=by
     unfold Jff; rw [if_neg (by omega),if_neg (by omega)]
    cases r with
    | true =>
     refine Y0 ⟨_,rfl,_,rfl,_,rfl,_,_,rfl,rfl,_,rfl,_,rfl,_,_,rfl,rfl,_,rfl,by show 4≤sizeLine; decide,fun p hp=>q p _ (Jf.upd hp) ?_⟩;rw [Jh,e]; rfl
    | false =>
     refine Y5 ⟨_,rfl,_,rfl,_,rfl,_,_,rfl,rfl,_,rfl,_,rfl,_,_,rfl,rfl,_,rfl,by show 4≤sizeLine; decide,fun p hp=>q p _ (Jf.upd hp) ?_⟩;rw [Jh,e]; rfl
   ·have d':¬ b=a:=fun z=>d (decide_eq_true (by rw [z]))
    refine ⟨_,rfl,rfl,_,rfl,?_⟩;rw [Jmv];have e:Jff n s r b a=if r then [.str (hs true),.int (n - a),.int (s + a),.str (hs true)] else [.str (hs false),.int (n + a),.int (s - a),.str (hs false)]:=by
     unfold Jff; rw [if_neg (by omega),if_pos (by omega)]
    cases r with
    | true =>
     refine Y0 ⟨_,rfl,_,rfl,_,rfl,_,_,rfl,rfl,_,rfl,_,rfl,_,_,rfl,rfl,_,rfl,by show 4≤sizeLine; decide,fun p hp=>q p _ (Jf.upd hp) ?_⟩;rw [Jh,e]; rfl
    | false =>
     refine Y5 ⟨_,rfl,_,rfl,_,rfl,_,_,rfl,rfl,_,rfl,_,rfl,_,_,rfl,rfl,_,rfl,by show 4≤sizeLine; decide,fun p hp=>q p _ (Jf.upd hp) ?_⟩;rw [Jh,e]; rfl
def Jgt (zs:List (Str×Str)) (gs:List Str) (c:Int) (m:Nat) (p:Str) (n:Int) (r h:Bool):List Str:=(Jy zs p).filter fun w=>decide (JO zs gs c m w r≤n) == h
def Yi (zs:List (Str×Str)) (gs:List Str) (c:Int) (m:Nat) (p:Str) (n:Int) (r:Bool) (b:Int) (k:Nat):List Int:=((List.range k).map fun (i:Nat)=>(i:Int)).filter fun a=>ZI (Jy zs) (gB gs) c m p n r b a
theorem JnY {zs:List (Str×Str)} {gs:List Str} {c:Int} {m:Nat} {p:Str} {n:Int} {r h:Bool}:(!(Jgt zs gs c m p n r h).isEmpty)=(JaX (Jy zs) (gB gs) c m p n r h).isSome:=by
 unfold Jgt JaX;rw [Bool.eq_iff_iff,List.find?_isSome,Bool.not_eq_true',List.isEmpty_eq_false_iff_exists_mem];constructor
 ·rintro ⟨w,hw⟩;exact ⟨w,(List.mem_filter.mp hw).1,(List.mem_filter.mp hw).2⟩
 ·rintro ⟨w,h1,h2⟩;exact ⟨w,List.mem_filter.mpr ⟨h1,h2⟩⟩
theorem Jfe {zs:List (Str×Str)} {gs:List Str} {c:Int} {m:Nat} {p:Str} {n:Int} {r:Bool} {b:Int} {k:Nat} {a:Int}:a∈Yi zs gs c m p n r b k↔(0≤a∧a < k)∧ZI (Jy zs) (gB gs) c m p n r b a=true:=by
 unfold Yi;rw [List.mem_filter,List.mem_map];constructor
 ·rintro ⟨⟨i,hi,rfl⟩,h⟩;have:=List.mem_range.mp hi;exact ⟨⟨by omega,by omega⟩,h⟩
 ·rintro ⟨⟨h0,h1⟩,h⟩;exact ⟨⟨a.toNat,List.mem_range.mpr (by omega),by omega⟩,h⟩
theorem Jj6 {zs:List (Str×Str)} {gs:List Str} {c:Int} {m:Nat} {p:Str} {n:Int} {r:Bool} {b:Int} {k:Nat}:(Yi zs gs c m p n r b k).Pairwise (· < ·):=by
 unfold Yi;refine List.Pairwise.filter _ ?_;rw [List.pairwise_map];exact List.Pairwise.imp (fun {a b} (h:a < b)=>by omega) List.pairwise_lt_range
def Jt6:List Int→V
 | []=>.non
 | x :: _=>.int x
theorem Jl2 {zs:List (Str×Str)} {gs:List Str} {c:Int} {m:Nat} {p:Str} {n:Int} {r:Bool} {b:Int} {k:Nat} (hw:Jy zs p≠[]) (hb:0≤b) (ho:0≤own c n r) (hk:(k:Int)=own c n r + 1):Jt6 (Yi zs gs c m p n r b k)=JuL (JcI (Jy zs) (gB gs) c m p n r b):=by
 cases ha:JcI (Jy zs) (gB gs) c m p n r b with
 | none =>
  cases hl:Yi zs gs c m p n r b k with
  | nil=>rfl
  | cons x l =>
   have hx:x∈Yi zs gs c m p n r b k:=by rw [hl]; exact List.mem_cons_self ..
   obtain ⟨⟨x0,x1⟩,h⟩:=Jfe.mp hx;obtain ⟨a',h1,_⟩:=JjD hw hb x0 (by omega) h;rw [ha] at h1; cases h1
 | some a =>
  obtain ⟨a0,a1,h,_⟩:=Jp1 hb ho ha;have hm:a∈Yi zs gs c m p n r b k:=Jfe.mpr ⟨⟨a0,by omega⟩,h⟩;have hs:=Jj6 (zs:=zs) (gs:=gs) (c:=c) (m:=m) (p:=p) (n:=n) (r:=r) (b:=b) (k:=k);cases hl:Yi zs gs c m p n r b k with
  | nil=>rw [hl] at hm; cases hm
  | cons x l =>
   rw [hl] at hm hs;have hx:x∈Yi zs gs c m p n r b k:=by rw [hl]; exact List.mem_cons_self ..
   obtain ⟨⟨x0,x1⟩,h'⟩:=Jfe.mp hx;obtain ⟨a',h1,h2⟩:=JjD hw hb x0 (by omega) h';rw [ha] at h1;cases h1;rcases List.mem_cons.mp hm with e | e
   ·subst e; rfl
   ·have:=(List.pairwise_cons.mp hs).1 a e;exact absurd h2 (by omega)
theorem Jh3 {zs:List (Str×Str)} {gs:List Str} {c:Int} {m:Nat} {p:Str} {n:Int} {r:Bool} {b:Int} {k:Nat} (hw:Jy zs p≠[]) (hb:0≤b) (ho:0≤own c n r) (hk:(k:Int)=own c n r + 1):(Yi zs gs c m p n r b k).isEmpty=(JcI (Jy zs) (gB gs) c m p n r b).isNone:=by
 have h:=Jl2 (zs:=zs) (gs:=gs) (m:=m) hw hb ho hk;cases hl:Yi zs gs c m p n r b k <;> cases ha:JcI (Jy zs) (gB gs) c m p n r b <;> rw [hl,ha] at h <;> first | rfl | (cases h)
structure BG (K:PySem.W.Frag) (C CB:Addr) (H:Hp) (k b t:Addr) (ps:List Str) (zs:List (V×(Str×Str))) (gs ps':List Str) (zs':List (V×(Str×Str))) (gs':List Str) (c:Int) (T:Nat):Prop where
 G:Ground K H t ps zs gs
 B:Bk K C CB H k b ps' zs' gs' c T (T + 1)
 pp:ps'.Perm ps
 zp:zs'.Perm zs
 gp:gs'.Perm gs
 zo:(zs'.map (·.2)).Pairwise ple
theorem BG.same {K:PySem.W.Frag} {C CB:Addr} {H H':Hp} {k b t:Addr} {ps:List Str} {zs:List (V×(Str×Str))} {gs ps':List Str} {zs':List (V×(Str×Str))} {gs':List Str} {c:Int} {T:Nat} (h:BG K C CB H k b t ps zs gs ps' zs' gs' c T) (e:Jf H H'):BG K C CB H' k b t ps zs gs ps' zs' gs' c T:=⟨h.G.same e,h.B.same e,h.pp,h.zp,h.gp,h.zo⟩
def Yw (p:Str) (i:Nat) (n:Int) (r:Bool):List JP:=[.inr p,.inl (i:Int),.inl n,.inr (hs r)]
theorem Jmn {p q:Str} {i j:Nat} {n k:Int} {r s:Bool} (h:Yw p i n r=Yw q j k s):p=q∧i=j∧n=k∧r=s:=by
 unfold Yw at h;injection h with h1 h;injection h with h2 h;injection h with h3 h;injection h with h4 h;exact ⟨Sum.inr.inj h1,by have:=Sum.inl.inj h2; omega,Sum.inl.inj h3,JfF (Sum.inr.inj h4)⟩
def Jf0 (zs:List (Str×Str)) (gs:List Str) (c:Int) (i:Nat) (p:Str) (n:Int) (r:Bool):V:=.str (hs (decide (JO zs gs c i p r≤n)))
structure MD (K:PySem.W.Frag) (H:Hp) (d t:Addr) (ps:List Str) (zs:List (V×(Str×Str))) (gs:List Str) (zs':List (V×(Str×Str))) (gs':List Str) (c:Int) (m:Nat):Prop where
 G:Ground K H t ps zs gs
 zp:zs'.Perm zs
 gp:gs'.Perm gs
 zo:(zs'.map (·.2)).Pairwise ple
 at_:∃ kvs,H d=some (.dT kvs)∧∀ p∈ps,∀ n,0≤n→n≤c→∀ r,Yd kvs (Yw p m n r)=some (Jf0 (zs'.map (·.2)) gs' c m p n r)
theorem MD.same {K:PySem.W.Frag} {H H':Hp} {d t:Addr} {ps:List Str} {zs:List (V×(Str×Str))} {gs:List Str} {zs':List (V×(Str×Str))} {gs':List Str} {c:Int} {m:Nat} (h:MD K H d t ps zs gs zs' gs' c m) (e:Jf H H'):MD K H' d t ps zs gs zs' gs' c m:=⟨h.G.same e,h.zp,h.gp,h.zo,let ⟨kvs,h1,h2⟩:=h.at_; ⟨kvs,e _ _ h1,h2⟩⟩
def JoW (K:PySem.W.Frag):Sp:=fun vs H Q _=>∃ (d t tt:Addr) (p:Str) (m:Nat) (n:Int) (r h:Bool) (ps:List Str) (zs:List (V×(Str×Str))) (gs:List Str) (zs':List (V×(Str×Str))) (gs':List Str) (c:Int),vs=[.ref t,.ref d,.ref tt,.str (hs h)]∧H tt=some (.tup [.str p,.int ((m:Int) + 1),.int n,.str (hs r)])∧MD K H d t ps zs gs zs' gs' c m∧(0≤n∧n≤c)∧∀ l H',Jf H H'→H' l=some (.lst ((Jgt (zs'.map (·.2)) gs' c m p n r h).map V.str))→Q (.ref l) H'
def Jm3 (K:PySem.W.Frag):Sp:=fun vs H Q _=>∃ (d t tt:Addr) (p:Str) (m:Nat) (n bid:Int) (r:Bool) (ps:List Str) (zs:List (V×(Str×Str))) (gs:List Str) (zs':List (V×(Str×Str))) (gs':List Str) (c:Int),vs=[.ref t,.int c,.ref d,.ref tt,.int bid]∧H tt=some (.tup [.str p,.int ((m:Int) + 1),.int n,.str (hs r)])∧MD K H d t ps zs gs zs' gs' c m∧c≤20∧(0≤n∧n≤c)∧(0≤bid∧bid≤own c n (!r))∧∀ l H',Jf H H'→H' l=some (.lst ((Yi (zs'.map (·.2)) gs' c m p n r bid ((own c n r).toNat + 1)).map V.int))→Q (.ref l) H'
def ZS (zs:List (Str×Str)) (gs:List Str) (c:Int) (m:Nat) (p:Str) (n:Int) (r:Bool) (k:Nat):List Int:=((List.range k).map fun (i:Nat)=>(i:Int)).filter fun b=>(Yi zs gs c m p n r b ((own c n r).toNat + 1)).isEmpty
theorem JkZ {zs:List (Str×Str)} {gs:List Str} {c:Int} {m:Nat} {p:Str} {n:Int} {r:Bool} {k:Nat} {b:Int}:b∈ZS zs gs c m p n r k↔(0≤b∧b < k)∧(Yi zs gs c m p n r b ((own c n r).toNat + 1)).isEmpty=true:=by
 unfold ZS;rw [List.mem_filter,List.mem_map];constructor
 ·rintro ⟨⟨i,hi,rfl⟩,h⟩;have:=List.mem_range.mp hi;exact ⟨⟨by omega,by omega⟩,h⟩
 ·rintro ⟨⟨h0,h1⟩,h⟩;exact ⟨⟨b.toNat,List.mem_range.mpr (by omega),by omega⟩,h⟩
theorem Jnb {zs:List (Str×Str)} {gs:List Str} {c:Int} {m:Nat} {p:Str} {n:Int} {r:Bool} (he:¬ Jc9 zs gs (m + 1) p) (c0:0≤c) (hn:0≤n∧n≤c):(ZS zs gs c m p n r ((own c n (!r)).toNat + 1)).isEmpty=(decide (JO zs gs c (m + 1) p r≤n) == r):=by
 have hg:gB gs p=false:=decide_eq_false fun h=>he (.inl h)
 have hw:Jy zs p≠[]:=fun h=>he (.inr (.inr h))
 have ho:∀ r,0≤own c n r:=fun r=>by unfold own; cases r <;> simp <;> omega
 have o1:=ho r;have o2:=ho (!r);by_cases h:decide (JO zs gs c (m + 1) p r≤n)=!r
 ·obtain ⟨b0,b1,b2⟩:=Jrh hg hw c0 hn.1 hn.2 h;have hm:JcH (Jy zs) (gB gs) c m p n r∈ZS zs gs c m p n r ((own c n (!r)).toNat + 1):=JkZ.mpr ⟨⟨b0,by omega⟩,by rw [Jh3 hw b0 o1 (by omega),b2]; rfl⟩;rw [h];cases hl:ZS zs gs c m p n r ((own c n (!r)).toNat + 1) with
  | nil=>rw [hl] at hm; cases hm
  | cons x l=>cases r <;> rfl
 ·have e:decide (JO zs gs c (m + 1) p r≤n)=r:=by cases r <;> cases hd:decide (JO zs gs c (m + 1) p _≤n) <;> first | rfl | (rw [hd] at h; exact absurd rfl h)
  rw [e];cases hl:ZS zs gs c m p n r ((own c n (!r)).toNat + 1) with
  | nil=>cases r <;> rfl
  | cons x l =>
   have hx:x∈ZS zs gs c m p n r ((own c n (!r)).toNat + 1):=by rw [hl]; exact List.mem_cons_self ..
   obtain ⟨⟨x0,x1⟩,hx2⟩:=JkZ.mp hx;rw [Jh3 hw x0 o1 (by omega)] at hx2;exact absurd (JpY hg hw c0 hn.1 hn.2 x0 (by omega) (Option.isNone_iff_eq_none.mp hx2)).1 h
def Jqp (K:PySem.W.Frag):Sp:=fun vs H Q _=>∃ (d t tt:Addr) (p:Str) (m:Nat) (n:Int) (r:Bool) (ps:List Str) (zs:List (V×(Str×Str))) (gs:List Str) (zs':List (V×(Str×Str))) (gs':List Str) (c:Int),vs=[.ref t,.int c,.ref d,.ref tt]∧H tt=some (.tup [.str p,.int ((m:Int) + 1),.int n,.str (hs r)])∧MD K H d t ps zs gs zs' gs' c m∧c≤20∧(0≤n∧n≤c)∧∀ l H',Jf H H'→H' l=some (.lst ((ZS (zs'.map (·.2)) gs' c m p n r ((own c n (!r)).toNat + 1)).map V.int))→Q (.ref l) H'
def Jqj (K:PySem.W.Frag):Sp:=fun vs H Q _=>∃ (t:Addr) (T:Nat) (ps:List Str) (zs:List (V×(Str×Str))) (gs:List Str) (zs':List (V×(Str×Str))) (gs':List Str) (c:Int),vs=[.ref t,.int c,.int (T:Int)]∧T≤30∧0≤c∧c≤20∧Ground K H t ps zs gs∧zs'.Perm zs∧gs'.Perm gs∧(zs'.map (·.2)).Pairwise ple∧∀ d H',Jf H H'→(∃ kvs,H' d=some (.dT kvs)∧∀ i,i≤T→∀ p∈ps,∀ n,0≤n→n≤c→∀ r,Yd kvs (Yw p i n r)=some (Jf0 (zs'.map (·.2)) gs' c i p n r))→Q (.ref d) H'
theorem Jlk (T:Txt K mg):JL P w K mg base YK 2 T.JeC T.Jdl ["_law_ground", "_law_wins", "_law_at_here", "_law_hand_here"] (JoW K):=by
 refine T.JeP.F.ok Jao (fun vs H Q E h=>?_) (fun cdv A outer s H vs Q E hr h=>?_)
 ·obtain ⟨_,_,_,_,_,_,_,_,_,_,_,_,_,_,rfl,_⟩:=h;rfl
 ·obtain ⟨d,t,tt,p,m,n,r,h,ps,zs,gs,zs',gs',c,rfl,htt,B,hn,q⟩:=h;have hu:=Ja1 hr;refine ⟨_,(@Je _ _ _ _ _ (@JgG _ _ _ _ _ _ (@pv _ 2 _ _ rfl (.inl rfl) rfl rfl) (@JfC _ _ _ _ _ _ rfl (@Yy _ _ _ _ _ (@JS _ _ 4 _ Jao.nd rfl (Or.inl rfl) (.inl rfl)) (@Yy _ _ _ _ _ (@JS _ _ 5 _ Jao.nd rfl (Or.inr rfl) (by first | exact .inl rfl | exact .inr rfl | assumption)) (@Yy _ _ _ _ _ (@JS _ _ 6 _ Jao.nd rfl (Or.inr rfl) (by first | exact .inl rfl | exact .inr rfl | assumption)) (@Yy _ _ _ _ _ (@JS _ _ 7 _ Jao.nd rfl (Or.inr rfl) (by first | exact .inl rfl | exact .inr rfl | assumption)) (@JdT _) rfl) rfl) rfl) rfl) rfl rfl) rfl rfl rfl) (@Ji _ _ _ (@Jw _ _ _ _ (@JeU _ _ _ _ _ _ _ 1 ["_law_w", "_law_hand_here", "_law_wins", "_law_north", "_law_ribbon", "_law_left"] [3,1,6,7,5] _ _ _ _ ["_law_ground", "_law_wins", "_law_at_here", "_law_hand_here", "_law_place", "_law_left", "_law_north", "_law_ribbon"] ((Jm JbO).names) (by decide +kernel) (@Zn _ _ _ _ (@Jl _ _ _ _ _ _ _ _ _ _ _ _ _ _ _ T.JjI (Jnw T) (hr.mono (by decide)) JG (@Ja _ _ _ _ _ (@pv _ 0 _ _ rfl (.inl rfl) rfl rfl) (@Ja _ _ _ _ _ (@pv _ 4 _ _ rfl (.inl rfl) rfl rfl) (@Jc _) rfl) rfl) rfl (by decide) rfl rfl)) (fun _ _ _ _=>(@Zr _ _ _ _ _ _ _ _ _ 0 (by decide +kernel) rfl rfl)) (fun _ _ _ _=>(@Jcs _ _ _ (@Jq _ _ _ _ _ _ _ _ (@Yl _) (@Jac _ _ _ _ _ _ hu (@Yn _ _ _ _ _ _ _ _ _ 2 rfl rfl (by decide) (by decide)) (@Yz _ _ _ _ _ (@Ja _ _ _ _ _ (@YT _ _ _ _ _ _ _ _ _ 0 rfl rfl (by decide) (by decide)) (@Ja _ _ _ _ _ (@Jk _ _ _ _ _ _ _ _ (@Y8 _) (@Yn _ _ _ _ _ _ _ _ _ 5 rfl rfl (by decide) (by decide)) (@Jd _ _ _ _)) (@Ja _ _ _ _ _ (@Yn _ _ _ _ _ _ _ _ _ 3 rfl rfl (by decide) (by decide)) (@Ja _ _ _ _ _ (@Yn _ _ _ _ _ _ _ _ _ 4 rfl rfl (by decide) (by decide)) (@Jc _) rfl) rfl) rfl) rfl)) (fun _ _=>rfl)) (@Yn _ _ _ _ _ _ _ _ _ 1 rfl rfl (by decide) (by decide)) (Ju _)))) (fun _ _ _ _=>(@YT _ _ _ _ _ _ _ _ _ 0 rfl rfl (by decide) (by decide))) rfl rfl rfl (by intro _; rfl))))),?_⟩;obtain ⟨kvs,k1,k2⟩:=B.at_;refine ⟨_,rfl,tt,_,rfl,JX.of htt,rfl,_,_,rfl,_,_,rfl,_,_,rfl,_,_,rfl,rfl,?_⟩;refine ⟨_,rfl,_,rfl,t,p,ps,zs,gs,rfl,B.G,fun lw ws H1 e1 hlw wp wsrt=>?_⟩;obtain rfl:=Jp8 B.zo (B.zp.map _) wp wsrt;have hwl:(Jy (zs'.map (·.2)) p).length≤40:=by rw [(JdL (B.zp.map (·.2)) p).length_eq]; exact Jgs B.G.good p
  refine ⟨lw,rfl,⟨_,Jp.of hlw⟩,fun D hD=>?_⟩;refine Jhj (xs:=(Jy (zs'.map (·.2)) p).map V.str) (fun i ys H2=>Jf H1 H2∧H2 D=some (.lst ys)∧ys=(((Jy (zs'.map (·.2)) p).take i).filter fun w=>decide (JO (zs'.map (·.2)) gs' c m w r≤n) == h).map V.str) rfl (fun i ys H2 z=>Jp.of (z.1 _ _ hlw)) ⟨Jf.upd hD,Jh,by simp⟩ (fun i ys H2 z=>z.2.1) ?_ ?_
  ·rintro i x ys H2 hx ⟨e2,hy,rfl⟩;rw [List.getElem?_map] at hx;obtain ⟨w',hw1,rfl⟩:=Option.map_eq_some_iff.mp hx;have hin:w'∈ps:=JjO B.G.good ((JdL (B.zp.map (·.2)) p).mem_iff.mp (List.mem_of_getElem? hw1));have e12:=e1.trans e2;refine ⟨_,rfl,_,rfl,_,rfl,_,_,rfl,rfl,_,rfl,_,rfl,by show 4≤sizeLine; decide,fun t4 n4=>?_⟩;have em1:(m:Int) + 1 - 1=(m:Int):=by omega
   have e3:=Jf.upd (o:=.tup [.str w',.int ((m:Int) + 1 - 1),.int n,.str (hs r)]) n4;have g:=ZB.t (k:=Yw w' m n r) (e3 _ _ (e12 _ _ k1)) (show upd H2 t4 (.tup [.str w',.int ((m:Int) + 1 - 1),.int n,.str (hs r)]) t4=some (.tup ((Yw w' m n r).map kV)) by rw [Jh,em1]; rfl);rw [k2 w' hin n hn.1 hn.2 r] at g;refine ⟨d,_,rfl,g,?_⟩;unfold Jf0;have tk:(((Jy (zs'.map (·.2)) p).take (i + 1)).filter fun w=>decide (JO (zs'.map (·.2)) gs' c m w r≤n) == h)=(((Jy (zs'.map (·.2)) p).take i).filter fun w=>decide (JO (zs'.map (·.2)) gs' c m w r≤n) == h) ++ (if (decide (JO (zs'.map (·.2)) gs' c m w' r≤n) == h)=true then [w'] else []):=by
    rw [List.take_succ,hw1,List.filter_append];congr 1;cases hf:decide (JO (zs'.map (·.2)) gs' c m w' r≤n) == h <;> simp [hf]
   refine ⟨_,rfl,rfl,_,rfl,?_⟩;cases hd:decide (JO (zs'.map (·.2)) gs' c m w' r≤n) == h with
   | true =>
    rw [hd,if_pos rfl] at tk;have hd':decide (JO (zs'.map (·.2)) gs' c m w' r≤n)=h:=by simpa using hd
    rw [hd'];refine Zc (decide_eq_true rfl) ⟨_,rfl,e3 _ _ hy,?_,fun b' u e=>?_,Jh,?_⟩
    ·rw [List.length_map];refine Nat.lt_of_le_of_lt (List.length_filter_le _ _) ?_;rw [List.length_take];exact Nat.lt_of_le_of_lt (Nat.min_le_right _ _) (Nat.lt_of_le_of_lt hwl (by decide))
    ·rw [Jz (JA e hD)]; exact e3 _ _ (e2 b' u e)
    ·rw [tk,List.map_append]; rfl
   | false =>
    rw [hd,if_neg Bool.false_ne_true,List.append_nil] at tk;refine Yq (decide_eq_false fun z=>?_) ⟨e2.trans e3,e3 _ _ hy,by rw [tk]⟩;rw [JfF (V.str.inj z)] at hd;simp at hd
  ·rintro ys H2 ⟨e2,hy,rfl⟩;rw [List.length_map,List.take_length] at hy;exact q D H2 (e1.trans e2) hy
theorem Ji9 (T:Txt K mg):JL P w K mg base YK 3 T.JcE T.Jb6 ["_law_ground", "_law_total", "_law_wins", "_law_at_here", "_law_bid"] (Jm3 K):=by
 refine T.JcK.F.ok Ym (fun vs H Q E h=>?_) (fun cdv A outer s H vs Q E hr h=>?_)
 ·obtain ⟨_,_,_,_,_,_,_,_,_,_,_,_,_,_,rfl,_⟩:=h;rfl
 ·obtain ⟨d,t,tt,p,m,n,bid,r,ps,zs,gs,zs',gs',c,rfl,htt,B,c1,hn,hb,q⟩:=h;have szl:sizeLine=16777216:=sizeLine_eq;refine ⟨_,(@Je _ _ _ _ _ (@JgG _ _ _ _ _ _ (@pv _ 3 _ _ rfl (.inl rfl) rfl rfl) (@JfC _ _ _ _ _ _ rfl (@Yy _ _ _ _ _ (@JS _ _ 5 _ Ym.nd rfl (Or.inl rfl) (.inl rfl)) (@Yy _ _ _ _ _ (@JS _ _ 6 _ Ym.nd rfl (Or.inl rfl) (.inl rfl)) (@Yy _ _ _ _ _ (@JS _ _ 7 _ Ym.nd rfl (Or.inl rfl) (.inl rfl)) (@Yy _ _ _ _ _ (@JS _ _ 8 _ Ym.nd rfl (Or.inl rfl) (.inl rfl)) (@JdT _) rfl) rfl) rfl) rfl) rfl rfl) rfl rfl rfl) (@Je _ _ _ _ _ (@Jx _ _ 9 _ _ _ _ Ym.nd rfl (Or.inl rfl) (@J7 _ _ _ _ (@Jc _)) rfl (.inl rfl)) (@Je _ _ _ _ _ (@YH _ _ _ _ _ _ _ _ PassesOwn.never rfl (@Yx _ _ _ _ _ _ rfl T.YM (@Ja _ _ _ _ _ (@Jk _ _ _ _ _ _ _ _ (@JM _) (@Jr _ _ _ _ _ _ _ (@JE _) (@J7 _ _ _ _ (@Ja _ _ _ _ _ (@pv _ 7 _ _ rfl (.inl rfl) rfl rfl) (@Ja _ _ _ _ _ (@Jk _ _ _ _ _ _ _ _ (@Y8 _) (@pv _ 1 _ _ rfl (.inl rfl) rfl rfl) (@pv _ 7 _ _ rfl (.inl rfl) rfl rfl)) (@Jc _) rfl) rfl)) (@Y2 _ _ _ _ _ _ _ _ _ (@JbL _) rfl T.JeV PyProof.Rows.boot_int (@Ja _ _ _ _ _ (@ZF _ _ _ _ _ _ _ _ (@Yl _) (@pv _ 8 _ _ rfl (.inl rfl) rfl rfl) (@Js _ _ _ _) (Ju _)) (@Jc _) rfl) (by decide) (by decide) rfl rfl) (fun _ _=>rfl)) (@Jd _ _ _ _)) (@Jc _) rfl) rfl) (@JS _ _ 10 _ Ym.nd rfl (Or.inl rfl) (.inl rfl)) (@Je _ _ _ _ _ (@JgG _ _ _ _ _ _ (@Jl _ _ _ _ _ _ _ _ _ _ _ _ _ _ _ T.JiR (Jpj T) (hr.mono (by decide)) JG (@Ja _ _ _ _ _ (@pv _ 7 _ _ rfl (.inl rfl) rfl rfl) (@Ja _ _ _ _ _ (@Jk _ _ _ _ _ _ _ _ (@Y8 _) (@pv _ 1 _ _ rfl (.inl rfl) rfl rfl) (@pv _ 7 _ _ rfl (.inl rfl) rfl rfl)) (@Ja _ _ _ _ _ (@pv _ 8 _ _ rfl (.inl rfl) rfl rfl) (@Ja _ _ _ _ _ (@pv _ 4 _ _ rfl (.inl rfl) rfl rfl) (@Ja _ _ _ _ _ (@pv _ 10 _ _ rfl (.inl rfl) rfl rfl) (@Jc _) rfl) rfl) rfl) rfl) rfl) rfl (by decide) rfl rfl) (@JfC _ _ _ _ _ _ rfl (@Yy _ _ _ _ _ (@JS _ _ 11 _ Ym.nd rfl (Or.inl rfl) (.inl rfl)) (@Yy _ _ _ _ _ (@JS _ _ 12 _ Ym.nd rfl (Or.inl rfl) (.inl rfl)) (@Yy _ _ _ _ _ (@JS _ _ 13 _ Ym.nd rfl (Or.inl rfl) (.inl rfl)) (@Yy _ _ _ _ _ (@JS _ _ 14 _ Ym.nd rfl (Or.inl rfl) (.inl rfl)) (@JdT _) rfl) rfl) rfl) rfl) rfl rfl) rfl rfl rfl) (@Je _ _ _ _ _ (@Jx _ _ 15 _ _ _ _ Ym.nd rfl (Or.inl rfl) (@Jl _ _ _ _ _ _ _ _ _ _ _ _ _ _ _ T.JeP (Jlk T) (hr.mono (by decide)) JG (@Ja _ _ _ _ _ (@pv _ 0 _ _ rfl (.inl rfl) rfl rfl) (@Ja _ _ _ _ _ (@pv _ 2 _ _ rfl (.inl rfl) rfl rfl) (@Ja _ _ _ _ _ (@Yz _ _ _ _ _ (@Ja _ _ _ _ _ (@pv _ 5 _ _ rfl (.inl rfl) rfl rfl) (@Ja _ _ _ _ _ (@pv _ 6 _ _ rfl (.inl rfl) rfl rfl) (@Ja _ _ _ _ _ (@pv _ 12 _ _ rfl (.inl rfl) rfl rfl) (@Ja _ _ _ _ _ (@pv _ 14 _ _ rfl (.inl rfl) rfl rfl) (@Jc _) rfl) rfl) rfl) rfl)) (@Ja _ _ _ _ _ (@pv _ 11 _ _ rfl (.inl rfl) rfl rfl) (@Jc _) rfl) rfl) rfl) rfl) rfl (by decide) rfl rfl) rfl (.inl rfl)) (@Ji _ _ _ (@Yj _ _ _ (@JN _ _ _ _ _ _ _ _ (@Jq _ _ _ _ _ _ _ _ (@Yl _) (@ZF _ _ _ _ _ _ _ _ (@JqO _ hr.units0) (@pv _ 15 _ _ rfl (.inl rfl) rfl rfl) (@J7 _ _ _ _ (@Jc _)) (Ju _)) (@ZF _ _ _ _ _ _ _ _ (@Yl _) (@pv _ 11 _ _ rfl (.inl rfl) rfl rfl) (@pv _ 8 _ _ rfl (.inl rfl) rfl rfl) (Ju _)) (Ju _)) (@Ji _ _ _ (@JW _ _ _ _ (@Jbl _ _ _ _ _ _ _ _ _ _ _ _ PySem.F.plainAttrs_list PySem.F.slot_list_append PySem.F.type_list_append (@Zg _) (@pv _ 9 _ _ rfl (.inl rfl) rfl rfl) (@Ja _ _ _ _ _ (@pv _ 10 _ _ rfl (.inl rfl) rfl rfl) (@Jc _) rfl) rfl rfl rfl rfl rfl) rfl)) (@JD _)))))) (by intro _; rfl)) (@Ji _ _ _ (@Jw _ _ _ _ (@pv _ 9 _ _ rfl (.inl rfl) rfl rfl)))))),?_⟩;have ho:0≤own c n r∧own c n r≤20:=by unfold own; cases r <;> simp <;> omega
  refine ⟨_,rfl,tt,_,rfl,JX.of htt,rfl,_,_,rfl,_,_,rfl,_,_,rfl,_,_,rfl,rfl,?_⟩;refine ⟨by show 0≤sizeLine; decide,fun lf nf=>?_⟩;have eF:Jf H (upd H lf (.lst [])):=Jf.upd nf;have hF:upd H lf (.lst []) lf=some (.lst []):=Jh;have keep:∀ {H2:Hp} {o:HO},Jf H H2→Jf H (upd H2 lf o):=fun e b' u h=>by rw [Jz (JA h nf)]; exact e b' u h
  generalize upd H lf (.lst [])=H1 at eF hF;refine ⟨_,rfl,_,rfl,_,rfl,_,_,rfl,rfl,by show 2≤sizeLine; decide,fun l2 n2=>?_⟩;have e2:=eF.trans (Jf.upd (o:=.lst [.int n,.int (c - n)]) n2);have pk:atI [V.int n,V.int (c - n)] (if decide (V.str (hs r)=V.str "south")=true then 1 else 0)=some (.int (own c n r)):=by cases r <;> rfl
  refine ⟨_,rfl,rfl,.inr ⟨_,rfl,l2,_,_,_,rfl,rfl,Jp.of Jh,pk,_,_,rfl,rfl,own c n r + 1,rfl,by omega,by omega,?_⟩⟩;rw [show (own c n r + 1).toNat=(own c n r).toNat + 1 by omega];refine YU (n:=(own c n r).toNat + 1) (fun i σ H3=>Jf H H3∧H3 lf=some (.lst ((Yi (zs'.map (·.2)) gs' c m p n r bid i).map V.int))∧∃ v10 v11 v12 v13 v14 v15,σ=[some (.ref t),some (.int c),some (.ref d),some (.ref tt),some (.int bid),some (.str p),some (.int ((m:Int) + 1)),some (.int n),some (.str (hs r)),some (.ref lf),v10,v11,v12,v13,v14,v15]) ⟨e2,(by rw [(Jf.upd n2) _ _ hF]; rfl),_,_,_,_,_,_,rfl⟩ ?_ ?_
  ·rintro i σ H3 hi ⟨e3,hf3,v10,v11,v12,v13,v14,v15,rfl⟩;have ha0:0≤0 + (i:Int):=by omega
   have ha1:0 + (i:Int)≤own c n r:=by omega
   refine ⟨_,rfl,_,rfl,_,rfl,_,_,rfl,rfl,_,rfl,_,rfl,_,rfl,n,c - n,bid,0 + (i:Int),r,rfl,fun tu H4 e4 htu=>?_⟩;obtain ⟨s',hs'⟩:=Joe n (c - n) r bid (0 + (i:Int));rw [hs'] at htu;have ab:=Jrk (r:=r) hn hb.1 hb.2 ha0 ha1;refine ⟨tu,_,rfl,JX.of htu,rfl,_,_,rfl,_,_,rfl,_,_,rfl,_,_,rfl,rfl,?_⟩;refine ⟨_,rfl,_,rfl,_,rfl,_,rfl,_,rfl,_,rfl,by show 4≤sizeLine; decide,fun t5 n5=>?_⟩;have e5:=(e3.trans e4).trans (Jf.upd (o:=.tup [.str p,.int ((m:Int) + 1),.int (after n r bid (0 + (i:Int))).2.1,.str (hs (after n r bid (0 + (i:Int))).2.2)]) n5);refine ⟨_,rfl,d,t,t5,p,m,_,_,_,ps,zs,gs,zs',gs',c,rfl,Jh,B.same e5,ab,fun ls H6 e6 hls=>?_⟩;have e36:=(e4.trans (Jf.upd (o:=.tup [.str p,.int ((m:Int) + 1),.int (after n r bid (0 + (i:Int))).2.1,.str (hs (after n r bid (0 + (i:Int))).2.2)]) n5)).trans e6;refine ⟨fun σ1 H8=>Jf H H8∧H8 lf=some (.lst ((Yi (zs'.map (·.2)) gs' c m p n r bid (i + 1)).map V.int))∧∃ v10 v11 v12 v13 v14 v15,σ1=[some (.ref t),some (.int c),some (.ref d),some (.ref tt),some (.int bid),some (.str p),some (.int ((m:Int) + 1)),some (.int n),some (.str (hs r)),some (.ref lf),v10,v11,v12,v13,v14,v15],?_,fun _ _ z=>z⟩;refine ⟨_,rfl,by show 0≤sizeLine; decide,fun l7 n7=>⟨ls,l7,_,rfl,rfl,Jp.of ((Jf.upd n7) _ _ hls),Jp.of Jh,_,rfl,_,rfl,rfl,rfl,_,rfl,?_⟩⟩;have e37:=e36.trans (Jf.upd (o:=.lst []) n7);have wa:decide (V.bl (!((Jgt (zs'.map (·.2)) gs' c m p (after n r bid (0 + (i:Int))).2.1 (after n r bid (0 + (i:Int))).2.2 (after n r bid (0 + (i:Int))).1).map V.str).isEmpty)=V.bl (decide (V.str (hs (after n r bid (0 + (i:Int))).1)=V.str (hs r))))=ZI (Jy (zs'.map (·.2))) (gB gs') c m p n r bid (0 + (i:Int)):=by
    unfold ZI;rw [← JnY];have e1:decide (V.str (hs (after n r bid (0 + (i:Int))).1)=V.str (hs r))=((after n r bid (0 + (i:Int))).1 == r):=by
     cases (after n r bid (0 + (i:Int))).1 <;> cases r <;> decide +kernel
    rw [e1,List.isEmpty_map];cases !(Jgt (zs'.map (·.2)) gs' c m p (after n r bid (0 + (i:Int))).2.1 (after n r bid (0 + (i:Int))).2.2 (after n r bid (0 + (i:Int))).1).isEmpty <;> cases (after n r bid (0 + (i:Int))).1 == r <;> decide
   have rs:Yi (zs'.map (·.2)) gs' c m p n r bid (i + 1)=Yi (zs'.map (·.2)) gs' c m p n r bid i ++ (if ZI (Jy (zs'.map (·.2))) (gB gs') c m p n r bid (0 + (i:Int))=true then [0 + (i:Int)] else []):=by
    unfold Yi;rw [List.range_succ,List.map_append,List.filter_append,Int.zero_add];congr 1;cases hf:ZI (Jy (zs'.map (·.2))) (gB gs') c m p n r bid (i:Int) <;> simp [hf]
   have hrl:(Yi (zs'.map (·.2)) gs' c m p n r bid i).length≤i:=by
    unfold Yi;refine Nat.le_trans (List.length_filter_le _ _) ?_;rw [List.length_map,List.length_range]; exact Nat.le_refl _
   rw [wa,rs];cases ZI (Jy (zs'.map (·.2))) (gB gs') c m p n r bid (0 + (i:Int)) with
   | true =>
    refine Y0 ⟨_,rfl,.inl ⟨rfl,_,Jp.of (e37 _ _ hf3)⟩,_,rfl,lf,_,_,rfl,rfl,e37 _ _ hf3,by rw [List.length_map]; omega,keep (e3.trans e37),?_,_,_,_,_,_,_,rfl⟩;rw [Jh,if_pos rfl,List.map_append]; rfl
   | false =>
    refine Y5 ⟨e3.trans e37,?_,_,_,_,_,_,_,rfl⟩;rw [if_neg Bool.false_ne_true,List.append_nil]; exact e37 _ _ hf3
  ·rintro σ H3 ⟨e3,hf3,v10,v11,v12,v13,v14,v15,rfl⟩;exact ⟨_,rfl,q lf H3 e3 hf3⟩
theorem Jme (T:Txt K mg):JL P w K mg base YK 4 T.Jfi T.Jev ["_law_ground", "_law_total", "_law_wins", "_law_at_here"] (Jqp K):=by
 refine T.Jfn.F.ok ZM (fun vs H Q E h=>?_) (fun cdv A outer s H vs Q E hr h=>?_)
 ·obtain ⟨_,_,_,_,_,_,_,_,_,_,_,_,_,rfl,_⟩:=h;rfl
 ·obtain ⟨d,t,tt,p,m,n,r,ps,zs,gs,zs',gs',c,rfl,htt,B,c1,hn,q⟩:=h;have szl:sizeLine=16777216:=sizeLine_eq;refine ⟨_,(@Je _ _ _ _ _ (@JgG _ _ _ _ _ _ (@pv _ 3 _ _ rfl (.inl rfl) rfl rfl) (@JfC _ _ _ _ _ _ rfl (@Yy _ _ _ _ _ (@JS _ _ 4 _ ZM.nd rfl (Or.inl rfl) (.inl rfl)) (@Yy _ _ _ _ _ (@JS _ _ 5 _ ZM.nd rfl (Or.inl rfl) (.inl rfl)) (@Yy _ _ _ _ _ (@JS _ _ 6 _ ZM.nd rfl (Or.inl rfl) (.inl rfl)) (@Yy _ _ _ _ _ (@JS _ _ 7 _ ZM.nd rfl (Or.inl rfl) (.inl rfl)) (@JdT _) rfl) rfl) rfl) rfl) rfl rfl) rfl rfl rfl) (@Je _ _ _ _ _ (@Jx _ _ 8 _ _ _ _ ZM.nd rfl (Or.inl rfl) (@J7 _ _ _ _ (@Jc _)) rfl (.inl rfl)) (@Je _ _ _ _ _ (@YH _ _ _ _ _ _ _ _ PassesOwn.never rfl (@Yx _ _ _ _ _ _ rfl T.YM (@Ja _ _ _ _ _ (@Jk _ _ _ _ _ _ _ _ (@JM _) (@Jr _ _ _ _ _ _ _ (@JE _) (@J7 _ _ _ _ (@Ja _ _ _ _ _ (@Jk _ _ _ _ _ _ _ _ (@Y8 _) (@pv _ 1 _ _ rfl (.inl rfl) rfl rfl) (@pv _ 6 _ _ rfl (.inl rfl) rfl rfl)) (@Ja _ _ _ _ _ (@pv _ 6 _ _ rfl (.inl rfl) rfl rfl) (@Jc _) rfl) rfl)) (@Y2 _ _ _ _ _ _ _ _ _ (@JbL _) rfl T.JeV PyProof.Rows.boot_int (@Ja _ _ _ _ _ (@ZF _ _ _ _ _ _ _ _ (@Yl _) (@pv _ 7 _ _ rfl (.inl rfl) rfl rfl) (@Js _ _ _ _) (Ju _)) (@Jc _) rfl) (by decide) (by decide) rfl rfl) (fun _ _=>rfl)) (@Jd _ _ _ _)) (@Jc _) rfl) rfl) (@JS _ _ 9 _ ZM.nd rfl (Or.inl rfl) (.inl rfl)) (@Ji _ _ _ (@Yj _ _ _ (@JN _ _ _ _ _ _ _ _ (@Jq _ _ _ _ _ _ _ _ (@Jef _ hr.units0) (@Jl _ _ _ _ _ _ _ _ _ _ _ _ _ _ _ T.JcK (Ji9 T) (hr.mono (by decide)) JG (@Ja _ _ _ _ _ (@pv _ 0 _ _ rfl (.inl rfl) rfl rfl) (@Ja _ _ _ _ _ (@pv _ 1 _ _ rfl (.inl rfl) rfl rfl) (@Ja _ _ _ _ _ (@pv _ 2 _ _ rfl (.inl rfl) rfl rfl) (@Ja _ _ _ _ _ (@pv _ 3 _ _ rfl (.inl rfl) rfl rfl) (@Ja _ _ _ _ _ (@pv _ 9 _ _ rfl (.inl rfl) rfl rfl) (@Jc _) rfl) rfl) rfl) rfl) rfl) rfl (by decide) rfl rfl) (@J7 _ _ _ _ (@Jc _)) (Ju _)) (@Ji _ _ _ (@JW _ _ _ _ (@Jbl _ _ _ _ _ _ _ _ _ _ _ _ PySem.F.plainAttrs_list PySem.F.slot_list_append PySem.F.type_list_append (@Zg _) (@pv _ 8 _ _ rfl (.inl rfl) rfl rfl) (@Ja _ _ _ _ _ (@pv _ 9 _ _ rfl (.inl rfl) rfl rfl) (@Jc _) rfl) rfl rfl rfl rfl rfl) rfl)) (@JD _)))) (by intro _; rfl)) (@Ji _ _ _ (@Jw _ _ _ _ (@pv _ 8 _ _ rfl (.inl rfl) rfl rfl)))))),?_⟩;have ho:0≤own c n (!r)∧own c n (!r)≤20:=by unfold own; cases r <;> simp <;> omega
  refine ⟨_,rfl,tt,_,rfl,JX.of htt,rfl,_,_,rfl,_,_,rfl,_,_,rfl,_,_,rfl,rfl,?_⟩;refine ⟨by show 0≤sizeLine; decide,fun lf nf=>?_⟩;have eF:Jf H (upd H lf (.lst [])):=Jf.upd nf;have hF:upd H lf (.lst []) lf=some (.lst []):=Jh;have keep:∀ {H2:Hp} {o:HO},Jf H H2→Jf H (upd H2 lf o):=fun e b' u h=>by rw [Jz (JA h nf)]; exact e b' u h
  generalize upd H lf (.lst [])=H1 at eF hF;refine ⟨_,rfl,_,rfl,_,_,rfl,rfl,_,rfl,by show 2≤sizeLine; decide,fun l2 n2=>?_⟩;have e2:=eF.trans (Jf.upd (o:=.lst [.int (c - n),.int n]) n2);have pk:atI [V.int (c - n),V.int n] (if decide (V.str (hs r)=V.str "south")=true then 1 else 0)=some (.int (own c n (!r))):=by cases r <;> rfl
  refine ⟨_,rfl,rfl,.inr ⟨_,rfl,l2,_,_,_,rfl,rfl,Jp.of Jh,pk,_,_,rfl,rfl,own c n (!r) + 1,rfl,by omega,by omega,?_⟩⟩;rw [show (own c n (!r) + 1).toNat=(own c n (!r)).toNat + 1 by omega];refine YU (n:=(own c n (!r)).toNat + 1) (fun i σ H3=>Jf H H3∧H3 lf=some (.lst ((ZS (zs'.map (·.2)) gs' c m p n r i).map V.int))∧∃ v9,σ=[some (.ref t),some (.int c),some (.ref d),some (.ref tt),some (.str p),some (.int ((m:Int) + 1)),some (.int n),some (.str (hs r)),some (.ref lf),v9]) ⟨e2,(by rw [(Jf.upd n2) _ _ hF]; rfl),_,rfl⟩ ?_ ?_
  ·rintro i σ H3 hi ⟨e3,hf3,v9,rfl⟩;refine ⟨fun σ1 H8=>Jf H H8∧H8 lf=some (.lst ((ZS (zs'.map (·.2)) gs' c m p n r (i + 1)).map V.int))∧∃ v9,σ1=[some (.ref t),some (.int c),some (.ref d),some (.ref tt),some (.str p),some (.int ((m:Int) + 1)),some (.int n),some (.str (hs r)),some (.ref lf),v9],?_,fun _ _ z=>z⟩;refine ⟨_,rfl,_,rfl,_,rfl,_,rfl,_,rfl,d,t,tt,p,m,n,0 + (i:Int),r,ps,zs,gs,zs',gs',c,rfl,e3 _ _ htt,B.same e3,c1,hn,⟨by omega,by omega⟩,fun ls H6 e6 hls=>?_⟩;refine ⟨by show 0≤sizeLine; decide,fun l7 n7=>⟨ls,l7,_,rfl,rfl,Jp.of ((Jf.upd n7) _ _ hls),Jp.of Jh,_,rfl,?_⟩⟩;have e37:=e6.trans (Jf.upd (o:=.lst []) n7);have rs:ZS (zs'.map (·.2)) gs' c m p n r (i + 1)=ZS (zs'.map (·.2)) gs' c m p n r i ++ (if (Yi (zs'.map (·.2)) gs' c m p n r (0 + (i:Int)) ((own c n r).toNat + 1)).isEmpty=true then [0 + (i:Int)] else []):=by
    unfold ZS;rw [List.range_succ,List.map_append,List.filter_append,Int.zero_add];congr 1;cases hf:(Yi (zs'.map (·.2)) gs' c m p n r (i:Int) ((own c n r).toNat + 1)).isEmpty <;> simp [hf]
   have hrl:(ZS (zs'.map (·.2)) gs' c m p n r i).length≤i:=by
    unfold ZS;refine Nat.le_trans (List.length_filter_le _ _) ?_;rw [List.length_map,List.length_range]; exact Nat.le_refl _
   rw [List.isEmpty_map,rs];cases (Yi (zs'.map (·.2)) gs' c m p n r (0 + (i:Int)) ((own c n r).toNat + 1)).isEmpty with
   | true =>
    refine Y0 ⟨_,rfl,.inl ⟨rfl,_,Jp.of (e37 _ _ hf3)⟩,_,rfl,lf,_,_,rfl,rfl,e37 _ _ hf3,by rw [List.length_map]; omega,keep (e3.trans e37),?_,_,rfl⟩;rw [Jh,if_pos rfl,List.map_append]; rfl
   | false =>
    refine Y5 ⟨e3.trans e37,?_,_,rfl⟩;rw [if_neg Bool.false_ne_true,List.append_nil]; exact e37 _ _ hf3
  ·rintro σ H3 ⟨e3,hf3,v9,rfl⟩;exact ⟨_,rfl,q lf H3 e3 hf3⟩
theorem Jj7 {kvs:List (List JP×V)} {k:List JP} {v:V}:(Zi kvs k v).length≤kvs.length + 1:=by
 unfold Zi;split
 ·rw [List.length_map]; omega
 ·rw [List.length_append]; simp
theorem Jsd {kvs:List (List JP×V)} {k:List JP} {v u:V} (h:Yd kvs k=some u):(Zi kvs k v).length=kvs.length:=by
 unfold Zi;rw [Jcn,h,if_pos (show (some u).isSome=true from rfl),List.length_map]
theorem Jmd (T:Txt K mg):JL P w K mg base YK 5 T.Jku T.JiD ["_law_ground", "_law_total", "_law_turns"] (Jqj K):=by
 refine T.JhS.F.ok JaL (fun vs H Q E h=>?_) (fun cdv A outer s H vs Q E hr h=>?_)
 ·obtain ⟨_,_,_,_,_,_,_,_,rfl,_⟩:=h;rfl
 ·obtain ⟨t,T0,ps,zs,gs,zs',gs',c,rfl,hT,c0,c1,G,zp,gp,zo,q⟩:=h;have hu:=Ja1 hr;have szl:sizeLine=16777216:=sizeLine_eq;have hps:ps.length≤12:=G.good.p2;refine ⟨_,(@Je _ _ _ _ _ (@Jx _ _ 3 _ _ _ _ JaL.nd rfl (Or.inl rfl) (@Jl7 _ _) rfl (.inl rfl)) (@Je _ _ _ _ _ (@YH _ _ _ _ _ _ _ _ PassesOwn.never rfl (@Yx _ _ _ _ _ _ rfl T.YM (@Ja _ _ _ _ _ (@Jk _ _ _ _ _ _ _ _ (@JM _) (@pv _ 2 _ _ rfl (.inl rfl) rfl rfl) (@Jd _ _ _ _)) (@Jc _) rfl) rfl) (@JS _ _ 4 _ JaL.nd rfl (Or.inl rfl) (.inl rfl)) (@Ji _ _ _ (@YH _ _ _ _ _ _ _ _ PassesOwn.never rfl (@Zn _ _ _ _ (@Jr _ _ _ _ _ _ _ (@Yg _) (@pv _ 0 _ _ rfl (.inl rfl) rfl rfl) (@Jd _ _ _ _) (fun _ _=>rfl))) (@JS _ _ 5 _ JaL.nd rfl (Or.inl rfl) (.inl rfl)) (@Ji _ _ _ (@YH _ _ _ _ _ _ _ _ PassesOwn.never rfl (@Yx _ _ _ _ _ _ rfl T.YM (@Ja _ _ _ _ _ (@Jk _ _ _ _ _ _ _ _ (@JM _) (@pv _ 1 _ _ rfl (.inl rfl) rfl rfl) (@Jd _ _ _ _)) (@Jc _) rfl) rfl) (@JS _ _ 6 _ JaL.nd rfl (Or.inl rfl) (.inl rfl)) (@Ji _ _ _ (@YH _ _ _ _ _ _ _ _ PassesOwn.never rfl (@Zn _ _ _ _ (@J7 _ _ _ _ (@Ja _ _ _ _ _ (@Js _ _ _ _) (@Ja _ _ _ _ _ (@Js _ _ _ _) (@Jc _) rfl) rfl))) (@JS _ _ 7 _ JaL.nd rfl (Or.inl rfl) (.inl rfl)) (@Je _ _ _ _ _ (@Jx _ _ 8 _ _ _ _ JaL.nd rfl (Or.inl rfl) (@Yz _ _ _ _ _ (@Ja _ _ _ _ _ (@pv _ 5 _ _ rfl (.inl rfl) rfl rfl) (@Ja _ _ _ _ _ (@pv _ 4 _ _ rfl (.inl rfl) rfl rfl) (@Ja _ _ _ _ _ (@pv _ 6 _ _ rfl (.inl rfl) rfl rfl) (@Ja _ _ _ _ _ (@pv _ 7 _ _ rfl (.inl rfl) rfl rfl) (@Jc _) rfl) rfl) rfl) rfl)) rfl (.inl rfl)) (@Je _ _ _ _ _ (@JhF _ _ _ _ _ _ _ _ _ hu (@pv _ 3 _ _ rfl (.inl rfl) rfl rfl) (@pv _ 8 _ _ rfl (.inl rfl) rfl rfl) (@Jl _ _ _ _ _ _ _ _ _ _ _ _ _ _ _ T.JlC (Jph T) (hr.mono (by decide)) JG (@Ja _ _ _ _ _ (@pv _ 0 _ _ rfl (.inl rfl) rfl rfl) (@Ja _ _ _ _ _ (@pv _ 5 _ _ rfl (.inl rfl) rfl rfl) (@Ja _ _ _ _ _ (@pv _ 4 _ _ rfl (.inl rfl) rfl rfl) (@Jc _) rfl) rfl) rfl) rfl (by decide) rfl rfl) rfl) (@Ji _ _ _ (@Yj _ _ _ (@JN _ _ _ _ _ _ _ _ (@Jq _ _ _ _ _ _ _ _ (@Yl _) (@Jac _ _ _ _ _ _ hu (@pv _ 3 _ _ rfl (.inl rfl) rfl rfl) (@pv _ 8 _ _ rfl (.inl rfl) rfl rfl) (fun _ _=>rfl)) (@Js _ _ _ _) (Ju _)) (@Je _ _ _ _ _ (@Jx _ _ 9 _ _ _ _ JaL.nd rfl (Or.inl rfl) (@Jl _ _ _ _ _ _ _ _ _ _ _ _ _ _ _ T.Jfn (Jme T) (hr.mono (by decide)) JG (@Ja _ _ _ _ _ (@pv _ 0 _ _ rfl (.inl rfl) rfl rfl) (@Ja _ _ _ _ _ (@pv _ 1 _ _ rfl (.inl rfl) rfl rfl) (@Ja _ _ _ _ _ (@pv _ 3 _ _ rfl (.inl rfl) rfl rfl) (@Ja _ _ _ _ _ (@pv _ 8 _ _ rfl (.inl rfl) rfl rfl) (@Jc _) rfl) rfl) rfl) rfl) rfl (by decide) rfl rfl) rfl (.inl rfl)) (@Ji _ _ _ (@JhF _ _ _ _ _ _ _ _ _ hu (@pv _ 3 _ _ rfl (.inl rfl) rfl rfl) (@pv _ 8 _ _ rfl (.inl rfl) rfl rfl) (@Jr _ _ _ _ _ _ _ (@JE _) (@J7 _ _ _ _ (@Ja _ _ _ _ _ (@Jl _ _ _ _ _ _ _ _ _ _ _ _ _ _ _ T.JjM (Jmf T) (hr.mono (by decide)) JG (@Ja _ _ _ _ _ (@pv _ 7 _ _ rfl (.inl rfl) rfl rfl) (@Jc _) rfl) rfl (by decide) rfl rfl) (@Ja _ _ _ _ _ (@pv _ 7 _ _ rfl (.inl rfl) rfl rfl) (@Jc _) rfl) rfl)) (@Y2 _ _ _ _ _ _ _ _ _ (@JbL _) rfl T.JeV PyProof.Rows.boot_int (@Ja _ _ _ _ _ (@ZF _ _ _ _ _ _ _ _ (@Jef _ hr.units0) (@pv _ 9 _ _ rfl (.inl rfl) rfl rfl) (@J7 _ _ _ _ (@Jc _)) (Ju _)) (@Jc _) rfl) (by decide) (by decide) rfl rfl) (fun _ _=>rfl)) rfl))) (@JD _)))))) (by intro _; rfl))) (by intro _; rfl))) (by intro _; rfl))) (by intro _; rfl)) (@Ji _ _ _ (@Jw _ _ _ _ (@pv _ 3 _ _ rfl (.inl rfl) rfl rfl))))),?_⟩;obtain ⟨pn,pl,pg,h1,h2,h3,h4,h5⟩:=G.at_;intro d hd;have kp:∀ {H2:Hp} {kvs:List (List JP×V)},Jf H H2→Jf H (upd H2 d (.dT kvs)):=fun e b' u h=>by rw [Jz (JA h hd)]; exact e b' u h
  let Ok:List (List JP×V)→Nat→Str→Int→Bool→Prop:=fun kvs i p n r=>Yd kvs (Yw p i n r)=some (Jf0 (zs'.map (·.2)) gs' c i p n r)
  refine ⟨_,rfl,_,_,rfl,rfl,(T0:Int) + 1,rfl,by omega,by omega,?_⟩;rw [show ((T0:Int) + 1).toNat=T0 + 1 by omega];refine YU (n:=T0 + 1) (fun i σ H1=>∃ kvs v4 v5 v6 v7 v8 v9,Jf H H1∧H1 d=some (.dT kvs)∧kvs.length≤i * 12 * 21 * 2∧(∀ j,j < i→∀ p∈ps,∀ n,0≤n→n≤c→∀ r,Ok kvs j p n r)∧σ=[some (.ref t),some (.int c),some (.int (T0:Int)),some (.ref d),v4,v5,v6,v7,v8,v9]) ⟨[],_,_,_,_,_,_,kp (Jf.refl _),Jh,Nat.zero_le _,(fun j hj=>absurd hj (Nat.not_lt_zero _)),rfl⟩ ?_ ?_
  ·rintro i σ H1 hi ⟨kvs,v4,v5,v6,v7,v8,v9,e1,hd1,hl1,ok1,rfl⟩;refine ⟨_,rfl,t,_,_,.ref pn,rfl,rfl,JX.of (e1 _ _ h1),rfl,pn,rfl,⟨_,Jp.of (e1 _ _ h2)⟩,?_⟩;refine JaT (xs:=ps.map V.str) (fun a σ H2=>∃ kvs v5 v6 v7 v8 v9,Jf H H2∧H2 d=some (.dT kvs)∧kvs.length≤(i * 12 + a) * 21 * 2∧(∀ j,j < i→∀ p∈ps,∀ n,0≤n→n≤c→∀ r,Ok kvs j p n r)∧(∀ p∈ps.take a,∀ n,0≤n→n≤c→∀ r,Ok kvs i p n r)∧σ=[some (.ref t),some (.int c),some (.int (T0:Int)),some (.ref d),some (.int (0 + (i:Int))),v5,v6,v7,v8,v9]) ⟨kvs,_,_,_,_,_,e1,hd1,by omega,ok1,(fun p hp=>by simp at hp),rfl⟩ (fun a σ H2 _ h=>by obtain ⟨_,_,_,_,_,_,e,_⟩:=h; exact Jp.of (e _ _ h2)) ?_ ?_
   ·rintro a x σ H2 hx ⟨kvs,v5,v6,v7,v8,v9,e2,hd2,hl2,ok2,okp2,rfl⟩;rw [List.getElem?_map] at hx;obtain ⟨p,hp1,rfl⟩:=Option.map_eq_some_iff.mp hx;have hpm:=List.mem_of_getElem? hp1;refine ⟨_,rfl,_,_,rfl,rfl,c + 1,rfl,by omega,by omega,?_⟩;rw [show (c + 1).toNat=c.toNat + 1 by omega];refine YU (n:=c.toNat + 1) (fun b σ H3=>∃ kvs v6 v7 v8 v9,Jf H H3∧H3 d=some (.dT kvs)∧kvs.length≤((i * 12 + a) * 21 + b) * 2∧(∀ j,j < i→∀ p∈ps,∀ n,0≤n→n≤c→∀ r,Ok kvs j p n r)∧(∀ p∈ps.take a,∀ n,0≤n→n≤c→∀ r,Ok kvs i p n r)∧(∀ n,0≤n→n < (b:Int)→∀ r,Ok kvs i p n r)∧σ=[some (.ref t),some (.int c),some (.int (T0:Int)),some (.ref d),some (.int (0 + (i:Int))),some (.str p),v6,v7,v8,v9]) ⟨kvs,_,_,_,_,e2,hd2,by omega,ok2,okp2,(fun n h0 h1=>by omega),rfl⟩ ?_ ?_
    ·rintro b σ H3 hb ⟨kvs,v6,v7,v8,v9,e3,hd3,hl3,ok3,okp3,okn3,rfl⟩;refine ⟨by show 2≤sizeLine; decide,fun l4 n4=>⟨l4,rfl,⟨_,Jp.of Jh⟩,?_⟩⟩;have hl4:upd H3 l4 (.lst [.str "north",.str "south"]) l4=some (.lst [.str "north",.str "south"]):=Jh;have e4:=e3.trans (Jf.upd (o:=.lst [.str "north",.str "south"]) n4);have hd4:=(Jf.upd (o:=.lst [.str "north",.str "south"]) n4) _ _ hd3;generalize upd H3 l4 (.lst [.str "north",.str "south"])=H4 at hl4 e4 hd4;refine JaT (xs:=[.str "north",.str "south"]) (fun y σ H5=>∃ kvs v7 v8 v9,Jf H H5∧H5 d=some (.dT kvs)∧H5 l4=some (.lst [.str "north",.str "south"])∧kvs.length≤((i * 12 + a) * 21 + b) * 2 + y∧(∀ j,j < i→∀ p∈ps,∀ n,0≤n→n≤c→∀ r,Ok kvs j p n r)∧(∀ p∈ps.take a,∀ n,0≤n→n≤c→∀ r,Ok kvs i p n r)∧(∀ n,0≤n→n < (b:Int)→∀ r,Ok kvs i p n r)∧(0 < y→Ok kvs i p (0 + (b:Int)) true)∧(1 < y→Ok kvs i p (0 + (b:Int)) false)∧σ=[some (.ref t),some (.int c),some (.int (T0:Int)),some (.ref d),some (.int (0 + (i:Int))),some (.str p),some (.int (0 + (b:Int))),v7,v8,v9])
      ⟨kvs,_,_,_,e4,hd4,hl4,by omega,ok3,okp3,okn3,(fun z=>absurd z (by decide)),(fun z=>absurd z (by decide)),rfl⟩ (fun y σ H5 _ h=>by obtain ⟨_,_,_,_,_,_,e,_⟩:=h; exact Jp.of e) ?_ ?_
     ·rintro y x σ H5 hx ⟨kvs,v7,v8,v9,e5,hd5,hl5,hn5,ok5,okp5,okn5,hnn,hss,rfl⟩;obtain ⟨r,rfl,hrj⟩:∃ r:Bool,x=.str (hs r)∧((r=true∧y=0)∨(r=false∧y=1)):=by
       match y,hx with
       | 0,h=>exact ⟨true,(Option.some.inj h).symm,.inl ⟨rfl,rfl⟩⟩
       | 1,h=>exact ⟨false,(Option.some.inj h).symm,.inr ⟨rfl,rfl⟩⟩
       | y + 2,h=>cases h
      have hy1:y≤1:=by rcases hrj with h | h <;> omega
      have hal:a < ps.length:=(List.getElem?_eq_some_iff.mp hp1).1;refine ⟨_,rfl,_,rfl,_,rfl,_,rfl,by show 4≤sizeLine; decide,fun t6 n6=>?_⟩;have s6:=Jf.upd (o:=.tup [.str p,.int (0 + (i:Int)),.int (0 + (b:Int)),.str (hs r)]) n6;have ht6:upd H5 t6 (.tup [.str p,.int (0 + (i:Int)),.int (0 + (b:Int)),.str (hs r)]) t6=some (.tup [.str p,.int (0 + (i:Int)),.int (0 + (b:Int)),.str (hs r)]):=Jh;generalize upd H5 t6 (.tup [.str p,.int (0 + (i:Int)),.int (0 + (b:Int)),.str (hs r)])=H6 at s6 ht6;have kt:(Yw p i (0 + (b:Int)) r).map kV=[.str p,.int (0 + (i:Int)),.int (0 + (b:Int)),.str (hs r)]:=by rw [Int.zero_add (i:Int)]; rfl
      have ht6':H6 t6=some (.tup ((Yw p i (0 + (b:Int)) r).map kV)):=by rw [kt]; exact ht6
      refine ⟨_,rfl,_,rfl,_,rfl,t,p,0 + (i:Int),ps,zs,gs,rfl,G.same (e5.trans s6),fun H7 e7=>?_⟩;refine ⟨_,rfl,_,rfl,d,_,rfl,Jfs.t (k:=Yw p i (0 + (b:Int)) r) (e7 _ _ (s6 _ _ hd5)) (e7 _ _ ht6') (by omega),?_⟩;have ne4:l4≠d:=Jaj hl5 hd5 (fun z=>nomatch z);have ne6:t6≠d:=Jaj ht6 (s6 _ _ hd5) (fun z=>nomatch z);have k7:Jf H (upd H7 d (.dT (Zi kvs (Yw p i (0 + (b:Int)) r) (.str (ZH p (0 + (i:Int)) (zs.map (·.2)) gs))))):=kp ((e5.trans s6).trans e7);have d7:upd H7 d (.dT (Zi kvs (Yw p i (0 + (b:Int)) r) (.str (ZH p (0 + (i:Int)) (zs.map (·.2)) gs)))) d=some (.dT (Zi kvs (Yw p i (0 + (b:Int)) r) (.str (ZH p (0 + (i:Int)) (zs.map (·.2)) gs)))):=Jh;have l7:upd H7 d (.dT (Zi kvs (Yw p i (0 + (b:Int)) r) (.str (ZH p (0 + (i:Int)) (zs.map (·.2)) gs)))) l4=some (.lst [.str "north",.str "south"]):=by rw [Jz ne4]; exact e7 _ _ (s6 _ _ hl5)
      have t7:upd H7 d (.dT (Zi kvs (Yw p i (0 + (b:Int)) r) (.str (ZH p (0 + (i:Int)) (zs.map (·.2)) gs)))) t6=some (.tup [.str p,.int (0 + (i:Int)),.int (0 + (b:Int)),.str (hs r)]):=by rw [Jz ne6]; exact e7 _ _ ht6
      generalize upd H7 d (.dT (Zi kvs (Yw p i (0 + (b:Int)) r) (.str (ZH p (0 + (i:Int)) (zs.map (·.2)) gs))))=H8 at k7 d7 l7 t7;have t7':H8 t6=some (.tup ((Yw p i (0 + (b:Int)) r).map kV)):=by rw [kt]; exact t7
      have v7':Yd (Zi kvs (Yw p i (0 + (b:Int)) r) (.str (ZH p (0 + (i:Int)) (zs.map (·.2)) gs))) (Yw p i (0 + (b:Int)) r)=some (.str (ZH p (0 + (i:Int)) (zs.map (·.2)) gs)):=by rw [JaF,if_pos rfl]
      refine ⟨fun σ1 H9=>∃ kvs' v9,Jf H H9∧H9 d=some (.dT kvs')∧H9 l4=some (.lst [.str "north",.str "south"])∧kvs'.length≤kvs.length + 1∧(∀ j q' n' s',Yd kvs' (Yw q' j n' s')=if Yw q' j n' s'=(Yw p i (0 + (b:Int)) r) then some (Jf0 (zs'.map (·.2)) gs' c i p (0 + (b:Int)) r) else Yd kvs (Yw q' j n' s'))∧σ1=[some (.ref t),some (.int c),some (.int (T0:Int)),some (.ref d),some (.int (0 + (i:Int))),some (.str p),some (.int (0 + (b:Int))),some (.str (hs r)),some (.ref t6),v9],?_,?_⟩
      ·have g:=ZB.t (k:=(Yw p i (0 + (b:Int)) r)) d7 t7';rw [v7'] at g;refine ⟨_,rfl,_,rfl,d,_,rfl,g,rfl,_,rfl,?_⟩;have wc:=JsG (z:=p) (m:=i) (zp.map (·.2)) gp;rw [show ((i:Nat):Int)=0 + (i:Int) by omega] at wc;have rest:∀ x:Bool,ZH p (0 + (i:Int)) (zs.map (·.2)) gs=hs x→x=decide (JO (zs'.map (·.2)) gs' c i p r≤0 + (b:Int))→∃ kvs',Jf H H8∧H8 d=some (.dT kvs')∧H8 l4=some (.lst [.str "north",.str "south"])∧kvs'.length≤kvs.length + 1∧(∀ j q' n' s',Yd kvs' (Yw q' j n' s')=if Yw q' j n' s'=(Yw p i (0 + (b:Int)) r) then some (Jf0 (zs'.map (·.2)) gs' c i p (0 + (b:Int)) r) else Yd kvs (Yw q' j n' s')):=fun x hx hx2 =>
        ⟨_,k7,d7,l7,Jj7,fun j q' n' s'=>by rw [JaF,hx,hx2]; rfl⟩
       rcases wc with ⟨hg,hw,he⟩ | ⟨hg,hw,he⟩ | ⟨hw,he⟩
       ·rw [hw];refine Yq (by decide +kernel) ?_;obtain ⟨kvs',z1,z2,z3,z4,z5⟩:=rest true hw (by rw [Jmm he,if_pos hg]; exact (decide_eq_true (by omega)).symm);exact ⟨kvs',_,z1,z2,z3,z4,z5,rfl⟩
       ·rw [hw];refine Yq (by decide +kernel) ?_;obtain ⟨kvs',z1,z2,z3,z4,z5⟩:=rest false hw (by rw [Jmm he,if_neg hg]; exact (decide_eq_false (by omega)).symm);exact ⟨kvs',_,z1,z2,z3,z4,z5,rfl⟩
       ·rw [hw];refine Zc (by decide +kernel) ?_;obtain ⟨m,rfl⟩:∃ m,i=m + 1:=⟨i - 1,by have:i≠0:=fun h=>he (.inr (.inl h)); omega⟩
        have B8:MD K H8 d t ps zs gs zs' gs' c m:=⟨G.same k7,zp,gp,zo,_,d7,fun q' hq n' n0 n1 s'=>by rw [JaF,if_neg (fun e=>by have:=(Jmn e).2.1; omega)]; exact ok5 m (by omega) q' hq n' n0 n1 s'⟩
        have hN:0≤0 + (b:Int)∧0 + (b:Int)≤c:=⟨by omega,by omega⟩
        refine ⟨_,rfl,_,rfl,_,rfl,_,rfl,d,t,t6,p,m,0 + (b:Int),r,ps,zs,gs,zs',gs',c,rfl,(by rw [t7,show 0 + ((m + 1:Nat):Int)=(m:Int) + 1 by omega]),B8,c1,hN,fun lb H9 e9 hlb=>?_⟩;refine ⟨_,rfl,r,rfl,_,rfl,by show 2≤sizeLine; decide,fun l10 n10=>?_⟩;have s10:=e9.trans (Jf.upd (o:=.lst [.str (hs (!r)),.str (hs r)]) n10);have hl10:upd H9 l10 (.lst [.str (hs (!r)),.str (hs r)]) l10=some (.lst [.str (hs (!r)),.str (hs r)]):=Jh;have hb10:=(Jf.upd (o:=.lst [.str (hs (!r)),.str (hs r)]) n10) _ _ hlb;generalize upd H9 l10 (.lst [.str (hs (!r)),.str (hs r)])=H10 at s10 hl10 hb10;refine ⟨_,rfl,by show 0≤sizeLine; decide,fun l11 n11=>⟨lb,l11,_,rfl,rfl,Jp.of ((Jf.upd n11) _ _ hb10),Jp.of Jh,.inr ⟨_,rfl,l10,_,_,Jf0 (zs'.map (·.2)) gs' c (m + 1) p (0 + (b:Int)) r,rfl,rfl,Jp.of ((Jf.upd n11) _ _ hl10),?_,?_⟩⟩⟩
        ·rw [List.isEmpty_map,Jnb he c0 hN];unfold Jf0;cases decide (JO (zs'.map (·.2)) gs' c (m + 1) p r≤0 + (b:Int)) <;> cases r <;> rfl
        ·have s11:=s10.trans (Jf.upd (o:=.lst []) n11);generalize upd H10 l11 (.lst [])=H11 at s11;refine ⟨_,rfl,_,rfl,d,_,rfl,Jfs.t (k:=(Yw p (m + 1) (0 + (b:Int)) r)) (s11 _ _ d7) (s11 _ _ t7') (by have:=Jj7 (kvs:=kvs) (k:=(Yw p (m + 1) (0 + (b:Int)) r)) (v:=.str (ZH p (0 + ((m + 1:Nat):Int)) (zs.map (·.2)) gs)); omega),?_⟩;refine ⟨_,_,kp (k7.trans s11),Jh,by rw [Jz ne4]; exact s11 _ _ l7,?_,fun j q' n' s'=>?_,rfl⟩
         ·rw [Jsd v7']; exact Jj7
         ·rw [JaF,JaF];split <;> rfl
      rintro σ1 H9 ⟨kvs',v9',e9,hd9,hl9,hlen9,hv9,rfl⟩;have kk:∀ j q' n' s',Ok kvs j q' n' s'→Ok kvs' j q' n' s':=fun j q' n' s' h=>by
       show Yd kvs' _=_;rw [hv9];by_cases hk:Yw q' j n' s'=(Yw p i (0 + (b:Int)) r)
       ·rw [if_pos hk]; obtain ⟨rfl,rfl,rfl,rfl⟩:=Jmn hk; rfl
       ·rw [if_neg hk]; exact h
      have me:Ok kvs' i p (0 + (b:Int)) r:=by show Yd kvs' _=_; rw [hv9,if_pos rfl]
      refine ⟨kvs',_,_,_,e9,hd9,hl9,by omega,fun j hj p' hp' n n0 n1 r'=>kk _ _ _ _ (ok5 j hj p' hp' n n0 n1 r'),fun p' hp' n n0 n1 r'=>kk _ _ _ _ (okp5 p' hp' n n0 n1 r'),fun n n0 n1 r'=>kk _ _ _ _ (okn5 n n0 n1 r'),fun h=>?_,fun h=>?_,rfl⟩
      ·rcases hrj with ⟨rfl,rfl⟩ | ⟨rfl,rfl⟩
       ·exact me
       ·exact kk _ _ _ _ (hnn (by decide))
      ·rcases hrj with ⟨rfl,rfl⟩ | ⟨rfl,rfl⟩
       ·exact absurd h (by decide)
       ·exact me
     ·rintro σ H5 ⟨kvs,v7,v8,v9,e5,hd5,hl5,hn5,ok5,okp5,okn5,hnn,hss,rfl⟩;have y2:[V.str "north",V.str "south"].length=2:=rfl;refine ⟨kvs,_,_,_,_,e5,hd5,by omega,ok5,okp5,fun n n0 n1 r=>?_,rfl⟩;by_cases h:n < (b:Int)
      ·exact okn5 n n0 h r
      ·have h:n=0 + (b:Int):=by omega
       subst h;cases r with
       | true=>exact hnn (by decide)
       | false=>exact hss (by decide)
    ·rintro σ H3 ⟨kvs,v6,v7,v8,v9,e3,hd3,hl3,ok3,okp3,okn3,rfl⟩;refine ⟨kvs,_,_,_,_,_,e3,hd3,by omega,ok3,fun p' hp' n n0 n1 r=>?_,rfl⟩;rw [List.take_succ,hp1] at hp';rcases List.mem_append.mp hp' with h | h
     ·exact okp3 p' h n n0 n1 r
     ·have h:p'=p:=by simpa using h
      subst h;exact okn3 n n0 (by omega) r
   ·rintro σ H2 ⟨kvs,v5,v6,v7,v8,v9,e2,hd2,hl2,ok2,okp2,rfl⟩;rw [List.length_map] at hl2 okp2;rw [List.take_length] at okp2;refine ⟨kvs,_,_,_,_,_,_,e2,hd2,by omega,fun j hj p hp n n0 n1 r=>?_,rfl⟩;by_cases h:j < i
    ·exact ok2 j h p hp n n0 n1 r
    ·have:j=i:=by omega
     subst this;exact okp2 p hp n n0 n1 r
  ·rintro σ H1 ⟨kvs,v4,v5,v6,v7,v8,v9,e1,hd1,hl1,ok1,rfl⟩;exact ⟨_,rfl,q d H1 e1 ⟨kvs,hd1,fun i hi p hp n n0 n1 r=>ok1 i (by omega) p hp n n0 n1 r⟩⟩
end
section
variable {P:Program} {w:World} {K:PySem.W.Frag} {mg:Str→Option Value} {base:Heap}
def Jly:List V→V
 | []=>.non
 | x :: _=>x
def JoY (K:PySem.W.Frag):Sp:=fun vs H Q _=>∃ (l:Addr) (xs:List V),vs=[.ref l]∧Jp K H l xs∧∀ H',Jf H H'→Q (Jly xs) H'
theorem Jmg (T:Txt K mg):JL P w K mg base YK 1 T.Jkx T.JiG ["_law_row_here"] (JoY K):=by
 refine T.JhT.F.ok JqE (fun vs H Q E h=>?_) (fun cdv A outer s H vs Q E hr h=>?_)
 ·obtain ⟨_,_,rfl,_⟩:=h;rfl
 ·obtain ⟨l,xs,rfl,hl,q⟩:=h;refine ⟨_,(@Je _ _ _ _ _ (@JN _ _ _ _ _ _ _ _ (@Jq _ _ _ _ _ _ _ _ (@Jef _ hr.units0) (@pv _ 0 _ _ rfl (.inl rfl) rfl rfl) (@J7 _ _ _ _ (@Jc _)) (Ju _)) (@Ji _ _ _ (@Jw _ _ _ _ (@Jl6 _ _ _))) (@JD _)) (@Ji _ _ _ (@Jw _ _ _ _ (@Jr _ _ _ _ _ _ _ (@JE _) (@pv _ 0 _ _ rfl (.inl rfl) rfl rfl) (@Jd _ _ _ _) (fun _ _=>rfl))))),?_⟩;refine ⟨_,rfl,by show 0≤sizeLine; decide,fun l2 n2=>⟨l,l2,_,rfl,rfl,(Jf.upd n2).seq hl,Jp.of Jh,_,rfl,?_⟩⟩;cases xs with
  | nil=>exact Y0 (q _ (Jf.upd n2))
  | cons x r=>exact Y5 ⟨_,rfl,l,_,_,x,rfl,rfl,(Jf.upd n2).seq hl,YD (j:=0) rfl,q _ (Jf.upd n2)⟩
def Tab (H:Hp) (d:Addr) (ps:List Str) (zs:List (Str×Str)) (gs:List Str) (c:Int) (T:Nat):Prop:=∃ kvs,H d=some (.dT kvs)∧∀ i,i≤T→∀ p∈ps,∀ n,0≤n→n≤c→∀ r,Yd kvs (Yw p i n r)=some (Jf0 zs gs c i p n r)
theorem Tab.same {H H':Hp} {d:Addr} {ps:List Str} {zs:List (Str×Str)} {gs:List Str} {c:Int} {T:Nat} (h:Tab H d ps zs gs c T) (e:Jf H H'):Tab H' d ps zs gs c T:=let ⟨kvs,h1,h2⟩:=h; ⟨kvs,e _ _ h1,h2⟩
theorem JfN {x y:Str}:decide (V.str x=V.str y)=(x == y):=by
 rw [Bool.eq_iff_iff,decide_eq_true_eq,beq_iff_eq];exact ⟨fun h=>V.str.inj h,fun h=>by rw [h]⟩
theorem JfO {x y:Int}:decide (V.int x=V.int y)=decide (x=y):=by
 rw [Bool.eq_iff_iff,decide_eq_true_eq,decide_eq_true_eq];exact ⟨fun h=>V.int.inj h,fun h=>by rw [h]⟩
def Zm (ps:List Str) (door c:Int) (p:Str) (m n s:Int) (x:Str):Str :=
 if door=1∧¬ (0≤c∧c≤20) then "OutOfRange" else if p∉ps then "NoPlace" else if ¬ (0≤m∧m≤30) then "OutOfRange" else if door=0∧¬ (0≤n∧0≤s∧n + s≤20) then "OutOfRange" else if YZ x=false then "BadHand" else ""
section
variable {ps:List Str} {door c:Int} {p:Str} {m n s:Int} {x:Str}
theorem rq0 (h0:door=1) (h:¬ (0≤c∧c≤20)):Zm ps door c p m n s x = "OutOfRange":=if_pos ⟨h0,h⟩
theorem rq1 (h0:door=1→0≤c∧c≤20) (h:p∉ps):Zm ps door c p m n s x = "NoPlace":=by unfold Zm; rw [if_neg (fun f=>f.2 (h0 f.1)),if_pos h]
theorem rq2 (h0:door=1→0≤c∧c≤20) (h:p∈ps) (h2:¬ (0≤m∧m≤30)):Zm ps door c p m n s x = "OutOfRange":=by unfold Zm; rw [if_neg (fun f=>f.2 (h0 f.1)),if_neg (fun f=>f h),if_pos h2]
theorem rq3 (h0:door=1→0≤c∧c≤20) (h:p∈ps) (h2:0≤m∧m≤30) (h3:door=0) (h4:¬ (0≤n∧0≤s∧n + s≤20)):Zm ps door c p m n s x = "OutOfRange":=by unfold Zm; rw [if_neg (fun f=>f.2 (h0 f.1)),if_neg (fun f=>f h),if_neg (fun f=>f h2),if_pos ⟨h3,h4⟩]
theorem rq4 (h0:door=1→0≤c∧c≤20) (h:p∈ps) (h2:0≤m∧m≤30) (h3:door=0→0≤n∧0≤s∧n + s≤20) (h4:YZ x=false):Zm ps door c p m n s x = "BadHand":=by unfold Zm; rw [if_neg (fun f=>f.2 (h0 f.1)),if_neg (fun f=>f h),if_neg (fun f=>f h2),if_neg (fun f=>f.2 (h3 f.1)),if_pos h4]
theorem rq5 (h0:door=1→0≤c∧c≤20) (h:p∈ps) (h2:0≤m∧m≤30) (h3:door=0→0≤n∧0≤s∧n + s≤20) (h4:YZ x=true):Zm ps door c p m n s x = "":=by unfold Zm; rw [if_neg (fun f=>f.2 (h0 f.1)),if_neg (fun f=>f h),if_neg (fun f=>f h2),if_neg (fun f=>f.2 (h3 f.1)),if_neg (by rw [h4]; decide)]
theorem Jnu (h:Zm ps door c p m n s x = ""):(door=1→0≤c∧c≤20)∧p∈ps∧(0≤m∧m≤30)∧(door=0→0≤n∧0≤s∧n + s≤20)∧YZ x=true:=by
 by_cases h0:door=1→0≤c∧c≤20
 ·by_cases h1:p∈ps
  ·by_cases h2:0≤m∧m≤30
   ·by_cases h3:door=0→0≤n∧0≤s∧n + s≤20
    ·cases hx:YZ x with
     | false=>rw [rq4 h0 h1 h2 h3 hx] at h; exact absurd h (by decide +kernel)
     | true=>exact ⟨h0,h1,h2,h3,rfl⟩
    ·obtain ⟨h3,h4⟩:=Classical.not_imp.mp h3;rw [rq3 h0 h1 h2 h3 h4] at h; exact absurd h (by decide +kernel)
   ·rw [rq2 h0 h1 h2] at h; exact absurd h (by decide +kernel)
  ·rw [rq1 h0 h1] at h; exact absurd h (by decide +kernel)
 ·obtain ⟨h0,h1⟩:=Classical.not_imp.mp h0;rw [rq0 h0 h1] at h; exact absurd h (by decide +kernel)
end
def Jdc (zs:List (Str×Str)) (gs:List Str) (door c:Int) (m:Nat) (p:Str) (n s:Int) (r:Bool):V:=if door=0 then .str (hs (decide (JO zs gs (n + s) m p r≤n))) else ZQ zs gs c m p r
structure JB (T:Txt K mg) (H:Hp) (h d1 d2:Addr) (bs:List (JP×V)) (z:Str) (t:Addr) (ps:List Str) (zs:List (V×(Str×Str))) (gs ps':List Str) (zs':List (V×(Str×Str))) (gs':List Str):Prop where
 A:Jat T H h d1 d2 bs []
 v:∃ b,Yd bs (.inr z)=some (.ref b)∧Bd K T.JT H b ps' zs' gs'
 tz:YE z
 G:Ground K H t ps zs gs
 pp:ps'.Perm ps
 zp:zs'.Perm zs
 gp:gs'.Perm gs
 zo:(zs'.map (·.2)).Pairwise ple
theorem JB.same {T:Txt K mg} {H H':Hp} {h d1 d2:Addr} {bs:List (JP×V)} {z:Str} {t:Addr} {ps:List Str} {zs:List (V×(Str×Str))} {gs ps':List Str} {zs':List (V×(Str×Str))} {gs':List Str} (J:JB T H h d1 d2 bs z t ps zs gs ps' zs' gs') (e:Jf H H'):JB T H' h d1 d2 bs z t ps zs gs ps' zs' gs' :=
 ⟨J.A.same e,let ⟨b,h1,h2⟩:=J.v; ⟨b,h1,h2.same e⟩,J.tz,J.G.same e,J.pp,J.zp,J.gp,J.zo⟩
def JrW (T:Txt K mg):Sp:=fun vs H Q _=>∃ (h d1 d2 t tn:Addr) (z p x:Str) (door c m n s:Int) (bs:List (JP×V)) (ps:List Str) (zs:List (V×(Str×Str))) (gs ps':List Str) (zs':List (V×(Str×Str))) (gs':List Str),vs=[.ref h,.int door,.str z,.int c,.ref tn]∧JB T H h d1 d2 bs z t ps zs gs ps' zs' gs'∧H tn=some (.tup [.str p,.int m,.int n,.int s,.str x])∧YE p∧YE x∧(door=0∨door=1) ∧
 (Zm ps door c p m n s x ≠ ""→∀ a H',Jf H H'→H' a=some (.tup (rf (Zm ps door c p m n s x)))→Q (.ref a) H') ∧
 (Zm ps door c p m n s x = ""→∀ r,x=hs r→∀ H',Jf H H'→Q (Jdc (zs'.map (·.2)) gs' door c m.toNat p n s r) H')
theorem Jma (T:Txt K mg):JL P w K mg base YK 10 T.Jov T.Jmy ["_law_hall", "_law_door", "_law_base", "_law_coins", "_law_now"] (JrW T):=by
 refine T.JjJ.F.ok Ji0 (fun vs H Q E h=>?_) (fun cdv A outer s H vs Q E hr h=>?_)
 ·obtain ⟨_,_,_,_,_,_,_,_,_,_,_,_,_,_,_,_,_,_,_,_,rfl,_⟩:=h;rfl
 ·obtain ⟨h,d1,d2,t,tn,z,p,x,door,c,m,n,s,bs,ps,zs,gs,ps',zs',gs',rfl,J,htn,tp,tx,hd,q1,q2⟩:=h;obtain ⟨bq,hbq⟩:∃ w,Zm ps door c p m n s x=w:=⟨_,rfl⟩
  rw [hbq] at q1 q2;refine ⟨_,(@Je _ _ _ _ _ (@Jx _ _ 5 _ _ _ _ Ji0.nd rfl (Or.inl rfl) (@J7 _ _ _ _ (@Jc _)) rfl (.inl rfl)) (@Je _ _ _ _ _ (@Js9 _ _ _ _ 6 _ _ _ _ _ _ _ _ (fun c _ H2=>Jf H H2∧((c=.ref T.JU∧bq = "NoPlace")∨(c=.ref T.JF∧bq = "OutOfRange")∨(c=.ref T.J4∧bq = "BadHand"))) Ji0.nd T.Je2 rfl (fun pn xe hx=>(@Je _ _ _ _ _ (@JN _ _ _ _ _ _ _ _ (@Jq _ _ _ _ _ _ _ _ (@Yl _) (@pv _ 1 _ _ rfl (.inl rfl) rfl rfl) (@Jd _ _ _ _) (Ju _)) (@Ji _ _ _ (@Jw _ _ _ _ (@YB _ _ _ _ _ _ _ _ _ _ _ _ _ _ _ _ _ _ _ _ (@pv _ 0 _ _ rfl (.inl rfl) rfl rfl) T.Jae T.Jcg.m (Jlm T) (hr.mono (by decide)) T.Jcg.b .nil hx (@Ja _ _ _ _ _ (@pv _ 2 _ _ rfl (.inl rfl) rfl rfl) (@Ja _ _ _ _ _ (@Jr _ _ _ _ _ _ _ (JbK (K:=K) rfl) (@pv _ 4 _ _ rfl (.inl rfl) rfl rfl) (@Jd _ _ _ _) (fun _ _=>rfl)) (@Ja _ _ _ _ _ (@Jr _ _ _ _ _ _ _ (JbK (K:=K) rfl) (@pv _ 4 _ _ rfl (.inl rfl) rfl rfl) (@Jd _ _ _ _) (fun _ _=>rfl)) (@Ja _ _ _ _ _ (@Jr _ _ _ _ _ _ _ (JbK (K:=K) rfl) (@pv _ 4 _ _ rfl (.inl rfl) rfl rfl) (@Jd _ _ _ _) (fun _ _=>rfl)) (@Ja _ _ _ _ _ (@Jr _ _ _ _ _ _ _ (JbK (K:=K) rfl) (@pv _ 4 _ _ rfl (.inl rfl) rfl rfl) (@Jd _ _ _ _) (fun _ _=>rfl)) (@Ja _ _ _ _ _ (@Jr _ _ _ _ _ _ _ (JbK (K:=K) rfl) (@pv _ 4 _ _ rfl (.inl rfl) rfl rfl) (@Jd _ _ _ _) (fun _ _=>rfl)) (@Jc _) rfl) rfl) rfl) rfl) rfl) rfl) rfl rfl rfl))) (@JD _)) (@Ji _ _ _ (@Jw _ _ _ _ (@YB _ _ _ _ _ _ _ _ _ _ _ _ _ _ _ _ _ _ _ _ (@pv _ 0 _ _ rfl (.inl rfl) rfl rfl) T.Jae T.Jcf.m (Jll T) (hr.mono (by decide)) T.Jcf.b .nil hx (@Ja _ _ _ _ _ (@pv _ 2 _ _ rfl (.inl rfl) rfl rfl) (@Ja _ _ _ _ _ (@pv _ 3 _ _ rfl (.inl rfl) rfl rfl) (@Ja _ _ _ _ _ (@Jr _ _ _ _ _ _ _ (JbK (K:=K) rfl) (@pv _ 4 _ _ rfl (.inl rfl) rfl rfl) (@Jd _ _ _ _) (fun _ _=>rfl)) (@Ja _ _ _ _ _ (@Jr _ _ _ _ _ _ _ (JbK (K:=K) rfl) (@pv _ 4 _ _ rfl (.inl rfl) rfl rfl) (@Jd _ _ _ _) (fun _ _=>rfl)) (@Ja _ _ _ _ _ (@Jr _ _ _ _ _ _ _ (JbK (K:=K) rfl) (@pv _ 4 _ _ rfl (.inl rfl) rfl rfl) (@Jd _ _ _ _) (fun _ _=>rfl)) (@Jc _) rfl) rfl) rfl) rfl) rfl) rfl rfl rfl))))) (fun ea C oe A pn hp hc=>(@Ji _ _ _ (@Jx _ _ 5 _ _ _ _ Ji0.nd rfl (Or.inl rfl) (@J7 _ _ _ _ (@Ja _ _ _ _ _ (@JH _ _ _ _ _ _ _ _ _ (show Yv _ _ (JbU K ea C) from YX hp hc) rfl T.J8 PyProof.Rows.boot_isinstance (@Ja _ _ _ _ _ (@pv _ 6 _ _ rfl (.inl rfl) rfl rfl) (@Ja _ _ _ _ _ (@Zt _ _ _ _ rfl T.Jhq (by decide)) (@Jc _) rfl) rfl) (by decide) (by decide) rfl rfl) (@Ja _ _ _ _ _ (@JH _ _ _ _ _ _ _ _ _ (show Yv _ _ (JbU K ea C) from YX hp hc) rfl T.J8 PyProof.Rows.boot_isinstance (@Ja _ _ _ _ _ (@pv _ 6 _ _ rfl (.inl rfl) rfl rfl) (@Ja _ _ _ _ _ (@Zt _ _ _ _ rfl T.Jhr (by decide)) (@Jc _) rfl) rfl) (by decide) (by decide) rfl rfl) (@Ja _ _ _ _ _ (@JH _ _ _ _ _ _ _ _ _ (show Yv _ _ (JbU K ea C) from YX hp hc) rfl T.J8 PyProof.Rows.boot_isinstance (@Ja _ _ _ _ _ (@pv _ 6 _ _ rfl (.inl rfl) rfl rfl) (@Ja _ _ _ _ _ (@Zt _ _ _ _ rfl T.Jcc (by decide)) (@Jc _) rfl) rfl) (by decide) (by decide) rfl rfl) (@Ja _ _ _ _ _ (@JH _ _ _ _ _ _ _ _ _ (show Yv _ _ (JbU K ea C) from YX hp hc) rfl T.J8 PyProof.Rows.boot_isinstance (@Ja _ _ _ _ _ (@pv _ 6 _ _ rfl (.inl rfl) rfl rfl) (@Ja _ _ _ _ _ (@Zt _ _ _ _ rfl T.JnM (by decide)) (@Jc _) rfl) rfl) (by decide) (by decide) rfl rfl) (@Ja _ _ _ _ _ (@JH _ _ _ _ _ _ _ _ _ (show Yv _ _ (JbU K ea C) from YX hp hc) rfl T.J8 PyProof.Rows.boot_isinstance (@Ja _ _ _ _ _ (@pv _ 6 _ _ rfl (.inl rfl) rfl rfl) (@Ja _ _ _ _ _ (@Zt _ _ _ _ rfl T.Jho (by decide)) (@Jc _) rfl) rfl) (by decide) (by decide) rfl rfl) (@Ja _ _ _ _ _ (@JH _ _ _ _ _ _ _ _ _ (show Yv _ _ (JbU K ea C) from YX hp hc) rfl T.J8 PyProof.Rows.boot_isinstance (@Ja _ _ _ _ _ (@pv _ 6 _ _ rfl (.inl rfl) rfl rfl) (@Ja _ _ _ _ _ (@Zt _ _ _ _ rfl T.JmP (by decide)) (@Jc _) rfl) rfl) (by decide) (by decide) rfl rfl) (@Ja _ _ _ _ _ (@JH _ _ _ _ _ _ _ _ _ (show Yv _ _ (JbU K ea C) from YX hp hc) rfl T.J8 PyProof.Rows.boot_isinstance (@Ja _ _ _ _ _ (@pv _ 6 _ _ rfl (.inl rfl) rfl rfl) (@Ja _ _ _ _ _ (@Zt _ _ _ _ rfl T.JmM (by decide)) (@Jc _) rfl) rfl) (by decide) (by decide) rfl rfl) (@Ja _ _ _ _ _ (@JH _ _ _ _ _ _ _ _ _ (show Yv _ _ (JbU K ea C) from YX hp hc) rfl T.J8 PyProof.Rows.boot_isinstance (@Ja _ _ _ _ _ (@pv _ 6 _ _ rfl (.inl rfl) rfl rfl) (@Ja _ _ _ _ _ (@Zt _ _ _ _ rfl T.JmL (by decide)) (@Jc _) rfl) rfl) (by decide) (by decide) rfl rfl) (@Ja _ _ _ _ _ (@JH _ _ _ _ _ _ _ _ _ (show Yv _ _ (JbU K ea C) from YX hp hc) rfl T.J8 PyProof.Rows.boot_isinstance (@Ja _ _ _ _ _ (@pv _ 6 _ _ rfl (.inl rfl) rfl rfl) (@Ja _ _ _ _ _ (@Zt _ _ _ _ rfl T.Jgp (by decide)) (@Jc _) rfl) rfl) (by decide) (by decide) rfl rfl) (@Ja _ _ _ _ _ (@JH _ _ _ _ _ _ _ _ _ (show Yv _ _ (JbU K ea C) from YX hp hc) rfl T.J8 PyProof.Rows.boot_isinstance (@Ja _ _ _ _ _ (@pv _ 6 _ _ rfl (.inl rfl) rfl rfl) (@Ja _ _ _ _ _ (@Zt _ _ _ _ rfl T.JkA (by decide)) (@Jc _) rfl) rfl) (by decide) (by decide) rfl rfl) (@Ja _ _ _ _ _ (@JH _ _ _ _ _ _ _ _ _ (show Yv _ _ (JbU K ea C) from YX hp hc) rfl T.J8 PyProof.Rows.boot_isinstance (@Ja _ _ _ _ _ (@pv _ 6 _ _ rfl (.inl rfl) rfl rfl) (@Ja _ _ _ _ _ (@Zt _ _ _ _ rfl T.JmN (by decide)) (@Jc _) rfl) rfl) (by decide) (by decide) rfl rfl) (@Ja _ _ _ _ _ (@JH _ _ _ _ _ _ _ _ _ (show Yv _ _ (JbU K ea C) from YX hp hc) rfl T.J8 PyProof.Rows.boot_isinstance (@Ja _ _ _ _ _ (@pv _ 6 _ _ rfl (.inl rfl) rfl rfl) (@Ja _ _ _ _ _ (@Zt _ _ _ _ rfl T.Jhp (by decide)) (@Jc _) rfl) rfl) (by decide) (by decide) rfl rfl) (@Ja _ _ _ _ _ (@JH _ _ _ _ _ _ _ _ _ (show Yv _ _ (JbU K ea C) from YX hp hc) rfl T.J8 PyProof.Rows.boot_isinstance (@Ja _ _ _ _ _ (@pv _ 6 _ _ rfl (.inl rfl) rfl rfl) (@Ja _ _ _ _ _ (@Jee _ _ _ _ rfl T.JgV JjB (by decide) (by decide)) (@Jc _) rfl) rfl) (by decide) (by decide) rfl rfl) (@Jc _) rfl) rfl) rfl) rfl) rfl) rfl) rfl) rfl) rfl) rfl) rfl) rfl) rfl)) rfl (.inl rfl)))) rfl rfl rfl rfl (by decide)) (@Ji _ _ _ (@Jw _ _ _ _ (@Jl _ _ _ _ _ _ _ _ _ _ _ _ _ _ _ T.JkD (JqP T) (hr.mono (by decide)) JG (@Ja _ _ _ _ _ (@pv _ 5 _ _ rfl (.inl rfl) rfl rfl) (@Jc _) rfl) rfl (by decide) rfl rfl))))),?_⟩;refine ⟨by show 0≤sizeLine; decide,fun p0 hp0=>?_⟩;have s0:Jf H (upd H p0 (.lst [])):=Jf.upd hp0;have J0:=J.same s0;have ht0:=s0 _ _ htn;generalize upd H p0 (.lst [])=H0 at s0 J0 ht0;obtain ⟨dh,hh⟩:=J0.A.hi;obtain ⟨b,hv,B⟩:=J0.v;have nov:∀ {v:V},Yd bs (.inr z)=some v→v=.ref b:=fun h=>by rw [hv] at h; exact (Option.some.inj h).symm
  have hm:p∈ps'↔p∈ps:=J.pp.mem_iff;have hx:∀ {r},x=hs r→YZ x=true:=fun h=>by rw [h,Jg3]
  refine ⟨?_,fun ea C H' hE=>?_⟩
  ·have dd:∀ {i:Int},decide (V.int door=V.int i)=true↔door=i:=by
    intro i;rw [JfO,decide_eq_true_eq]
   refine ⟨_,rfl,rfl,_,rfl,Yp (fun d0=>?_) (fun d0=>?_)⟩
   ·have d0:door=0:=dd.mp d0;have c0:door=1→0≤c∧c≤20:=fun h=>by omega
    refine ⟨_,rfl,h,dh,_,rfl,hh,rfl,_,rfl,_,rfl,tn,_,_,.str p,rfl,rfl,JX.of ht0,rfl,_,rfl,tn,_,_,.int m,rfl,rfl,JX.of ht0,rfl,_,rfl,tn,_,_,.int n,rfl,rfl,JX.of ht0,rfl,_,rfl,tn,_,_,.int s,rfl,rfl,JX.of ht0,rfl,_,rfl,tn,_,_,.str x,rfl,rfl,JX.of ht0,rfl,h,d1,d2,z,p,x,m,n,s,bs,[],rfl,J0.tz,tp,tx,J0.A,(fun h=>by rw [hv] at h; cases h),fun v hv'=>⟨b,ps',zs',gs',nov hv',B,⟨fun h1=>⟨s0,.inl ⟨rfl,by rw [← hbq,rq1 c0 (fun f=>h1 (hm.mpr f))]⟩⟩,fun h1 h2=>⟨s0,.inr (.inl ⟨rfl,by rw [← hbq,rq2 c0 (hm.mp h1) h2]⟩)⟩,fun h1 h2 h3=>⟨s0,.inr (.inl ⟨rfl,by rw [← hbq,rq3 c0 (hm.mp h1) h2 d0 h3]⟩)⟩,fun h1 h2 h3 h4=>⟨s0,.inr (.inr ⟨rfl,by rw [← hbq,rq4 c0 (hm.mp h1) h2 (fun _=>h3) h4]⟩)⟩⟩,fun h1 h2 h3 r hr' H1 e1=>?_⟩⟩;have q:=q2 (by rw [← hbq,rq5 c0 (hm.mp h1) h2 (fun _=>h3) (hx hr')]) r hr' H1 (s0.trans e1);unfold Jdc at q;rw [if_pos d0] at q;exact q
   ·have d1':door=1:=hd.elim (fun h=>absurd (dd.mpr h) d0) id;refine ⟨_,rfl,h,dh,_,rfl,hh,rfl,_,rfl,_,rfl,_,rfl,tn,_,_,.str p,rfl,rfl,JX.of ht0,rfl,_,rfl,tn,_,_,.int m,rfl,rfl,JX.of ht0,rfl,_,rfl,tn,_,_,.str x,rfl,rfl,JX.of ht0,rfl,h,d1,d2,z,p,x,c,m,bs,[],rfl,J0.tz,tp,tx,J0.A,(fun h=>by rw [hv] at h; cases h),fun v hv'=>⟨b,ps',zs',gs',nov hv',B,fun hc H1 e1=>⟨s0.trans e1,.inr (.inl ⟨rfl,by rw [← hbq,rq0 d1' hc]⟩)⟩,fun hc H1 e1=>⟨fun h1=>⟨s0.trans e1,.inl ⟨rfl,by rw [← hbq,rq1 (fun _=>hc) (fun f=>h1 (hm.mpr f))]⟩⟩,fun h1 h2=>⟨s0.trans e1,.inr (.inl ⟨rfl,by rw [← hbq,rq2 (fun _=>hc) (hm.mp h1) h2]⟩)⟩,fun h1 h2 h3=>absurd ⟨hc.1,Int.le_refl _⟩ h3,fun h1 h2 h3 h4=>⟨s0.trans e1,.inr (.inr ⟨rfl,by rw [← hbq,rq4 (fun _=>hc) (hm.mp h1) h2 (fun f=>by omega) h4]⟩)⟩⟩,fun h1 h2 h3 r hr' H1 e1=>?_⟩⟩;have q:=q2 (by rw [← hbq,rq5 (fun _=>h3) (hm.mp h1) h2 (fun f=>by omega) (hx hr')]) r hr' H1 (s0.trans e1);unfold Jdc at q;rw [if_neg (by omega)] at q;exact q
  ·obtain ⟨s1,⟨e,h1⟩ | ⟨e,h1⟩ | ⟨e,h1⟩⟩:=hE
   ·obtain rfl:C=T.JU:=Value.ref.inj e;refine ⟨T.Jjt,_,rfl,_,_,rfl,⟨"",.inr ⟨_,rfl⟩⟩,T.YF,T.Jc1,_,rfl,_,_,rfl,⟨"",.inr ⟨_,rfl⟩⟩,T.YF,T.Jc2,_,rfl,_,_,rfl,⟨"",.inr ⟨_,rfl⟩⟩,T.YF,T.JbI,_,rfl,_,_,rfl,⟨"",.inr ⟨_,rfl⟩⟩,T.YF,T.Jel,_,rfl,_,_,rfl,⟨"",.inr ⟨_,rfl⟩⟩,T.YF,T.JcZ,_,rfl,_,_,rfl,⟨"",.inr ⟨_,rfl⟩⟩,T.YF,T.JdD,_,rfl,_,_,rfl,⟨"",.inr ⟨_,rfl⟩⟩,T.YF,T.JdC,_,rfl,_,_,rfl,⟨"",.inr ⟨_,rfl⟩⟩,T.YF,T.JdB,_,rfl,_,_,rfl,⟨"",.inr ⟨_,rfl⟩⟩,T.YF,T.Jbh,_,rfl,_,_,rfl,⟨"",.inr ⟨_,rfl⟩⟩,T.YF,T.Jem,_,rfl,_,_,rfl,⟨"",.inr ⟨_,rfl⟩⟩,T.YF,T.JeW,_,rfl,_,_,rfl,⟨"",.inr ⟨_,rfl⟩⟩,T.YF,T.Jc0,_,rfl,_,_,rfl,⟨_,.inl rfl⟩,T.YF,T.Jjj,by show 13≤sizeLine; decide,fun l hl=>?_⟩;exact ⟨_,rfl,l,4, "NoPlace",rfl,by rw [Jh]; rfl,rfl,fun p H2 e2 hp=>q1 (by rw [h1]; decide +kernel) p H2 ((s1.trans (Jf.upd hl)).trans e2) (by rw [h1]; exact hp)⟩
   ·obtain rfl:C=T.JF:=Value.ref.inj e;refine ⟨T.Jgo,_,rfl,_,_,rfl,⟨"",.inr ⟨_,rfl⟩⟩,T.Yh,T.JbG,_,rfl,_,_,rfl,⟨"",.inr ⟨_,rfl⟩⟩,T.Yh,T.JbH,_,rfl,_,_,rfl,⟨"",.inr ⟨_,rfl⟩⟩,T.Yh,T.JaR,_,rfl,_,_,rfl,⟨"",.inr ⟨_,rfl⟩⟩,T.Yh,T.Jck,_,rfl,_,_,rfl,⟨"",.inr ⟨_,rfl⟩⟩,T.Yh,T.JbE,_,rfl,_,_,rfl,⟨"",.inr ⟨_,rfl⟩⟩,T.Yh,T.Jb3,_,rfl,_,_,rfl,⟨"",.inr ⟨_,rfl⟩⟩,T.Yh,T.Jb2,_,rfl,_,_,rfl,⟨"",.inr ⟨_,rfl⟩⟩,T.Yh,T.Jb1,_,rfl,_,_,rfl,⟨"",.inr ⟨_,rfl⟩⟩,T.Yh,T.JaC,_,rfl,_,_,rfl,⟨"",.inr ⟨_,rfl⟩⟩,T.Yh,T.Jcl,_,rfl,_,_,rfl,⟨"",.inr ⟨_,rfl⟩⟩,T.Yh,T.JcY,_,rfl,_,_,rfl,⟨"",.inr ⟨_,rfl⟩⟩,T.Yh,T.JbF,_,rfl,_,_,rfl,⟨_,.inl rfl⟩,T.Yh,T.Jgf,by show 13≤sizeLine; decide,fun l hl=>?_⟩;exact ⟨_,rfl,l,2, "OutOfRange",rfl,by rw [Jh]; rfl,rfl,fun p H2 e2 hp=>q1 (by rw [h1]; decide +kernel) p H2 ((s1.trans (Jf.upd hl)).trans e2) (by rw [h1]; exact hp)⟩
   ·obtain rfl:C=T.J4:=Value.ref.inj e;refine ⟨T.Jju,_,rfl,_,_,rfl,⟨"",.inr ⟨_,rfl⟩⟩,T.YG,T.Jc5,_,rfl,_,_,rfl,⟨"",.inr ⟨_,rfl⟩⟩,T.YG,T.Jc6,_,rfl,_,_,rfl,⟨"",.inr ⟨_,rfl⟩⟩,T.YG,T.JbJ,_,rfl,_,_,rfl,⟨"",.inr ⟨_,rfl⟩⟩,T.YG,T.Jen,_,rfl,_,_,rfl,⟨"",.inr ⟨_,rfl⟩⟩,T.YG,T.Jc3,_,rfl,_,_,rfl,⟨"",.inr ⟨_,rfl⟩⟩,T.YG,T.JdG,_,rfl,_,_,rfl,⟨"",.inr ⟨_,rfl⟩⟩,T.YG,T.JdF,_,rfl,_,_,rfl,⟨"",.inr ⟨_,rfl⟩⟩,T.YG,T.JdE,_,rfl,_,_,rfl,⟨"",.inr ⟨_,rfl⟩⟩,T.YG,T.Jbi,_,rfl,_,_,rfl,⟨"",.inr ⟨_,rfl⟩⟩,T.YG,T.Jeo,_,rfl,_,_,rfl,⟨"",.inr ⟨_,rfl⟩⟩,T.YG,T.JeX,_,rfl,_,_,rfl,⟨"",.inr ⟨_,rfl⟩⟩,T.YG,T.Jc4,_,rfl,_,_,rfl,⟨_,.inl rfl⟩,T.YG,T.Jjk,by show 13≤sizeLine; decide,fun l hl=>?_⟩;exact ⟨_,rfl,l,1, "BadHand",rfl,by rw [Jh]; rfl,rfl,fun p H2 e2 hp=>q1 (by rw [h1]; decide +kernel) p H2 ((s1.trans (Jf.upd hl)).trans e2) (by rw [h1]; exact hp)⟩
end
section
variable {P:Program} {w:World} {K:PySem.W.Frag} {mg:Str→Option Value} {base:Heap}
def JnZ (K:PySem.W.Frag):Sp:=fun vs H Q _=>∃ (t tn:Addr) (p x:Str) (door c m n s:Int) (ps:List Str) (zs:List (V×(Str×Str))) (gs:List Str),vs=[.ref t,.int door,.int c,.ref tn]∧Ground K H t ps zs gs∧H tn=some (.tup [.str p,.int m,.int n,.int s,.str x])∧Q (.str (Zm ps door c p m n s x)) H
theorem Joi (T:Txt K mg):JL P w K mg base YK 1 T.Jhd T.Jf4 ["_law_ground", "_law_door", "_law_coins", "_law_now"] (JnZ K):=by
 refine T.Jhv.F.ok Jn7 (fun vs H Q E h=>?_) (fun cdv A outer s H vs Q E hr h=>?_)
 ·obtain ⟨_,_,_,_,_,_,_,_,_,_,_,_,rfl,_⟩:=h;rfl
 ·obtain ⟨t,tn,p,x,door,c,m,n,s,ps,zs,gs,rfl,G,htn,q⟩:=h;refine ⟨_,(@Je _ _ _ _ _ (@Yj _ _ _ (@JN _ _ _ _ _ _ _ _ (@PW.pt _ _ _ (@JcU _ _ _ _ _ _ _ (@Jq _ _ _ _ _ _ _ _ (@Yl _) (@pv _ 1 _ _ rfl (.inl rfl) rfl rfl) (@Jd _ _ _ _) (Ju _)) (@JbB _ _ _ _ (@PW.pt _ _ _ (@Jah _ _ _ _ _ _ _ (@Jq _ _ _ _ _ _ _ _ (@JaY _) (@pv _ 2 _ _ rfl (.inl rfl) rfl rfl) (@Jd _ _ _ _) (Ju _)) (@Jap _ _ _ _ (@Jq _ _ _ _ _ _ _ _ (@JbY _) (@pv _ 2 _ _ rfl (.inl rfl) rfl rfl) (@Jd _ _ _ _) (Ju _)))))))) (@Ji _ _ _ (@Jw _ _ _ _ (@Js _ _ _ _))) (@JD _))) (@Je _ _ _ _ _ (@JN _ _ _ _ _ _ _ _ (@Jq _ _ _ _ _ _ _ _ (@JbX _) (@Jr _ _ _ _ _ _ _ (@Yg _) (@pv _ 3 _ _ rfl (.inl rfl) rfl rfl) (@Jd _ _ _ _) (fun _ _=>rfl)) (@Jr _ _ _ _ _ _ _ (@Yg _) (@pv _ 0 _ _ rfl (.inl rfl) rfl rfl) (@Jd _ _ _ _) (fun _ _=>rfl)) (by with_unfolding_all rfl)) (@Ji _ _ _ (@Jw _ _ _ _ (@Js _ _ _ _))) (@JD _)) (@Je _ _ _ _ _ (@JN _ _ _ _ _ _ _ _ (@PW.pt _ _ _ (@Jah _ _ _ _ _ _ _ (@Jq _ _ _ _ _ _ _ _ (@JaY _) (@Jr _ _ _ _ _ _ _ (@Yg _) (@pv _ 3 _ _ rfl (.inl rfl) rfl rfl) (@Jd _ _ _ _) (fun _ _=>rfl)) (@Jd _ _ _ _) (Ju _)) (@Jap _ _ _ _ (@Jq _ _ _ _ _ _ _ _ (@JbY _) (@Jr _ _ _ _ _ _ _ (@Yg _) (@pv _ 3 _ _ rfl (.inl rfl) rfl rfl) (@Jd _ _ _ _) (fun _ _=>rfl)) (@Jd _ _ _ _) (Ju _))))) (@Ji _ _ _ (@Jw _ _ _ _ (@Js _ _ _ _))) (@JD _)) (@Je _ _ _ _ _ (@Yj _ _ _ (@JN _ _ _ _ _ _ _ _ (@PW.pt _ _ _ (@JcU _ _ _ _ _ _ _ (@Jq _ _ _ _ _ _ _ _ (@Yl _) (@pv _ 1 _ _ rfl (.inl rfl) rfl rfl) (@Jd _ _ _ _) (Ju _)) (@JbB _ _ _ _ (@PW.pt _ _ _ (@Jah _ _ _ _ _ _ _ (@Jq _ _ _ _ _ _ _ _ (@JaY _) (@Jr _ _ _ _ _ _ _ (@Yg _) (@pv _ 3 _ _ rfl (.inl rfl) rfl rfl) (@Jd _ _ _ _) (fun _ _=>rfl)) (@Jd _ _ _ _) (Ju _)) (@Jah _ _ _ _ _ _ _ (@Jq _ _ _ _ _ _ _ _ (@JaY _) (@Jr _ _ _ _ _ _ _ (@Yg _) (@pv _ 3 _ _ rfl (.inl rfl) rfl rfl) (@Jd _ _ _ _) (fun _ _=>rfl)) (@Jd _ _ _ _) (Ju _)) (@Jap _ _ _ _ (@Jq _ _ _ _ _ _ _ _ (@JbY _) (@Jk _ _ _ _ _ _ _ _ (@JM _) (@Jr _ _ _ _ _ _ _ (@Yg _) (@pv _ 3 _ _ rfl (.inl rfl) rfl rfl) (@Jd _ _ _ _) (fun _ _=>rfl)) (@Jr _ _ _ _ _ _ _ (@Yg _) (@pv _ 3 _ _ rfl (.inl rfl) rfl rfl) (@Jd _ _ _ _) (fun _ _=>rfl))) (@Jd _ _ _ _) (Ju _))))))))) (@Ji _ _ _ (@Jw _ _ _ _ (@Js _ _ _ _))) (@JD _))) (@Je _ _ _ _ _ (@Yj _ _ _ (@JN _ _ _ _ _ _ _ _ (@PW.pt _ _ _ (@JcU _ _ _ _ _ _ _ (@Jq _ _ _ _ _ _ _ _ (@JdN _) (@Jr _ _ _ _ _ _ _ (@Yg _) (@pv _ 3 _ _ rfl (.inl rfl) rfl rfl) (@Jd _ _ _ _) (fun _ _=>rfl)) (@Js _ _ _ _) (Ju _)) (@JbB _ _ _ _ (@Jq _ _ _ _ _ _ _ _ (@JdN _) (@Jr _ _ _ _ _ _ _ (@Yg _) (@pv _ 3 _ _ rfl (.inl rfl) rfl rfl) (@Jd _ _ _ _) (fun _ _=>rfl)) (@Js _ _ _ _) (Ju _))))) (@Ji _ _ _ (@Jw _ _ _ _ (@Js _ _ _ _))) (@JD _))) (@Ji _ _ _ (@Jw _ _ _ _ (@Js _ _ _ _)))))))),?_⟩;obtain ⟨pn,pl,pg,h1,h2,h3,h4,h5⟩:=G.at_;have nh:∀ {w:Str},YZ w=false↔w ≠ "north"∧w ≠ "south":=by
   intro w;unfold YZ;rw [Bool.or_eq_false_iff,beq_eq_false_iff_ne,beq_eq_false_iff_ne]
  have tB:∀ {w u:Str},(!decide (V.str w=V.str u))=true↔w≠u:=by
   intro w u;rw [JfN,Bool.not_eq_true',beq_eq_false_iff_ne]
  have tJ:∀ {i j:Int},decide (V.int i=V.int j)=true↔i=j:=by
   intro i j;rw [JfO,decide_eq_true_eq]
  refine ⟨fun σ1 H1=>H1=H∧(door=1→0≤c∧c≤20)∧σ1=[some (.ref t),some (.int door),some (.int c),some (.ref tn)],?_,?_⟩
  ·refine ⟨_,rfl,rfl,_,rfl,Yp (fun d1=>?_) (fun d1=>Y5 ⟨rfl,fun h=>absurd (tJ.mpr h) d1,rfl⟩)⟩;have c3:¬ (0≤c∧c≤20)→Q (.str "OutOfRange") H:=fun h=>by rw [rq0 (tJ.mp d1) h] at q; exact q
   exact ⟨_,rfl,_,_,rfl,rfl,_,rfl,Yp (fun m0=>Y0 (c3 fun h=>by have:=of_decide_eq_true m0; omega)) (fun m0=>⟨_,rfl,_,_,rfl,rfl,_,rfl,Yp (fun m1=>c3 fun h=>by have:=of_decide_eq_true m1; omega) (fun m1=>⟨rfl,fun _=>⟨Int.not_lt.mp fun z=>m0 (decide_eq_true z),Int.not_lt.mp fun z=>m1 (decide_eq_true z)⟩,rfl⟩)⟩)⟩
  rintro σ1 H1 ⟨rfl,hc,rfl⟩;refine ⟨_,rfl,tn,_,_,.str p,rfl,rfl,JX.of htn,rfl,_,rfl,t,_,_,.ref pn,rfl,rfl,JX.of h1,rfl,pn,_,rfl,.inl (Jp.of h2),rfl,Jc7 _,?_⟩;rw [if_pos rfl,Jet];by_cases hz:p∈ps
  ·rw [decide_eq_true hz];refine ⟨_,rfl,Y5 ?_⟩;have c2:¬ (0≤m∧m≤30)→Q (.str "OutOfRange") H1:=fun h=>by rw [rq2 hc hz h] at q; exact q
   refine ⟨_,rfl,tn,_,_,.int m,rfl,rfl,JX.of htn,rfl,_,_,rfl,rfl,_,rfl,Yp (fun m0=>Y0 (c2 fun h=>by have:=of_decide_eq_true m0; omega)) (fun m0=>⟨_,rfl,tn,_,_,.int m,rfl,rfl,JX.of htn,rfl,_,_,rfl,rfl,_,rfl,Yp (fun m1=>c2 fun h=>by have:=of_decide_eq_true m1; omega) (fun m1=>?_)⟩)⟩;have hm:0≤m∧m≤30:=⟨Int.not_lt.mp fun z=>m0 (decide_eq_true z),Int.not_lt.mp fun z=>m1 (decide_eq_true z)⟩
   refine ⟨fun σ1 H2=>H2=H1∧(door=0→0≤n∧0≤s∧n + s≤20)∧σ1=[some (.ref t),some (.int door),some (.int c),some (.ref tn)],?_,?_⟩
   ·refine ⟨_,rfl,rfl,_,rfl,Yp (fun d1=>?_) (fun d1=>Y5 ⟨rfl,fun h=>absurd (tJ.mpr h) d1,rfl⟩)⟩;have c3:¬ (0≤n∧0≤s∧n + s≤20)→Q (.str "OutOfRange") H1:=fun h=>by rw [rq3 hc hz hm (tJ.mp d1) h] at q; exact q
    exact ⟨_,rfl,tn,_,_,.int n,rfl,rfl,JX.of htn,rfl,_,_,rfl,rfl,_,rfl,Yp (fun m0=>Y0 (c3 fun h=>by have:=of_decide_eq_true m0; omega)) (fun m0=>⟨_,rfl,tn,_,_,.int s,rfl,rfl,JX.of htn,rfl,_,_,rfl,rfl,_,rfl,Yp (fun m1=>Y0 (c3 fun h=>by have:=of_decide_eq_true m1; omega)) (fun m1=>⟨_,rfl,tn,_,_,.int n,rfl,rfl,JX.of htn,rfl,_,rfl,tn,_,_,.int s,rfl,rfl,JX.of htn,rfl,_,_,rfl,rfl,_,_,rfl,rfl,_,rfl,Yp (fun m2=>c3 fun h=>by have:=of_decide_eq_true m2; omega) (fun m2=>⟨rfl,fun _=>⟨Int.not_lt.mp fun z=>m0 (decide_eq_true z),Int.not_lt.mp fun z=>m1 (decide_eq_true z),Int.not_lt.mp fun z=>m2 (decide_eq_true z)⟩,rfl⟩)⟩)⟩)⟩
   rintro σ1 H2 ⟨rfl,hn,rfl⟩;refine ⟨fun σ1 H3=>H3=H2∧YZ x=true,?_,?_⟩
   ·refine ⟨_,rfl,tn,_,_,.str x,rfl,rfl,JX.of htn,rfl,rfl,_,rfl,Yp (fun x1=>⟨_,rfl,tn,_,_,.str x,rfl,rfl,JX.of htn,rfl,rfl,_,rfl,Yp (fun x2=>?_) (fun x2=>⟨rfl,?_⟩)⟩) (fun x1=>Y5 ⟨rfl,?_⟩)⟩
    ·rw [rq4 hc hz hm hn (nh.mpr ⟨tB.mp x1,tB.mp x2⟩)] at q; exact q
    ·cases hh:YZ x with
     | true=>rfl
     | false=>exact absurd (tB.mpr (nh.mp hh).2) x2
    ·cases hh:YZ x with
     | true=>rfl
     | false=>exact absurd (tB.mpr (nh.mp hh).1) x1
   rintro σ1 H3 ⟨rfl,hx⟩;rw [rq5 hc hz hm hn hx] at q;exact q
  ·rw [decide_eq_false hz];rw [rq1 hc hz] at q;exact ⟨_,rfl,Y0 q⟩
def JsS:Sp:=fun vs H Q _=>∃ ce g mo:Int,vs=[.int ce,.int g,.int mo]∧∀ (y:Int) (H':Hp),(y=g∨mo < y∨y < 0)→Jf H H'→Q (.int y) H'
theorem Ji8 (T:Txt K mg):JL P w K mg base YK 1 T.Jox T.JmA ["_law_cell", "_law_good", "_law_most"] JsS:=by
 refine T.JhR.F.ok Jo7 (fun vs H Q E h=>?_) (fun cdv A outer s H vs Q E hr h=>?_)
 ·obtain ⟨_,_,_,rfl,_⟩:=h;rfl
 ·obtain ⟨c,g,mo,rfl,q⟩:=h;refine ⟨_,(@Je _ _ _ _ _ (@JN _ _ _ _ _ _ _ _ (@Jq _ _ _ _ _ _ _ _ (@JdN _) (@Jk _ _ _ _ _ _ _ _ (@JZ _) (@pv _ 0 _ _ rfl (.inl rfl) rfl rfl) (@Jd _ _ _ _)) (@Jd _ _ _ _) (Ju _)) (@Ji _ _ _ (@Jw _ _ _ _ (@pv _ 1 _ _ rfl (.inl rfl) rfl rfl))) (@JD _)) (@Je _ _ _ _ _ (@Jx _ _ 3 _ _ _ _ Jo7.nd rfl (Or.inl rfl) (@Jk _ _ _ _ _ _ _ _ (@JM _) (@Jk _ _ _ _ _ _ _ _ (@JM _) (@Jd _ _ _ _) (@Jk _ _ _ _ _ _ _ _ (@JZ _) (@Jk _ _ _ _ _ _ _ _ (@YL _) (@pv _ 0 _ _ rfl (.inl rfl) rfl rfl) (@Jd _ _ _ _)) (@Jd _ _ _ _))) (@Jr _ _ _ _ _ _ _ (@JE _) (@J7 _ _ _ _ (@Ja _ _ _ _ _ (@Jd _ _ _ _) (@Ja _ _ _ _ _ (@Jd _ _ _ _) (@Ja _ _ _ _ _ (@Jk _ _ _ _ _ _ _ _ (@Jtf _) (@Jd _ _ _ _) (@Jd _ _ _ _)) (@Jc _) rfl) rfl) rfl)) (@Jk _ _ _ _ _ _ _ _ (@JZ _) (@Jk _ _ _ _ _ _ _ _ (@YL _) (@pv _ 0 _ _ rfl (.inl rfl) rfl rfl) (@Jd _ _ _ _)) (@Jd _ _ _ _)) (fun _ _=>rfl))) rfl (.inl rfl)) (@Ji _ _ _ (@Jw _ _ _ _ (@Jr _ _ _ _ _ _ _ (@JE _) (@J7 _ _ _ _ (@Ja _ _ _ _ _ (@Jk _ _ _ _ _ _ _ _ (@JM _) (@pv _ 2 _ _ rfl (.inl rfl) rfl rfl) (@pv _ 3 _ _ rfl (.inl rfl) rfl rfl)) (@Ja _ _ _ _ _ (@Jk _ _ _ _ _ _ _ _ (@Y8 _) (@Jd _ _ _ _) (@pv _ 3 _ _ rfl (.inl rfl) rfl rfl)) (@Jc _) rfl) rfl)) (@Jk _ _ _ _ _ _ _ _ (@JZ _) (@Jk _ _ _ _ _ _ _ _ (@YL _) (@pv _ 0 _ _ rfl (.inl rfl) rfl rfl) (@Jd _ _ _ _)) (@Jd _ _ _ _)) (fun _ _=>rfl)))))),?_⟩;refine ⟨_,rfl,_,_,rfl,rfl,(by show (0:Int) < 6; decide),rfl,_,rfl,Yp (fun _=>?_) (fun _=>?_)⟩
  ·exact ⟨_,rfl,q g H (.inl rfl) (Jf.refl _)⟩
  ·refine ⟨_,rfl,_,_,rfl,rfl,⟨by decide,by decide⟩,_,_,rfl,rfl,(by show (0:Int) < 30; decide),_,_,rfl,rfl,_,_,rfl,rfl,⟨by decide,by decide,by decide⟩,by show 3≤sizeLine; decide,fun l hl=>?_⟩;obtain ⟨y,hy,y0⟩:∃ y:Int,atI [V.int 0,V.int 0,V.int (10 ^ 40)] (c / 12 % 3)=some (.int y)∧0≤y:=by
    have h:c / 12 % 3=0∨c / 12 % 3=1∨c / 12 % 3=2:=by omega
    rcases h with h | h | h <;> rw [h]
    ·exact ⟨0,rfl,by decide⟩
    ·exact ⟨0,rfl,by decide⟩
    ·exact ⟨10 ^ 40,rfl,by decide⟩
   refine ⟨_,rfl,_,_,rfl,rfl,⟨by decide,by decide⟩,_,_,rfl,rfl,(by show (0:Int) < 3; decide),l,_,_,.int y,rfl,rfl,Jp.of Jh,hy,_,_,rfl,rfl,?_⟩;refine ⟨_,rfl,_,rfl,_,_,rfl,rfl,_,rfl,_,_,rfl,rfl,by show 2≤sizeLine; decide,fun l2 hl2=>?_⟩;have hb:=Jej (x:=c / 36) (n:=30) (by decide);refine ⟨_,rfl,_,_,rfl,rfl,⟨by decide,by decide⟩,_,_,rfl,rfl,(by show (0:Int) < 2; decide),l2,_,_,.int (if c / 6 % 2=0 then mo + (1 + c / 36 % 30 + y) else 0 - (1 + c / 36 % 30 + y)),rfl,rfl,Jp.of Jh,?_,q _ _ (.inr (by split <;> omega)) ((Jf.upd hl).trans (Jf.upd hl2))⟩;have h:c / 6 % 2=0∨c / 6 % 2=1:=by omega
   rcases h with h | h <;> rw [h] <;> rfl
def Jnn (K:PySem.W.Frag):Sp:=fun vs H Q _=>∃ (tn lf:Addr) (p x:Str) (m:Int) (n s c nd:Int),vs=[.int c,.ref tn,.ref lf]∧H tn=some (.tup [.str p,.int m,.int n,.int s,.str x])∧H lf=some (.lst [.str (hs (decide (nd≤n))),if nd≤c then .int nd else .non])∧(0≤nd∧nd≤c + 1)∧(0≤n∧n≤c)∧∀ H',Jf H H'→Q (.bl true) H'
theorem Jsk (T:Txt K mg):JL P w K mg base YK 3 T.JmI T.Jkn ["_law_coins", "_law_now", "_law_found"] (Jnn K):=by
 refine T.JmY.F.ok Jsb (fun vs H Q E h=>?_) (fun cdv A outer s H vs Q E hr h=>?_)
 ·obtain ⟨_,_,_,_,_,_,_,_,_,rfl,_⟩:=h;rfl
 ·obtain ⟨tn,lf,p,x,m,n,s,c,nd,rfl,htn,hlf,hnd,hn,q⟩:=h;refine ⟨_,(@Je _ _ _ _ _ (@JN _ _ _ _ _ _ _ _ (@JfB _ _ _ _ _ _ (@JgL _ _ _ _ _ (@Jr _ _ _ _ _ _ _ (@JE _) (@pv _ 2 _ _ rfl (.inl rfl) rfl rfl) (@Jd _ _ _ _) (fun _ _=>rfl))) (by first | exact Z8 _ (by decide) (by decide) | rfl)) (@Ji _ _ _ (@Jw _ _ _ _ (@Jl _ _ _ _ _ _ _ _ _ _ _ _ _ _ _ T.Ja4 (Jbt T) (hr.mono (by decide)) JG (@Ja _ _ _ _ _ (@Jr _ _ _ _ _ _ _ (@JE _) (@pv _ 2 _ _ rfl (.inl rfl) rfl rfl) (@Jd _ _ _ _) (fun _ _=>rfl)) (@Ja _ _ _ _ _ (@Js _ _ _ _) (@Jc _) rfl) rfl) rfl (by decide) rfl rfl))) (@JD _)) (@Je _ _ _ _ _ (@JN _ _ _ _ _ _ _ _ (@PW.pt _ _ _ (@Jah _ _ _ _ _ _ _ (@Jbf _ _ _ _ (@Z5 _ _ _ (@Jl _ _ _ _ _ _ _ _ _ _ _ _ _ _ _ T.JhP (Jl9 T) (hr.mono (by decide)) JG (@Ja _ _ _ _ _ (@Jr _ _ _ _ _ _ _ (@JE _) (@pv _ 2 _ _ rfl (.inl rfl) rfl rfl) (@Jd _ _ _ _) (fun _ _=>rfl)) (@Jc _) rfl) rfl (by decide) rfl rfl) (by intro _; rfl))) (@Jah _ _ _ _ _ _ _ (@Jq _ _ _ _ _ _ _ _ (@JaY _) (@Jr _ _ _ _ _ _ _ (@JE _) (@pv _ 2 _ _ rfl (.inl rfl) rfl rfl) (@Jd _ _ _ _) (fun _ _=>rfl)) (@Jd _ _ _ _) (Ju _)) (@Jap _ _ _ _ (@Jq _ _ _ _ _ _ _ _ (@JbY _) (@Jr _ _ _ _ _ _ _ (@JE _) (@pv _ 2 _ _ rfl (.inl rfl) rfl rfl) (@Jd _ _ _ _) (fun _ _=>rfl)) (@pv _ 0 _ _ rfl (.inl rfl) rfl rfl) (Ju _)))))) (@Ji _ _ _ (@Jw _ _ _ _ (@JbW _ _ _ _))) (@JD _)) (@Ji _ _ _ (@Jw _ _ _ _ (@Jl _ _ _ _ _ _ _ _ _ _ _ _ _ _ _ T.Ja4 (Jbt T) (hr.mono (by decide)) JG (@Ja _ _ _ _ _ (@Jr _ _ _ _ _ _ _ (@JE _) (@pv _ 2 _ _ rfl (.inl rfl) rfl rfl) (@Jd _ _ _ _) (fun _ _=>rfl)) (@Ja _ _ _ _ _ (@Jr _ _ _ _ _ _ _ (@JE _) (@J7 _ _ _ _ (@Ja _ _ _ _ _ (@Js _ _ _ _) (@Ja _ _ _ _ _ (@Js _ _ _ _) (@Jc _) rfl) rfl)) (@Y2 _ _ _ _ _ _ _ _ _ (@JbL _) rfl T.JeV PyProof.Rows.boot_int (@Ja _ _ _ _ _ (@ZF _ _ _ _ _ _ _ _ (@Jog _) (@Jr _ _ _ _ _ _ _ (@Yg _) (@pv _ 1 _ _ rfl (.inl rfl) rfl rfl) (@Jd _ _ _ _) (fun _ _=>rfl)) (@Jr _ _ _ _ _ _ _ (@JE _) (@pv _ 2 _ _ rfl (.inl rfl) rfl rfl) (@Jd _ _ _ _) (fun _ _=>rfl)) (Ju _)) (@Jc _) rfl) (by decide) (by decide) rfl rfl) (fun _ _=>rfl)) (@Jc _) rfl) rfl) rfl (by decide) rfl rfl))))),?_⟩;by_cases hc:nd≤c
  ·rw [if_pos hc] at hlf;refine ⟨_,rfl,lf,_,_,.int nd,rfl,rfl,Jp.of hlf,rfl,_,rfl,Y5 ?_⟩;refine ⟨_,rfl,lf,_,_,.int nd,rfl,rfl,Jp.of hlf,rfl,nd,rfl,_,rfl,Y5 ⟨_,rfl,lf,_,_,.int nd,rfl,rfl,Jp.of hlf,rfl,_,_,rfl,rfl,_,rfl,Yq (decide_eq_false (by omega)) ⟨_,rfl,lf,_,_,.int nd,rfl,rfl,Jp.of hlf,rfl,_,rfl,_,_,rfl,rfl,_,rfl,Yq (decide_eq_false (by omega)) ?_⟩⟩⟩;refine ⟨_,rfl,lf,_,_,.str (hs (decide (nd≤n))),rfl,rfl,Jp.of hlf,rfl,by show 2≤sizeLine; decide,fun l nl=>?_⟩;have s1:=Jf.upd (o:=.lst [.str "south",.str "north"]) nl;have pk:atI [V.str "south",V.str "north"] (if decide (nd≤n)=true then 1 else 0)=some (.str (hs (decide (nd≤n)))):=by
    cases decide (nd≤n) <;> rfl
   exact ⟨_,rfl,tn,_,_,.int n,rfl,rfl,JX.of (s1 _ _ htn),rfl,_,rfl,lf,_,_,.int nd,rfl,rfl,Jp.of (s1 _ _ hlf),rfl,_,_,rfl,rfl,.inr ⟨_,rfl,l,_,_,.str (hs (decide (nd≤n))),rfl,rfl,Jp.of Jh,pk,_,rfl,rfl,q _ s1⟩⟩
  ·rw [if_neg hc,decide_eq_false (show ¬ nd≤n by omega)] at hlf;exact ⟨_,rfl,lf,_,_,.non,rfl,rfl,Jp.of hlf,rfl,_,rfl,Y0 ⟨_,rfl,lf,_,_,.str "south",rfl,rfl,Jp.of hlf,rfl,_,rfl,rfl,q _ (Jf.refl _)⟩⟩
end
section
variable {P:Program} {w:World} {K:PySem.W.Frag} {mg:Str→Option Value} {base:Heap}
theorem Jmw {zs:List (Str×Str)} {gs:List Str} {c:Int} {m:Nat} {p:Str} {r:Bool} {ys:List V} (inv:(ys=[]∧c + 1≤JO zs gs c m p r)∨(∃ l,ys=.int (JO zs gs c m p r) :: l∧JO zs gs c m p r < c + 1)):Jly ys=ZQ zs gs c m p r:=by
 unfold ZQ;rcases inv with ⟨rfl,h⟩ | ⟨l,rfl,h⟩
 ·rw [if_neg (by omega)]; rfl
 ·rw [if_pos (by omega)]; rfl
theorem Jjp {zs:List (Str×Str)} {gs:List Str} {c:Int} {m:Nat} {p:Str} {r:Bool}:JlA (ZQ zs gs c m p r)=true:=by unfold ZQ; split <;> rfl
def Jqq (K:PySem.W.Frag):Sp:=fun vs H Q _=>∃ (t tn lf:Addr) (p:Str) (m:Nat) (n s:Int) (r:Bool) (c:Nat) (ps:List Str) (zs:List (V×(Str×Str))) (gs:List Str) (zs':List (V×(Str×Str))) (gs':List Str),vs=[.ref t,.int (c:Int),.ref tn,.ref lf]∧Ground K H t ps zs gs∧zs'.Perm zs∧gs'.Perm gs∧(zs'.map (·.2)).Pairwise ple∧H tn=some (.tup [.str p,.int (m:Int),.int n,.int s,.str (hs r)])∧H lf=some (.lst [.str (hs (decide (JO (zs'.map (·.2)) gs' c m p r≤n))),ZQ (zs'.map (·.2)) gs' c m p r])∧p∈ps∧m≤30∧(0≤n∧n≤c)∧c≤20∧∀ H',Jf H H'→Q (.bl true) H'
theorem JqU (T:Txt K mg):JL P w K mg base YK 6 T.Jky T.JiH ["_law_ground", "_law_coins", "_law_now", "_law_found"] (Jqq K):=by
 refine T.JkI.F.ok Jin (fun vs H Q E h=>?_) (fun cdv A outer s H vs Q E hr h=>?_)
 ·obtain ⟨_,_,_,_,_,_,_,_,_,_,_,_,_,_,rfl,_⟩:=h;rfl
 ·obtain ⟨t,tn,lf,p,m,n,s,r,c,ps,zs,gs,zs',gs',rfl,G,zp,gp,zo,htn,hlf,hp,hm,hn,c1,q⟩:=h;have hu:=Ja1 hr;have szl:sizeLine=16777216:=sizeLine_eq;refine ⟨_,(@Je _ _ _ _ _ (@Jx _ _ 4 _ _ _ _ Jin.nd rfl (Or.inr rfl) (@Jl _ _ _ _ _ _ _ _ _ _ _ _ _ _ _ T.JhS (Jmd T) (hr.mono (by decide)) JG (@Ja _ _ _ _ _ (@pv _ 0 _ _ rfl (.inl rfl) rfl rfl) (@Ja _ _ _ _ _ (@pv _ 1 _ _ rfl (.inl rfl) rfl rfl) (@Ja _ _ _ _ _ (@Jr _ _ _ _ _ _ _ (@Yg _) (@pv _ 2 _ _ rfl (.inr (.inl rfl)) rfl rfl) (@Jd _ _ _ _) (fun _ _=>rfl)) (@Jc _) rfl) rfl) rfl) rfl (by decide) rfl rfl) rfl (by first | exact .inl rfl | exact .inr rfl | assumption)) (@Je _ _ _ _ _ (@JN _ _ _ _ _ _ _ _ (@Jbf _ _ _ _ (@Z5 _ _ _ (@Jl _ _ _ _ _ _ _ _ _ _ _ _ _ _ _ T.Ja4 (Jbt T) (hr.mono (by decide)) JG (@Ja _ _ _ _ _ (@Jr _ _ _ _ _ _ _ (@JE _) (@pv _ 3 _ _ rfl (.inl rfl) rfl rfl) (@Jd _ _ _ _) (fun _ _=>rfl)) (@Ja _ _ _ _ _ (@Jac _ _ _ _ _ _ hu (@pv _ 4 _ _ rfl (.inr (.inl rfl)) rfl rfl) (@Yz _ _ _ _ _ (@Ja _ _ _ _ _ (@Jr _ _ _ _ _ _ _ (@Yg _) (@pv _ 2 _ _ rfl (.inr (.inl rfl)) rfl rfl) (@Jd _ _ _ _) (fun _ _=>rfl)) (@Ja _ _ _ _ _ (@Jr _ _ _ _ _ _ _ (@Yg _) (@pv _ 2 _ _ rfl (.inr (.inl rfl)) rfl rfl) (@Jd _ _ _ _) (fun _ _=>rfl)) (@Ja _ _ _ _ _ (@Jr _ _ _ _ _ _ _ (@Yg _) (@pv _ 2 _ _ rfl (.inr (.inl rfl)) rfl rfl) (@Jd _ _ _ _) (fun _ _=>rfl)) (@Ja _ _ _ _ _ (@Jr _ _ _ _ _ _ _ (@Yg _) (@pv _ 2 _ _ rfl (.inr (.inl rfl)) rfl rfl) (@Jd _ _ _ _) (fun _ _=>rfl)) (@Jc _) rfl) rfl) rfl) rfl)) (fun _ _=>rfl)) (@Jc _) rfl) rfl) rfl (by decide) rfl rfl) (by intro _; rfl))) (@Ji _ _ _ (@Jw _ _ _ _ (@JbW _ _ _ _))) (@JD _)) (@Je _ _ _ _ _ (@JfZ _ _ _ _ _ _ _ _ _ _ 5 1 ["_law_n", "_law_wins", "_law_now"] [4,2] _ _ _ _ ["_law_ground", "_law_coins", "_law_now", "_law_found", "_law_wins", "_law_few"] ((Jm JhE).names) (by decide +kernel) Jin.nd rfl (@Yx _ _ _ _ _ _ rfl T.YM (@Ja _ _ _ _ _ (@Jk _ _ _ _ _ _ _ _ (@JM _) (@pv _ 1 _ _ rfl (.inl rfl) rfl rfl) (@Jd _ _ _ _)) (@Jc _) rfl) rfl) (fun _ _ _ _=>(@Zr _ _ _ _ _ _ _ _ _ 0 (by decide +kernel) rfl rfl)) (fun _ _ _ _=>(@Jcs _ _ _ (@Jq _ _ _ _ _ _ _ _ (@Yl _) (@Jac _ _ _ _ _ _ hu (@Yn _ _ _ _ _ _ _ _ _ 1 rfl rfl (by decide) (by decide)) (@Yz _ _ _ _ _ (@Ja _ _ _ _ _ (@Jr _ _ _ _ _ _ _ (show IxR _ (Jir K) from (@Yg _)) (@Yn _ _ _ _ _ _ _ _ _ 2 rfl rfl (by decide) (by decide)) (@Jd _ _ _ _) (fun _ _=>rfl)) (@Ja _ _ _ _ _ (@Jr _ _ _ _ _ _ _ (show IxR _ (Jir K) from (@Yg _)) (@Yn _ _ _ _ _ _ _ _ _ 2 rfl rfl (by decide) (by decide)) (@Jd _ _ _ _) (fun _ _=>rfl)) (@Ja _ _ _ _ _ (@YT _ _ _ _ _ _ _ _ _ 0 rfl rfl (by decide) (by decide)) (@Ja _ _ _ _ _ (@Jr _ _ _ _ _ _ _ (show IxR _ (Jir K) from (@Yg _)) (@Yn _ _ _ _ _ _ _ _ _ 2 rfl rfl (by decide) (by decide)) (@Jd _ _ _ _) (fun _ _=>rfl)) (@Jc _) rfl) rfl) rfl) rfl)) (fun _ _=>rfl)) (@Js _ _ _ _) (Ju _)))) (fun _ _ _ _=>(@YT _ _ _ _ _ _ _ _ _ 0 rfl rfl (by decide) (by decide))) rfl rfl rfl rfl rfl (by intro _; rfl)) (@Ji _ _ _ (@Jw _ _ _ _ (@Jl _ _ _ _ _ _ _ _ _ _ _ _ _ _ _ T.Ja4 (Jbt T) (hr.mono (by decide)) JG (@Ja _ _ _ _ _ (@Jr _ _ _ _ _ _ _ (@JE _) (@pv _ 3 _ _ rfl (.inl rfl) rfl rfl) (@Jd _ _ _ _) (fun _ _=>rfl)) (@Ja _ _ _ _ _ (@Jl _ _ _ _ _ _ _ _ _ _ _ _ _ _ _ T.JhT (Jmg T) (hr.mono (by decide)) JG (@Ja _ _ _ _ _ (@pv _ 5 _ _ rfl (.inl rfl) rfl rfl) (@Jc _) rfl) rfl (by decide) rfl rfl) (@Jc _) rfl) rfl) rfl (by decide) rfl rfl)))))),?_⟩;have c0:0≤(c:Int):=by omega
  refine ⟨_,rfl,_,rfl,_,rfl,tn,_,_,.int (m:Int),rfl,rfl,JX.of htn,rfl,t,m,ps,zs,gs,zs',gs',(c:Int),rfl,hm,c0,by omega,G,zp,gp,zo,fun d H1 e1 TB=>?_⟩;obtain ⟨kvs,k1,k2⟩:=TB;have htn1:=e1 _ _ htn;have hlf1:=e1 _ _ hlf;refine ⟨_,rfl,lf,_,_,.str (hs (decide (JO (zs'.map (·.2)) gs' c m p r≤n))),rfl,rfl,Jp.of hlf1,rfl,_,rfl,_,rfl,tn,_,_,.str p,rfl,rfl,JX.of htn1,rfl,_,rfl,tn,_,_,.int (m:Int),rfl,rfl,JX.of htn1,rfl,_,rfl,tn,_,_,.int n,rfl,rfl,JX.of htn1,rfl,_,rfl,tn,_,_,.str (hs r),rfl,rfl,JX.of htn1,rfl,by show 4≤sizeLine; decide,fun t2 n2=>?_⟩;have s2:=Jf.upd (o:=.tup [.str p,.int (m:Int),.int n,.str (hs r)]) n2;have g:=ZB.t (k:=Yw p m n r) (s2 _ _ k1) (show upd H1 t2 (.tup [.str p,.int (m:Int),.int n,.str (hs r)]) t2=some (.tup ((Yw p m n r).map kV)) by rw [Jh]; rfl);rw [k2 m (Nat.le_refl _) p hp n hn.1 hn.2 r] at g;refine ⟨d,_,rfl,g,_,rfl,rfl,_,rfl,Y5 ?_⟩;have e2:=e1.trans s2;have k12:=s2 _ _ k1;generalize upd H1 t2 (.tup [.str p,.int (m:Int),.int n,.str (hs r)])=H2 at e2 k12;clear g;have htn2:=e2 _ _ htn;refine ⟨_,rfl,_,_,rfl,rfl,(c:Int) + 1,rfl,by omega,by omega,fun D hD=>?_⟩;rw [show ((c:Int) + 1).toNat=c + 1 by omega];refine JdR (n:=c + 1) (fun i ys H12=>Jf H2 H12∧H12 D=some (.lst ys)∧ys.length≤i∧((ys=[]∧(i:Int)≤JO (zs'.map (·.2)) gs' c m p r)∨(∃ l,ys=.int (JO (zs'.map (·.2)) gs' c m p r) :: l∧JO (zs'.map (·.2)) gs' c m p r < (i:Int)))) rfl ⟨Jf.upd hD,Jh,Nat.le_refl _,.inl ⟨rfl,(Ja0 (W:=Jy (zs'.map (·.2))) (g:=fun p=>decide (p∈gs')) c0 m p r).1⟩⟩ (fun i ys H12 z=>z.2.1) ?_ ?_
  ·rintro i ys H12 hi ⟨e12,hy,hyl,inv⟩;have ht12:=e12 _ _ htn2;refine ⟨_,rfl,_,rfl,tn,_,_,.str p,rfl,rfl,JX.of ht12,rfl,_,rfl,tn,_,_,.int (m:Int),rfl,rfl,JX.of ht12,rfl,_,rfl,_,rfl,tn,_,_,.str (hs r),rfl,rfl,JX.of ht12,rfl,by show 4≤sizeLine; decide,fun t4 n4=>?_⟩;have e13:=Jf.upd (o:=.tup [.str p,.int (m:Int),.int (0 + (i:Int)),.str (hs r)]) n4;have g:=ZB.t (k:=Yw p m (0 + (i:Int)) r) (e13 _ _ (e12 _ _ k12)) (show upd H12 t4 (.tup [.str p,.int (m:Int),.int (0 + (i:Int)),.str (hs r)]) t4=some (.tup ((Yw p m (0 + (i:Int)) r).map kV)) by rw [Jh]; rfl);rw [k2 m (Nat.le_refl _) p hp (0 + (i:Int)) (by omega) (by omega) r] at g;refine ⟨d,_,rfl,g,rfl,_,rfl,?_⟩;have keep:∀ o,Jf H2 (upd (upd H12 t4 (.tup [.str p,.int (m:Int),.int (0 + (i:Int)),.str (hs r)])) D o):=fun o b' u e=>by
    rw [Jz (JA e hD)]; exact e13 _ _ (e12 _ _ e)
   by_cases hd:JO (zs'.map (·.2)) gs' c m p r≤0 + (i:Int)
   ·refine Zc (by show decide (V.str (hs (decide (JO (zs'.map (·.2)) gs' c m p r≤0 + (i:Int))))=V.str "north")=true; rw [decide_eq_true hd]; rfl) ⟨_,rfl,e13 _ _ hy,by omega,keep _,Jh,by simp; omega,.inr ?_⟩;rcases inv with ⟨rfl,hi2⟩ | ⟨l,rfl,hi2⟩
    ·exact ⟨[],by rw [show JO (zs'.map (·.2)) gs' c m p r=0 + (i:Int) by omega]; rfl,by omega⟩
    ·exact ⟨_,rfl,by omega⟩
   ·refine Yq (by show decide (V.str (hs (decide (JO (zs'.map (·.2)) gs' c m p r≤0 + (i:Int))))=V.str "north")=false; rw [decide_eq_false hd]; decide +kernel) ⟨e12.trans e13,e13 _ _ hy,by omega,?_⟩;rcases inv with ⟨rfl,hi2⟩ | ⟨l,rfl,hi2⟩
    ·exact .inl ⟨rfl,by omega⟩
    ·exact absurd hi2 (by omega)
  ·rintro ys H12 ⟨e12,hy,_,inv⟩;have hh:Jly ys=ZQ (zs'.map (·.2)) gs' c m p r:=Jmw (inv.elim (fun ⟨h1,h2⟩=>.inl ⟨h1,by omega⟩) (fun ⟨l,h1,h2⟩=>.inr ⟨l,h1,by omega⟩));refine ⟨_,rfl,lf,_,_,ZQ (zs'.map (·.2)) gs' c m p r,rfl,rfl,Jp.of ((e2.trans e12) _ _ hlf),rfl,_,rfl,D,ys,rfl,Jp.of hy,fun H14 e14=>?_⟩;rw [hh];exact ⟨_,rfl,Jjp,q _ ((e2.trans e12).trans e14)⟩
def JoS (T:Txt K mg):Sp:=fun vs H Q _=>∃ (h d1 d2 t a:Addr) (ns:List Int) (bs:List (JP×V)) (ps:List Str) (zs:List (V×(Str×Str))) (gs ps':List Str) (zs':List (V×(Str×Str))) (gs':List Str),vs=[.ref h,.ref t,.ref a]∧JB T H h d1 d2 bs "one" t ps zs gs ps' zs' gs'∧Jp K H a (ns.map V.int)∧∀ H',Jf H H'→Q (.bl true) H'
theorem Jpi (T:Txt K mg):JL P w K mg base YK 11 T.JiJ T.Jg6 ["_law_hall", "_law_ground", "_law_script"] (JoS T):=by
 refine T.JiQ.F.ok ZC (fun vs H Q E h=>?_) (fun cdv A outer s H vs Q E hr h=>?_)
 ·obtain ⟨_,_,_,_,_,_,_,_,_,_,_,_,_,rfl,_⟩:=h;rfl
 ·obtain ⟨h,d1,d2,t,a,ns,bs,ps,zs,gs,ps',zs',gs',rfl,J,hS,q⟩:=h;have hu:=Ja1 hr;have szl:sizeLine=16777216:=sizeLine_eq;refine ⟨_,(@Je _ _ _ _ _ (@Jx _ _ 3 _ _ _ _ ZC.nd rfl (Or.inr rfl) (@Jl _ _ _ _ _ _ _ _ _ _ _ _ _ _ _ T.JmW (Jsi T) (hr.mono (by decide)) JG (@Ja _ _ _ _ _ (@pv _ 1 _ _ rfl (.inl rfl) rfl rfl) (@Ja _ _ _ _ _ (@Jl _ _ _ _ _ _ _ _ _ _ _ _ _ _ _ T.ZX (Zu T) (hr.mono (by decide)) JG (@Ja _ _ _ _ _ (@pv _ 2 _ _ rfl (.inl rfl) rfl rfl) (@Ja _ _ _ _ _ (@Jd _ _ _ _) (@Jc _) rfl) rfl) rfl (by decide) rfl rfl) (@Jc _) rfl) rfl) rfl (by decide) rfl rfl) rfl (by first | exact .inl rfl | exact .inr rfl | assumption)) (@Je _ _ _ _ _ (@Jx _ _ 4 _ _ _ _ ZC.nd rfl (Or.inr rfl) (@Jl _ _ _ _ _ _ _ _ _ _ _ _ _ _ _ T.JjL (Jnx T) (hr.mono (by decide)) JG (@Ja _ _ _ _ _ (@Jl _ _ _ _ _ _ _ _ _ _ _ _ _ _ _ T.ZX (Zu T) (hr.mono (by decide)) JG (@Ja _ _ _ _ _ (@pv _ 2 _ _ rfl (.inl rfl) rfl rfl) (@Ja _ _ _ _ _ (@Jd _ _ _ _) (@Jc _) rfl) rfl) rfl (by decide) rfl rfl) (@Jc _) rfl) rfl (by decide) rfl rfl) rfl (by first | exact .inl rfl | exact .inr rfl | assumption)) (@Je _ _ _ _ _ (@YH _ _ _ _ _ _ _ _ PassesOwn.never rfl (@Yx _ _ _ _ _ _ rfl T.YM (@Ja _ _ _ _ _ (@Jd _ _ _ _) (@Jc _) rfl) rfl) (@JS _ _ 5 _ ZC.nd rfl (Or.inl rfl) (.inl rfl)) (@Je _ _ _ _ _ (@Jx _ _ 6 _ _ _ _ ZC.nd rfl (Or.inr rfl) (@Jl _ _ _ _ _ _ _ _ _ _ _ _ _ _ _ T.JhS (Jmd T) (hr.mono (by decide)) JG (@Ja _ _ _ _ _ (@pv _ 1 _ _ rfl (.inl rfl) rfl rfl) (@Ja _ _ _ _ _ (@pv _ 5 _ _ rfl (.inl rfl) rfl rfl) (@Ja _ _ _ _ _ (@Jd _ _ _ _) (@Jc _) rfl) rfl) rfl) rfl (by decide) rfl rfl) rfl (by first | exact .inl rfl | exact .inr rfl | assumption)) (@Je _ _ _ _ _ (@Jx _ _ 7 _ _ _ _ ZC.nd rfl (Or.inl rfl) (@JH _ _ _ _ _ _ _ _ _ (@Jk5 _ rfl) rfl T.Jlw PyProof.Rows.boot_min (@Ja _ _ _ _ _ (@pv _ 5 _ _ rfl (.inl rfl) rfl rfl) (@Ja _ _ _ _ _ (@Jk _ _ _ _ _ _ _ _ (@JZ _) (@Jl _ _ _ _ _ _ _ _ _ _ _ _ _ _ _ T.ZX (Zu T) (hr.mono (by decide)) JG (@Ja _ _ _ _ _ (@pv _ 2 _ _ rfl (.inl rfl) rfl rfl) (@Ja _ _ _ _ _ (@Jd _ _ _ _) (@Jc _) rfl) rfl) rfl (by decide) rfl rfl) (@Jd _ _ _ _)) (@Jc _) rfl) rfl) (by decide) (by decide) rfl rfl) rfl (.inl rfl)) (@Ji _ _ _ (@YH _ _ _ _ _ _ _ _ PassesOwn.never rfl (@Yx _ _ _ _ _ _ rfl T.YM (@Ja _ _ _ _ _ (@Jd _ _ _ _) (@Jc _) rfl) rfl) (@JS _ _ 8 _ ZC.nd rfl (Or.inr rfl) (by first | exact .inl rfl | exact .inr rfl | assumption)) (@Je _ _ _ _ _ (@Jx _ _ 9 _ _ _ _ ZC.nd rfl (Or.inl rfl) (@Yz _ _ _ _ _ (@Ja _ _ _ _ _ (@pv _ 3 _ _ rfl (.inr (.inl rfl)) rfl rfl) (@Ja _ _ _ _ _ (@pv _ 8 _ _ rfl (.inr (.inl rfl)) rfl rfl) (@Ja _ _ _ _ _ (@pv _ 7 _ _ rfl (.inl rfl) rfl rfl) (@Ja _ _ _ _ _ (@Jk _ _ _ _ _ _ _ _ (@Y8 _) (@pv _ 5 _ _ rfl (.inl rfl) rfl rfl) (@pv _ 7 _ _ rfl (.inl rfl) rfl rfl)) (@Ja _ _ _ _ _ (@pv _ 4 _ _ rfl (.inr (.inl rfl)) rfl rfl) (@Jc _) rfl) rfl) rfl) rfl) rfl)) rfl (.inl rfl)) (@Je _ _ _ _ _ (@JfZ _ _ _ _ _ _ _ _ _ _ 10 1 ["_law_n", "_law_wins", "_law_place", "_law_left", "_law_ribbon"] [6,3,8,4] _ _ _ _ ["_law_hall", "_law_ground", "_law_script", "_law_place", "_law_ribbon", "_law_total", "_law_wins", "_law_north", "_law_left", "_law_now", "_law_few", "_law_side"] ((Jm JfV).names) (by decide +kernel) ZC.nd rfl (@Yx _ _ _ _ _ _ rfl T.YM (@Ja _ _ _ _ _ (@Jk _ _ _ _ _ _ _ _ (@JM _) (@pv _ 5 _ _ rfl (.inl rfl) rfl rfl) (@Jd _ _ _ _)) (@Jc _) rfl) rfl) (fun _ _ _ _=>(@Zr _ _ _ _ _ _ _ _ _ 0 (by decide +kernel) rfl rfl)) (fun _ _ _ _=>(@Jcs _ _ _ (@Jq _ _ _ _ _ _ _ _ (@Yl _) (@Jac _ _ _ _ _ _ hu (@Yn _ _ _ _ _ _ _ _ _ 1 rfl rfl (by decide) (by decide)) (@Yz _ _ _ _ _ (@Ja _ _ _ _ _ (@Yn _ _ _ _ _ _ _ _ _ 2 rfl rfl (by decide) (by decide)) (@Ja _ _ _ _ _ (@Yn _ _ _ _ _ _ _ _ _ 3 rfl rfl (by decide) (by decide)) (@Ja _ _ _ _ _ (@YT _ _ _ _ _ _ _ _ _ 0 rfl rfl (by decide) (by decide)) (@Ja _ _ _ _ _ (@Yn _ _ _ _ _ _ _ _ _ 4 rfl rfl (by decide) (by decide)) (@Jc _) rfl) rfl) rfl) rfl)) (fun _ _=>rfl)) (@Js _ _ _ _) (Ju _)))) (fun _ _ _ _=>(@YT _ _ _ _ _ _ _ _ _ 0 rfl rfl (by decide) (by decide))) rfl rfl rfl rfl rfl (by intro _; rfl)) (@Je _ _ _ _ _ (@Jx _ _ 11 _ _ _ _ ZC.nd rfl (Or.inl rfl) (@Jl _ _ _ _ _ _ _ _ _ _ _ _ _ _ _ T.JjJ (Jma T) (hr.mono (by decide)) JG (@Ja _ _ _ _ _ (@pv _ 0 _ _ rfl (.inl rfl) rfl rfl) (@Ja _ _ _ _ _ (@Jd _ _ _ _) (@Ja _ _ _ _ _ (@Js _ _ _ _) (@Ja _ _ _ _ _ (@pv _ 5 _ _ rfl (.inl rfl) rfl rfl) (@Ja _ _ _ _ _ (@pv _ 9 _ _ rfl (.inl rfl) rfl rfl) (@Jc _) rfl) rfl) rfl) rfl) rfl) rfl (by decide) rfl rfl) rfl (.inl rfl)) (@Je _ _ _ _ _ (@JN _ _ _ _ _ _ _ _ (@Jbf _ _ _ _ (@Z5 _ _ _ (@Jl _ _ _ _ _ _ _ _ _ _ _ _ _ _ _ T.Ja4 (Jbt T) (hr.mono (by decide)) JG (@Ja _ _ _ _ _ (@pv _ 11 _ _ rfl (.inl rfl) rfl rfl) (@Ja _ _ _ _ _ (@Jac _ _ _ _ _ _ hu (@pv _ 6 _ _ rfl (.inr (.inl rfl)) rfl rfl) (@Yz _ _ _ _ _ (@Ja _ _ _ _ _ (@pv _ 3 _ _ rfl (.inr (.inl rfl)) rfl rfl) (@Ja _ _ _ _ _ (@pv _ 8 _ _ rfl (.inr (.inl rfl)) rfl rfl) (@Ja _ _ _ _ _ (@pv _ 7 _ _ rfl (.inl rfl) rfl rfl) (@Ja _ _ _ _ _ (@pv _ 4 _ _ rfl (.inr (.inl rfl)) rfl rfl) (@Jc _) rfl) rfl) rfl) rfl)) (fun _ _=>rfl)) (@Jc _) rfl) rfl) rfl (by decide) rfl rfl) (by intro _; rfl))) (@Ji _ _ _ (@Jw _ _ _ _ (@JbW _ _ _ _))) (@JD _)) (@Ji _ _ _ (@JN _ _ _ _ _ _ _ _ (@Jbf _ _ _ _ (@Z5 _ _ _ (@Jl _ _ _ _ _ _ _ _ _ _ _ _ _ _ _ T.Ja4 (Jbt T) (hr.mono (by decide)) JG (@Ja _ _ _ _ _ (@Jl _ _ _ _ _ _ _ _ _ _ _ _ _ _ _ T.JjJ (Jma T) (hr.mono (by decide)) JG (@Ja _ _ _ _ _ (@pv _ 0 _ _ rfl (.inl rfl) rfl rfl) (@Ja _ _ _ _ _ (@Jd _ _ _ _) (@Ja _ _ _ _ _ (@Js _ _ _ _) (@Ja _ _ _ _ _ (@pv _ 5 _ _ rfl (.inl rfl) rfl rfl) (@Ja _ _ _ _ _ (@pv _ 9 _ _ rfl (.inl rfl) rfl rfl) (@Jc _) rfl) rfl) rfl) rfl) rfl) rfl (by decide) rfl rfl) (@Ja _ _ _ _ _ (@Jl _ _ _ _ _ _ _ _ _ _ _ _ _ _ _ T.JhT (Jmg T) (hr.mono (by decide)) JG (@Ja _ _ _ _ _ (@pv _ 10 _ _ rfl (.inl rfl) rfl rfl) (@Jc _) rfl) rfl (by decide) rfl rfl) (@Jc _) rfl) rfl) rfl (by decide) rfl rfl) (by intro _; rfl))) (@Ji _ _ _ (@Jw _ _ _ _ (@JbW _ _ _ _))) (@JD _))))))) (by intro _; rfl))))) (by intro _; rfl)) (@Ji _ _ _ (@Jw _ _ _ _ (@JbW _ _ _ _)))))),?_⟩;refine ⟨_,rfl,_,rfl,a,ns,50,rfl,hS,by decide,t,_,ps,zs,gs,rfl,J.G,fun p H1 hp e1=>?_⟩;refine ⟨_,rfl,a,ns,51,rfl,e1.seq hS,by decide,_,rfl,fun r H2 e2=>?_⟩;have e2:=e1.trans e2;have tp:=ZA (J.G.good.p3 p hp);refine ⟨4,rfl,by decide,by decide,YU (n:=4) (fun i σ H3=>Jf H2 H3∧∃ v5 v6 v7 v8 v9 v10 v11,σ=[some (.ref h),some (.ref t),some (.ref a),some (.str p),some (.str (hs r)),v5,v6,v7,v8,v9,v10,v11]) ⟨Jf.refl _,_,_,_,_,_,_,_,rfl⟩ ?_ ?_⟩
  ·rintro i σ H3 hi ⟨e3,v5,v6,v7,v8,v9,v10,v11,rfl⟩;have e03:=e2.trans e3;have ei:(0:Int) + (i:Int)=(i:Int):=by omega
   rw [ei];refine ⟨_,rfl,_,rfl,t,3,ps,zs,gs,zs',gs',(i:Int),rfl,by decide,by omega,by omega,J.G.same e03,J.zp,J.gp,J.zo,fun d H4 e4 TB=>?_⟩;have e04:=e03.trans e4;have b3:=Jej (x:=YQ ns 52) (n:=3) (by decide);obtain ⟨n,hn,hn0,hn1⟩:∃ n:Int,(if YQ ns 52 % 3 < (i:Int) then YQ ns 52 % 3 else (i:Int))=n∧0≤n∧n≤i:=⟨_,rfl,by split <;> omega,by split <;> omega⟩
   refine ⟨_,rfl,_,rfl,a,ns,52,rfl,e04.seq hS,by decide,_,_,rfl,rfl,(by show (0:Int) < 3; decide),_,_,rfl,?_⟩;rw [hn];refine ⟨4,rfl,by decide,by decide,YU (n:=4) (fun j σ H5=>Jf H4 H5∧∃ v8 v9 v10 v11,σ=[some (.ref h),some (.ref t),some (.ref a),some (.str p),some (.str (hs r)),some (.int (i:Int)),some (.ref d),some (.int n),v8,v9,v10,v11]) ⟨Jf.refl _,_,_,_,_,rfl⟩ ?_ ?_⟩
   ·rintro m σ H5 hm ⟨e5,v8,v9,v10,v11,rfl⟩;have em:(0:Int) + (m:Int)=(m:Int):=by omega
    rw [em];refine ⟨_,rfl,_,rfl,_,rfl,_,rfl,_,rfl,_,_,rfl,rfl,_,rfl,by show 5≤sizeLine; decide,fun tn ntn=>?_⟩;have s6:=Jf.upd (o:=.tup [.str p,.int (m:Int),.int n,.int ((i:Int) - n),.str (hs r)]) ntn;have htn:upd H5 tn (.tup [.str p,.int (m:Int),.int n,.int ((i:Int) - n),.str (hs r)]) tn=some (.tup [.str p,.int (m:Int),.int n,.int ((i:Int) - n),.str (hs r)]):=Jh;generalize upd H5 tn (.tup [.str p,.int (m:Int),.int n,.int ((i:Int) - n),.str (hs r)])=H6 at s6 htn;have e46:=e5.trans s6;have TB6:=Tab.same (show Tab H4 d ps (zs'.map (·.2)) gs' (i:Int) 3 from TB) e46;obtain ⟨kvs,k1,k2⟩:=TB6;have c0:0≤(i:Int):=by omega
    refine ⟨_,rfl,_,_,rfl,rfl,(i:Int) + 1,rfl,by omega,by omega,fun D hD=>?_⟩;rw [show ((i:Int) + 1).toNat=i + 1 by omega];refine JdR (n:=i + 1) (fun k ys H12=>Jf H6 H12∧H12 D=some (.lst ys)∧ys.length≤k∧((ys=[]∧(k:Int)≤JO (zs'.map (·.2)) gs' i m p r)∨(∃ l,ys=.int (JO (zs'.map (·.2)) gs' i m p r) :: l∧JO (zs'.map (·.2)) gs' i m p r < (k:Int)))) rfl ⟨Jf.upd hD,Jh,Nat.le_refl _,.inl ⟨rfl,(Ja0 (W:=Jy (zs'.map (·.2))) (g:=fun p=>decide (p∈gs')) c0 m p r).1⟩⟩ (fun i ys H12 z=>z.2.1) ?_ ?_
    ·rintro k ys H12 hk ⟨e12,hy,hyl,inv⟩;refine ⟨_,rfl,_,rfl,_,rfl,_,rfl,_,rfl,by show 4≤sizeLine; decide,fun t4 n4=>?_⟩;have e13:=Jf.upd (o:=.tup [.str p,.int (m:Int),.int (0 + (k:Int)),.str (hs r)]) n4;have g:=ZB.t (k:=Yw p m (0 + (k:Int)) r) (e13 _ _ (e12 _ _ k1)) (show upd H12 t4 (.tup [.str p,.int (m:Int),.int (0 + (k:Int)),.str (hs r)]) t4=some (.tup ((Yw p m (0 + (k:Int)) r).map kV)) by rw [Jh]; rfl);rw [k2 m (by omega) p hp (0 + (k:Int)) (by omega) (by omega) r] at g;refine ⟨d,_,rfl,g,rfl,_,rfl,?_⟩;have keep:∀ o,Jf H6 (upd (upd H12 t4 (.tup [.str p,.int (m:Int),.int (0 + (k:Int)),.str (hs r)])) D o):=fun o b' u e=>by
      rw [Jz (JA e hD)]; exact e13 _ _ (e12 _ _ e)
     by_cases hd:JO (zs'.map (·.2)) gs' i m p r≤0 + (k:Int)
     ·refine Zc (by show decide (V.str (hs (decide (JO (zs'.map (·.2)) gs' i m p r≤0 + (k:Int))))=V.str "north")=true; rw [decide_eq_true hd]; rfl) ⟨_,rfl,e13 _ _ hy,by omega,keep _,Jh,by simp; omega,.inr ?_⟩;rcases inv with ⟨rfl,hi2⟩ | ⟨l,rfl,hi2⟩
      ·exact ⟨[],by rw [show JO (zs'.map (·.2)) gs' i m p r=0 + (k:Int) by omega]; rfl,by omega⟩
      ·exact ⟨_,rfl,by omega⟩
     ·refine Yq (by show decide (V.str (hs (decide (JO (zs'.map (·.2)) gs' i m p r≤0 + (k:Int))))=V.str "north")=false; rw [decide_eq_false hd]; decide +kernel) ⟨e12.trans e13,e13 _ _ hy,by omega,?_⟩;rcases inv with ⟨rfl,hi2⟩ | ⟨l,rfl,hi2⟩
      ·exact .inl ⟨rfl,by omega⟩
      ·exact absurd hi2 (by omega)
    ·rintro ys H12 ⟨e12,hy,_,inv⟩;have hh:Jly ys=ZQ (zs'.map (·.2)) gs' i m p r:=Jmw (inv.elim (fun ⟨h1,h2⟩=>.inl ⟨h1,by omega⟩) (fun ⟨l,h1,h2⟩=>.inr ⟨l,h1,by omega⟩));have e412:=e46.trans e12;have e012:=e04.trans e412;have rg:∀ d,Zm ps d (i:Int) p (m:Int) n ((i:Int) - n) (hs r) = "":=fun d=>rq5 (fun _=>⟨by omega,by omega⟩) hp ⟨by omega,by omega⟩ (fun _=>⟨by omega,by omega,by omega⟩) (Jg3 r)
     refine ⟨_,rfl,_,rfl,_,rfl,h,d1,d2,t,tn, "one",p,hs r,0,(i:Int),(m:Int),n,(i:Int) - n,bs,ps,zs,gs,ps',zs',gs',rfl,J.same e012,e12 _ _ htn,tp,JjR r,.inl rfl,fun f=>absurd (rg 0) f,fun _ r' hr' H13 e13=>?_⟩;obtain rfl:=JfF hr';have ev:Jdc (zs'.map (·.2)) gs' 0 (i:Int) ((m:Int)).toNat p n ((i:Int) - n) r=.str (hs (decide (JO (zs'.map (·.2)) gs' i m p r≤n))):=by
      unfold Jdc; rw [if_pos rfl,Int.toNat_natCast,show n + ((i:Int) - n)=(i:Int) by omega]
     rw [ev];have e613:=e12.trans e13;refine ⟨_,rfl,_,rfl,_,rfl,_,rfl,_,rfl,_,rfl,by show 4≤sizeLine; decide,fun t4 n4=>?_⟩;have s14:=Jf.upd (o:=.tup [.str p,.int (m:Int),.int n,.str (hs r)]) n4;have g:=ZB.t (k:=Yw p m n r) (s14 _ _ (e613 _ _ k1)) (show upd H13 t4 (.tup [.str p,.int (m:Int),.int n,.str (hs r)]) t4=some (.tup ((Yw p m n r).map kV)) by rw [Jh]; rfl);rw [k2 m (by omega) p hp n hn0 hn1 r] at g;refine ⟨d,_,rfl,g,_,rfl,rfl,_,rfl,Y5 ?_⟩;have e1214:=e13.trans s14;refine ⟨_,rfl,_,rfl,_,rfl,h,d1,d2,t,tn, "one",p,hs r,1,(i:Int),(m:Int),n,(i:Int) - n,bs,ps,zs,gs,ps',zs',gs',rfl,J.same (e012.trans e1214),(e12.trans e1214) _ _ htn,tp,JjR r,.inr rfl,fun f=>absurd (rg 1) f,fun _ r' hr' H15 e15=>?_⟩;obtain rfl:=JfF hr';have ev1:Jdc (zs'.map (·.2)) gs' 1 (i:Int) ((m:Int)).toNat p n ((i:Int) - n) r=ZQ (zs'.map (·.2)) gs' i m p r:=by
      unfold Jdc; rw [if_neg (by decide),Int.toNat_natCast]
     rw [ev1];refine ⟨_,rfl,D,ys,rfl,Jp.of ((e1214.trans e15) _ _ hy),fun H16 e16=>?_⟩;rw [hh];exact ⟨_,rfl,Jjp,_,rfl,Y5 ⟨((e412.trans e1214).trans e15).trans e16,_,_,_,_,rfl⟩⟩
   ·rintro σ H5 ⟨e5,v8,v9,v10,v11,rfl⟩;exact ⟨(e3.trans e4).trans e5,_,_,_,_,_,_,_,rfl⟩
  ·rintro σ H3 ⟨e3,v5,v6,v7,v8,v9,v10,v11,rfl⟩;exact q H3 (e2.trans e3)
end
section
variable {P:Program} {w:World} {K:PySem.W.Frag} {mg:Str→Option Value} {base:Heap}
def Jdb (i:Nat):Str:=if i=0 then "one" else "two"
structure Gr where
 t:Addr
 ps:List Str
 zs:List (V×(Str×Str))
 gs:List Str
abbrev JtG (K:PySem.W.Frag) (H:Hp) (g:Gr):Prop:=Ground K H g.t g.ps g.zs g.gs
def JlB (T:Txt K mg) (H:Hp) (bs:List (JP×V)) (z:Str) (g:Gr):Prop:=∃ (b:Addr) (ps':List Str) (zs':List (V×(Str×Str))) (gs':List Str),Yd bs (.inr z)=some (.ref b)∧Bd K T.JT H b ps' zs' gs'∧ps'.Perm g.ps∧ps'.Pairwise sle∧zs'.Perm g.zs∧(zs'.map (·.2)).Pairwise ple∧gs'.Perm g.gs∧gs'.Pairwise sle
theorem JlB.same {T:Txt K mg} {H H':Hp} {bs:List (JP×V)} {z:Str} {g:Gr} (h:JlB T H bs z g) (e:Jf H H'):JlB T H' bs z g:=let ⟨b,ps',zs',gs',h1,h2,h3⟩:=h; ⟨b,ps',zs',gs',h1,h2.same e,h3⟩
theorem JlG {i j:Nat} (hi:i < 2) (hj:j < 2) (h:Jdb i=Jdb j):i=j:=by
 match i,j,hi,hj with
 | 0,0,_,_=>rfl
 | 1,1,_,_=>rfl
 | 0,1,_,_=>exact absurd h (by decide +kernel)
 | 1,0,_,_=>exact absurd h (by decide +kernel)
theorem Jco {i:Nat} (h:i < 2):[V.str "one",V.str "two"][i]?=some (.str (Jdb i))∧[V.int 0,V.int 1][i]?=some (.int (i:Int))∧YJ (Jdb i)=true:=by
 match i,h with
 | 0,_=>exact ⟨rfl,rfl,by decide +kernel⟩
 | 1,_=>exact ⟨rfl,rfl,by decide +kernel⟩
theorem pk2 {x y:V} {b:Bool}:atI [x,y] (if b=true then 1 else 0)=some (if b=true then y else x):=by cases b <;> rfl
def FV (ps:List Str) (zs:List (Str×Str)) (gs:List Str) (c:Int) (p:Str) (m n s:Int) (x:Str) (H:Hp) (door:Int) (v:V):Prop :=
 (Zm ps door c p m n s x ≠ ""→∃ q,v=.ref q∧H q=some (.tup (rf (Zm ps door c p m n s x))))∧(Zm ps door c p m n s x = ""→∃ r,x=hs r∧v=Jdc zs gs door c m.toNat p n s r)
theorem FV.same {ps:List Str} {zs:List (Str×Str)} {gs:List Str} {c:Int} {p:Str} {m n s:Int} {x:Str} {H H':Hp} {door:Int} {v:V} (h:FV ps zs gs c p m n s x H door v) (e:Jf H H'):FV ps zs gs c p m n s x H' door v:=⟨fun f=>let ⟨q,h1,h2⟩:=h.1 f; ⟨q,h1,e _ _ h2⟩,h.2⟩
theorem FV.put {ps:List Str} {zs:List (Str×Str)} {gs:List Str} {c:Int} {p:Str} {m n s:Int} {x:Str} {H:Hp} {door:Int} {v:V} (h:FV ps zs gs c p m n s x H door v) {D:Addr} {ys ys':List V} (hD:H D=some (.lst ys)):FV ps zs gs c p m n s x (upd H D (.lst ys')) door v :=
 ⟨fun f=>let ⟨q,h1,h2⟩:=h.1 f; ⟨q,h1,by rw [Jz (fun z=>by rw [z,hD] at h2; cases h2)]; exact h2⟩,h.2⟩
def Jqf (T:Txt K mg):Sp:=fun vs H Q _=>∃ (h d1 d2 lg a:Addr) (i:Int) (ns:List Int) (bs:List (JP×V)) (g g':Nat→Gr),vs=[.ref h,.ref lg,.ref a,.int i]∧(∀ j,j < 2→JB T H h d1 d2 bs (Jdb j) (g j).t (g j).ps (g j).zs (g j).gs (g' j).ps (g' j).zs (g' j).gs)∧H lg=some (.lst [.ref (g 0).t,.ref (g 1).t])∧Jp K H a (ns.map V.int)∧0≤i∧∀ H',Jf H H'→Q (.bl true) H'
theorem JqQ (T:Txt K mg):JL P w K mg base YK 12 T.Jkr T.JiA ["_law_hall", "_law_grounds", "_law_script", "_law_at_here"] (Jqf T):=by
 refine T.JkE.F.ok Y7 (fun vs H Q E h=>?_) (fun cdv A outer s H vs Q E hr h=>?_)
 ·obtain ⟨_,_,_,_,_,_,_,_,_,_,rfl,_⟩:=h;rfl
 ·obtain ⟨h,d1,d2,lg,a,i,ns,bs,g,g',rfl,hJ,hlg,hS,i0,q⟩:=h;have szl:sizeLine=16777216:=sizeLine_eq;refine ⟨_,(@Je _ _ _ _ _ (@Jx _ _ 4 _ _ _ _ Y7.nd rfl (Or.inr rfl) (@Jk _ _ _ _ _ _ _ _ (@JZ _) (@Jl _ _ _ _ _ _ _ _ _ _ _ _ _ _ _ T.ZX (Zu T) (hr.mono (by decide)) JG (@Ja _ _ _ _ _ (@pv _ 2 _ _ rfl (.inl rfl) rfl rfl) (@Ja _ _ _ _ _ (@pv _ 3 _ _ rfl (.inl rfl) rfl rfl) (@Jc _) rfl) rfl) rfl (by decide) rfl rfl) (@Jd _ _ _ _)) rfl (by first | exact .inl rfl | exact .inr rfl | assumption)) (@Je _ _ _ _ _ (@Jx _ _ 5 _ _ _ _ Y7.nd rfl (Or.inr rfl) (@Jr _ _ _ _ _ _ _ (@JE _) (@pv _ 1 _ _ rfl (.inl rfl) rfl rfl) (@pv _ 4 _ _ rfl (.inr (.inl rfl)) rfl rfl) (fun _ _=>rfl)) rfl (by first | exact .inl rfl | exact .inr rfl | assumption)) (@Je _ _ _ _ _ (@Yj _ _ _ (@Jx _ _ 6 _ _ _ _ Y7.nd rfl (Or.inr rfl) (@Jr _ _ _ _ _ _ _ (@JE _) (@J7 _ _ _ _ (@Ja _ _ _ _ _ (@Jk _ _ _ _ _ _ _ _ (@JZ _) (@Jk _ _ _ _ _ _ _ _ (@JM _) (@Jk _ _ _ _ _ _ _ _ (@YL _) (@Jl _ _ _ _ _ _ _ _ _ _ _ _ _ _ _ T.ZX (Zu T) (hr.mono (by decide)) JG (@Ja _ _ _ _ _ (@pv _ 2 _ _ rfl (.inl rfl) rfl rfl) (@Ja _ _ _ _ _ (@Jk _ _ _ _ _ _ _ _ (@JM _) (@pv _ 3 _ _ rfl (.inl rfl) rfl rfl) (@Jd _ _ _ _)) (@Jc _) rfl) rfl) rfl (by decide) rfl rfl) (@Jd _ _ _ _)) (@Jd _ _ _ _)) (@Jd _ _ _ _)) (@Ja _ _ _ _ _ (@Jd _ _ _ _) (@Jc _) rfl) rfl)) (@Y2 _ _ _ _ _ _ _ _ _ (@JbL _) rfl T.JeV PyProof.Rows.boot_int (@Ja _ _ _ _ _ (@ZF _ _ _ _ _ _ _ _ (@Yl _) (@Jk _ _ _ _ _ _ _ _ (@JZ _) (@Jl _ _ _ _ _ _ _ _ _ _ _ _ _ _ _ T.ZX (Zu T) (hr.mono (by decide)) JG (@Ja _ _ _ _ _ (@pv _ 2 _ _ rfl (.inl rfl) rfl rfl) (@Ja _ _ _ _ _ (@Jk _ _ _ _ _ _ _ _ (@JM _) (@pv _ 3 _ _ rfl (.inl rfl) rfl rfl) (@Jd _ _ _ _)) (@Jc _) rfl) rfl) rfl (by decide) rfl rfl) (@Jd _ _ _ _)) (@Jd _ _ _ _) (Ju _)) (@Jc _) rfl) (by decide) (by decide) rfl rfl) (fun _ _=>rfl)) rfl (by first | exact .inl rfl | exact .inr rfl | assumption))) (@Je _ _ _ _ _ (@Yj _ _ _ (@Jx _ _ 7 _ _ _ _ Y7.nd rfl (Or.inl rfl) (@Jr _ _ _ _ _ _ _ (@JE _) (@J7 _ _ _ _ (@Ja _ _ _ _ _ (@Jk _ _ _ _ _ _ _ _ (@JZ _) (@Jk _ _ _ _ _ _ _ _ (@JM _) (@Jk _ _ _ _ _ _ _ _ (@YL _) (@Jl _ _ _ _ _ _ _ _ _ _ _ _ _ _ _ T.ZX (Zu T) (hr.mono (by decide)) JG (@Ja _ _ _ _ _ (@pv _ 2 _ _ rfl (.inl rfl) rfl rfl) (@Ja _ _ _ _ _ (@Jk _ _ _ _ _ _ _ _ (@JM _) (@pv _ 3 _ _ rfl (.inl rfl) rfl rfl) (@Jd _ _ _ _)) (@Jc _) rfl) rfl) rfl (by decide) rfl rfl) (@Jd _ _ _ _)) (@Jd _ _ _ _)) (@Jd _ _ _ _)) (@Ja _ _ _ _ _ (@Jd _ _ _ _) (@Jc _) rfl) rfl)) (@Y2 _ _ _ _ _ _ _ _ _ (@JbL _) rfl T.JeV PyProof.Rows.boot_int (@Ja _ _ _ _ _ (@ZF _ _ _ _ _ _ _ _ (@Yl _) (@Jk _ _ _ _ _ _ _ _ (@JZ _) (@Jl _ _ _ _ _ _ _ _ _ _ _ _ _ _ _ T.ZX (Zu T) (hr.mono (by decide)) JG (@Ja _ _ _ _ _ (@pv _ 2 _ _ rfl (.inl rfl) rfl rfl) (@Ja _ _ _ _ _ (@Jk _ _ _ _ _ _ _ _ (@JM _) (@pv _ 3 _ _ rfl (.inl rfl) rfl rfl) (@Jd _ _ _ _)) (@Jc _) rfl) rfl) rfl (by decide) rfl rfl) (@Jd _ _ _ _)) (@Jd _ _ _ _) (Ju _)) (@Jc _) rfl) (by decide) (by decide) rfl rfl) (fun _ _=>rfl)) rfl (.inl rfl))) (@Je _ _ _ _ _ (@Jx _ _ 8 _ _ _ _ Y7.nd rfl (Or.inl rfl) (@Jk _ _ _ _ _ _ _ _ (@JZ _) (@Jl _ _ _ _ _ _ _ _ _ _ _ _ _ _ _ T.ZX (Zu T) (hr.mono (by decide)) JG (@Ja _ _ _ _ _ (@pv _ 2 _ _ rfl (.inl rfl) rfl rfl) (@Ja _ _ _ _ _ (@Jk _ _ _ _ _ _ _ _ (@JM _) (@pv _ 3 _ _ rfl (.inl rfl) rfl rfl) (@Jd _ _ _ _)) (@Jc _) rfl) rfl) rfl (by decide) rfl rfl) (@Jk _ _ _ _ _ _ _ _ (@JM _) (@pv _ 6 _ _ rfl (.inr (.inl rfl)) rfl rfl) (@Jd _ _ _ _))) rfl (.inl rfl)) (@Je _ _ _ _ _ (@Jx _ _ 9 _ _ _ _ Y7.nd rfl (Or.inl rfl) (@Jl _ _ _ _ _ _ _ _ _ _ _ _ _ _ _ T.JhR (Ji8 T) (hr.mono (by decide)) JG (@Ja _ _ _ _ _ (@Jl _ _ _ _ _ _ _ _ _ _ _ _ _ _ _ T.ZX (Zu T) (hr.mono (by decide)) JG (@Ja _ _ _ _ _ (@pv _ 2 _ _ rfl (.inl rfl) rfl rfl) (@Ja _ _ _ _ _ (@Jk _ _ _ _ _ _ _ _ (@JM _) (@pv _ 3 _ _ rfl (.inl rfl) rfl rfl) (@Jd _ _ _ _)) (@Jc _) rfl) rfl) rfl (by decide) rfl rfl) (@Ja _ _ _ _ _ (@Jk _ _ _ _ _ _ _ _ (@Y8 _) (@pv _ 6 _ _ rfl (.inr (.inl rfl)) rfl rfl) (@pv _ 8 _ _ rfl (.inl rfl) rfl rfl)) (@Ja _ _ _ _ _ (@Jk _ _ _ _ _ _ _ _ (@Y8 _) (@Jd _ _ _ _) (@pv _ 8 _ _ rfl (.inl rfl) rfl rfl)) (@Jc _) rfl) rfl) rfl) rfl (by decide) rfl rfl) rfl (.inl rfl)) (@Je _ _ _ _ _ (@Jx _ _ 8 _ _ _ _ Y7.nd rfl (Or.inl rfl) (@Jl _ _ _ _ _ _ _ _ _ _ _ _ _ _ _ T.JhR (Ji8 T) (hr.mono (by decide)) JG (@Ja _ _ _ _ _ (@Jl _ _ _ _ _ _ _ _ _ _ _ _ _ _ _ T.ZX (Zu T) (hr.mono (by decide)) JG (@Ja _ _ _ _ _ (@pv _ 2 _ _ rfl (.inl rfl) rfl rfl) (@Ja _ _ _ _ _ (@Jk _ _ _ _ _ _ _ _ (@JM _) (@pv _ 3 _ _ rfl (.inl rfl) rfl rfl) (@Jd _ _ _ _)) (@Jc _) rfl) rfl) rfl (by decide) rfl rfl) (@Ja _ _ _ _ _ (@pv _ 8 _ _ rfl (.inl rfl) rfl rfl) (@Ja _ _ _ _ _ (@Jd _ _ _ _) (@Jc _) rfl) rfl) rfl) rfl (by decide) rfl rfl) rfl (.inl rfl)) (@Je _ _ _ _ _ (@Jx _ _ 10 _ _ _ _ Y7.nd rfl (Or.inl rfl) (@Jl _ _ _ _ _ _ _ _ _ _ _ _ _ _ _ T.Jfq (Jmj T) (hr.mono (by decide)) JG (@Ja _ _ _ _ _ (@pv _ 5 _ _ rfl (.inr (.inl rfl)) rfl rfl) (@Ja _ _ _ _ _ (@Jl _ _ _ _ _ _ _ _ _ _ _ _ _ _ _ T.ZX (Zu T) (hr.mono (by decide)) JG (@Ja _ _ _ _ _ (@pv _ 2 _ _ rfl (.inl rfl) rfl rfl) (@Ja _ _ _ _ _ (@Jk _ _ _ _ _ _ _ _ (@JM _) (@pv _ 3 _ _ rfl (.inl rfl) rfl rfl) (@Jd _ _ _ _)) (@Jc _) rfl) rfl) rfl (by decide) rfl rfl) (@Jc _) rfl) rfl) rfl (by decide) rfl rfl) rfl (.inl rfl)) (@Je _ _ _ _ _ (@Yj _ _ _ (@Jx _ _ 7 _ _ _ _ Y7.nd rfl (Or.inl rfl) (@Jl _ _ _ _ _ _ _ _ _ _ _ _ _ _ _ T.JhR (Ji8 T) (hr.mono (by decide)) JG (@Ja _ _ _ _ _ (@Jl _ _ _ _ _ _ _ _ _ _ _ _ _ _ _ T.ZX (Zu T) (hr.mono (by decide)) JG (@Ja _ _ _ _ _ (@pv _ 2 _ _ rfl (.inl rfl) rfl rfl) (@Ja _ _ _ _ _ (@Jk _ _ _ _ _ _ _ _ (@JM _) (@pv _ 3 _ _ rfl (.inl rfl) rfl rfl) (@Jd _ _ _ _)) (@Jc _) rfl) rfl) rfl (by decide) rfl rfl) (@Ja _ _ _ _ _ (@pv _ 7 _ _ rfl (.inl rfl) rfl rfl) (@Ja _ _ _ _ _ (@Jd _ _ _ _) (@Jc _) rfl) rfl) rfl) rfl (by decide) rfl rfl) rfl (.inl rfl))) (@Je _ _ _ _ _ (@Jx _ _ 11 _ _ _ _ Y7.nd rfl (Or.inr rfl) (@Yz _ _ _ _ _ (@Ja _ _ _ _ _ (@pv _ 10 _ _ rfl (.inl rfl) rfl rfl) (@Ja _ _ _ _ _ (@pv _ 7 _ _ rfl (.inl rfl) rfl rfl) (@Ja _ _ _ _ _ (@pv _ 8 _ _ rfl (.inl rfl) rfl rfl) (@Ja _ _ _ _ _ (@pv _ 9 _ _ rfl (.inl rfl) rfl rfl) (@Ja _ _ _ _ _ (@Jl _ _ _ _ _ _ _ _ _ _ _ _ _ _ _ T.Jf7 (Jm7 T) (hr.mono (by decide)) JG (@Ja _ _ _ _ _ (@Jl _ _ _ _ _ _ _ _ _ _ _ _ _ _ _ T.ZX (Zu T) (hr.mono (by decide)) JG (@Ja _ _ _ _ _ (@pv _ 2 _ _ rfl (.inl rfl) rfl rfl) (@Ja _ _ _ _ _ (@Jk _ _ _ _ _ _ _ _ (@JM _) (@pv _ 3 _ _ rfl (.inl rfl) rfl rfl) (@Jd _ _ _ _)) (@Jc _) rfl) rfl) rfl (by decide) rfl rfl) (@Jc _) rfl) rfl (by decide) rfl rfl) (@Jc _) rfl) rfl) rfl) rfl) rfl)) rfl (by first | exact .inl rfl | exact .inr rfl | assumption)) (@Je _ _ _ _ _ (@Yj _ _ _ (@Jx _ _ 6 _ _ _ _ Y7.nd rfl (Or.inr rfl) (@Jl _ _ _ _ _ _ _ _ _ _ _ _ _ _ _ T.JhR (Ji8 T) (hr.mono (by decide)) JG (@Ja _ _ _ _ _ (@Jl _ _ _ _ _ _ _ _ _ _ _ _ _ _ _ T.ZX (Zu T) (hr.mono (by decide)) JG (@Ja _ _ _ _ _ (@pv _ 2 _ _ rfl (.inl rfl) rfl rfl) (@Ja _ _ _ _ _ (@Jk _ _ _ _ _ _ _ _ (@JM _) (@pv _ 3 _ _ rfl (.inl rfl) rfl rfl) (@Jd _ _ _ _)) (@Jc _) rfl) rfl) rfl (by decide) rfl rfl) (@Ja _ _ _ _ _ (@pv _ 6 _ _ rfl (.inr (.inl rfl)) rfl rfl) (@Ja _ _ _ _ _ (@Jd _ _ _ _) (@Jc _) rfl) rfl) rfl) rfl (by decide) rfl rfl) rfl (by first | exact .inl rfl | exact .inr rfl | assumption))) (@Je _ _ _ _ _ (@JfZ _ _ _ _ _ _ _ _ _ _ 12 1 ["_law_door", "_law_hall", "_law_coins", "_law_now", "_law_which_here"] [0,6,11,4] _ _ _ _ ["_law_hall", "_law_grounds", "_law_script", "_law_at_here", "_law_which_here", "_law_ground", "_law_coins", "_law_left", "_law_north", "_law_south", "_law_place", "_law_now", "_law_found", "_law_bad", "_law_door"] ((Jm Jfy).names) (by decide +kernel) Y7.nd rfl (@Zn _ _ _ _ (@J7 _ _ _ _ (@Ja _ _ _ _ _ (@Jd _ _ _ _) (@Ja _ _ _ _ _ (@Jd _ _ _ _) (@Jc _) rfl) rfl))) (fun _ _ _ _=>(@Zr _ _ _ _ _ _ _ _ _ 0 (by decide +kernel) rfl rfl)) (fun _ _ _ _=>(@JbC _)) (fun _ _ _ _=>(@Jl _ _ _ _ _ _ _ _ _ _ _ _ _ _ _ T.JjJ (Jma T) (hr.mono (by decide)) JG (@Ja _ _ _ _ _ (@Yn _ _ _ _ _ _ _ _ _ 1 rfl rfl (by decide) (by decide)) (@Ja _ _ _ _ _ (@YT _ _ _ _ _ _ _ _ _ 0 rfl rfl (by decide) (by decide)) (@Ja _ _ _ _ _ (@Jr _ _ _ _ _ _ _ (show IxR _ (JgF K) from (@JE _)) (@J7 _ _ _ _ (@Ja _ _ _ _ _ (@Js _ _ _ _) (@Ja _ _ _ _ _ (@Js _ _ _ _) (@Jc _) rfl) rfl)) (@Yn _ _ _ _ _ _ _ _ _ 4 rfl rfl (by decide) (by decide)) (fun _ _=>rfl)) (@Ja _ _ _ _ _ (@Yn _ _ _ _ _ _ _ _ _ 2 rfl rfl (by decide) (by decide)) (@Ja _ _ _ _ _ (@Yn _ _ _ _ _ _ _ _ _ 3 rfl rfl (by decide) (by decide)) (@Jc _) rfl) rfl) rfl) rfl) rfl) rfl (by decide) rfl rfl)) rfl rfl rfl rfl rfl (by intro _; rfl)) (@Je _ _ _ _ _ (@JfZ _ _ _ _ _ _ _ _ _ _ 13 1 ["_law_door", "_law_ground", "_law_coins", "_law_now"] [5,6,11] _ _ _ _ ["_law_hall", "_law_grounds", "_law_script", "_law_at_here", "_law_which_here", "_law_ground", "_law_coins", "_law_left", "_law_north", "_law_south", "_law_place", "_law_now", "_law_found", "_law_bad", "_law_door"] ((Jm Jfy).names) (by decide +kernel) Y7.nd rfl (@Zn _ _ _ _ (@J7 _ _ _ _ (@Ja _ _ _ _ _ (@Jd _ _ _ _) (@Ja _ _ _ _ _ (@Jd _ _ _ _) (@Jc _) rfl) rfl))) (fun _ _ _ _=>(@Zr _ _ _ _ _ _ _ _ _ 0 (by decide +kernel) rfl rfl)) (fun _ _ _ _=>(@JbC _)) (fun _ _ _ _=>(@Jl _ _ _ _ _ _ _ _ _ _ _ _ _ _ _ T.Jhv (Joi T) (hr.mono (by decide)) JG (@Ja _ _ _ _ _ (@Yn _ _ _ _ _ _ _ _ _ 1 rfl rfl (by decide) (by decide)) (@Ja _ _ _ _ _ (@YT _ _ _ _ _ _ _ _ _ 0 rfl rfl (by decide) (by decide)) (@Ja _ _ _ _ _ (@Yn _ _ _ _ _ _ _ _ _ 2 rfl rfl (by decide) (by decide)) (@Ja _ _ _ _ _ (@Yn _ _ _ _ _ _ _ _ _ 3 rfl rfl (by decide) (by decide)) (@Jc _) rfl) rfl) rfl) rfl) rfl (by decide) rfl rfl)) rfl rfl rfl rfl rfl (by intro _; rfl)) (@Je _ _ _ _ _ (@YH _ _ _ _ _ _ _ _ PassesOwn.never rfl (@Zn _ _ _ _ (@J7 _ _ _ _ (@Ja _ _ _ _ _ (@Jd _ _ _ _) (@Ja _ _ _ _ _ (@Jd _ _ _ _) (@Jc _) rfl) rfl))) (@JS _ _ 14 _ Y7.nd rfl (Or.inl rfl) (.inl rfl)) (@Ji _ _ _ (@JN _ _ _ _ _ _ _ _ (@PW.pt _ _ _ (@JcU _ _ _ _ _ _ _ (@Jq _ _ _ _ _ _ _ _ (@JdN _) (@Jr _ _ _ _ _ _ _ (@JE _) (@pv _ 13 _ _ rfl (.inl rfl) rfl rfl) (@pv _ 14 _ _ rfl (.inl rfl) rfl rfl) (fun _ _=>rfl)) (@Js _ _ _ _) (Ju _)) (@JbB _ _ _ _ (@Jbf _ _ _ _ (@Z5 _ _ _ (@Jl _ _ _ _ _ _ _ _ _ _ _ _ _ _ _ T.JmX (Jsj T) (hr.mono (by decide)) JG (@Ja _ _ _ _ _ (@Jr _ _ _ _ _ _ _ (@JE _) (@pv _ 12 _ _ rfl (.inl rfl) rfl rfl) (@pv _ 14 _ _ rfl (.inl rfl) rfl rfl) (fun _ _=>rfl)) (@Ja _ _ _ _ _ (@Yz _ _ _ _ _ (@Ja _ _ _ _ _ (@Js _ _ _ _) (@Ja _ _ _ _ _ (@Jr _ _ _ _ _ _ _ (@JE _) (@pv _ 13 _ _ rfl (.inl rfl) rfl rfl) (@pv _ 14 _ _ rfl (.inl rfl) rfl rfl) (fun _ _=>rfl)) (@Jc _) rfl) rfl)) (@Jc _) rfl) rfl) rfl (by decide) rfl rfl) (by intro _; rfl)))))) (@Ji _ _ _ (@Jw _ _ _ _ (@JbW _ _ _ _))) (@JD _))) (by intro _; rfl)) (@Je _ _ _ _ _ (@JN _ _ _ _ _ _ _ _ (@PW.pt _ _ _ (@Jah _ _ _ _ _ _ _ (@Jq _ _ _ _ _ _ _ _ (@JdN _) (@Jr _ _ _ _ _ _ _ (@JE _) (@pv _ 13 _ _ rfl (.inl rfl) rfl rfl) (@Jd _ _ _ _) (fun _ _=>rfl)) (@Js _ _ _ _) (Ju _)) (@Jap _ _ _ _ (@Jq _ _ _ _ _ _ _ _ (@JdN _) (@Jr _ _ _ _ _ _ _ (@JE _) (@pv _ 13 _ _ rfl (.inl rfl) rfl rfl) (@Jd _ _ _ _) (fun _ _=>rfl)) (@Js _ _ _ _) (Ju _))))) (@Ji _ _ _ (@Jw _ _ _ _ (@Jt1 _ _ _ _ _ _ _ (@ZF _ _ _ _ _ _ _ _ (@JdN _) (@Jr _ _ _ _ _ _ _ (@JE _) (@pv _ 13 _ _ rfl (.inl rfl) rfl rfl) (@Jd _ _ _ _) (fun _ _=>rfl)) (@Js _ _ _ _) (Ju _)) (@JgK _ _ _ _ _ (@Ji6 _ _ _ _ _ _ _ (@JH _ _ _ _ _ _ _ _ _ (@Jau _) rfl T.J8 PyProof.Rows.boot_isinstance (@Ja _ _ _ _ _ (@Jr _ _ _ _ _ _ _ (@JE _) (@pv _ 12 _ _ rfl (.inl rfl) rfl rfl) (@Jd _ _ _ _) (fun _ _=>rfl)) (@Ja _ _ _ _ _ (@Jee _ _ _ _ rfl T.Jlv PyProof.Rows.boot_str (by decide) (by decide)) (@Jc _) rfl) rfl) (by decide) (by decide) rfl rfl) (@JgK _ _ _ _ _ (@ZF _ _ _ _ _ _ _ _ (@JgO _) (@Jr _ _ _ _ _ _ _ (@JE _) (@pv _ 12 _ _ rfl (.inl rfl) rfl rfl) (@Jd _ _ _ _) (fun _ _=>rfl)) (@J7 _ _ _ _ (@Ja _ _ _ _ _ (@Js _ _ _ _) (@Ja _ _ _ _ _ (@Js _ _ _ _) (@Jc _) rfl) rfl)) (by with_unfolding_all rfl)))))))) (@JD _)) (@Je _ _ _ _ _ (@JN _ _ _ _ _ _ _ _ (@PW.pt _ _ _ (@JcU _ _ _ _ _ _ _ (@Jq _ _ _ _ _ _ _ _ (@JrE _) (@pv _ 6 _ _ rfl (.inr (.inl rfl)) rfl rfl) (@Jd _ _ _ _) (Ju _)) (@JbB _ _ _ _ (@Jq _ _ _ _ _ _ _ _ (@JrE _) (@pv _ 7 _ _ rfl (.inl rfl) rfl rfl) (@Jd _ _ _ _) (Ju _))))) (@Ji _ _ _ (@Jw _ _ _ _ (@Jl _ _ _ _ _ _ _ _ _ _ _ _ _ _ _ T.JkI (JqU T) (hr.mono (by decide)) JG (@Ja _ _ _ _ _ (@pv _ 5 _ _ rfl (.inr (.inl rfl)) rfl rfl) (@Ja _ _ _ _ _ (@pv _ 6 _ _ rfl (.inr (.inl rfl)) rfl rfl) (@Ja _ _ _ _ _ (@pv _ 11 _ _ rfl (.inr (.inl rfl)) rfl rfl) (@Ja _ _ _ _ _ (@pv _ 12 _ _ rfl (.inl rfl) rfl rfl) (@Jc _) rfl) rfl) rfl) rfl) rfl (by decide) rfl rfl))) (@JD _)) (@Ji _ _ _ (@Jw _ _ _ _ (@Jl _ _ _ _ _ _ _ _ _ _ _ _ _ _ _ T.JmY (Jsk T) (hr.mono (by decide)) JG (@Ja _ _ _ _ _ (@pv _ 6 _ _ rfl (.inr (.inl rfl)) rfl rfl) (@Ja _ _ _ _ _ (@pv _ 11 _ _ rfl (.inr (.inl rfl)) rfl rfl) (@Ja _ _ _ _ _ (@pv _ 12 _ _ rfl (.inl rfl) rfl rfl) (@Jc _) rfl) rfl) rfl) rfl (by decide) rfl rfl))))))))))))))))))),?_⟩;have hw:=Jej (x:=YQ ns i) (n:=2) (by decide);obtain ⟨j,hj⟩:∃ j:Nat,YQ ns i % 2=(j:Int):=⟨(YQ ns i % 2).toNat,by omega⟩
  have j2:j < 2:=by omega
  have J:=hJ j j2;obtain ⟨t1,_,_⟩:=Jco j2;have gat:[V.ref (g 0).t,V.ref (g 1).t][j]?=some (.ref (g j).t):=by
   match j,j2 with
   | 0,_=>rfl
   | 1,_=>rfl
  generalize hgj:g j=G at J gat;obtain ⟨t,ps,zs,gs⟩:=G;generalize hgj':g' j=G' at J;obtain ⟨_,ps',zs',gs'⟩:=G';refine ⟨_,rfl,_,rfl,a,ns,i,rfl,hS,i0,_,_,rfl,rfl,(by show (0:Int) < 2; decide),?_⟩;refine ⟨_,rfl,_,rfl,lg,_,_,.ref t,rfl,rfl,Jp.of hlg,by rw [hj]; exact YD gat,?_⟩;refine ⟨fun σ1 H1=>∃ c:Int,(0≤c∧c≤20)∧Jf H H1∧σ1=[some (.ref h),some (.ref lg),some (.ref a),some (.int i),some (.int (j:Int)),some (.ref t),some (.int c),none,none,none,none,none,none,none,none],?_,?_⟩
  ·refine ⟨_,rfl,_,rfl,_,_,rfl,rfl,a,ns,i + 1,rfl,hS,by omega,_,_,rfl,rfl,⟨by decide,by decide⟩,_,_,rfl,rfl,_,_,rfl,rfl,(by show (0:Int) < 5; decide),by show 2≤sizeLine; decide,fun l nl=>?_⟩;have hb:=Jej (x:=YQ ns (i + 1) / 8 + 3) (n:=5) (by decide);refine ⟨_,rfl,_,rfl,_,_,rfl,rfl,a,ns,i + 1,rfl,(Jf.upd nl).seq hS,by omega,_,_,rfl,rfl,(by show (0:Int) < 8; decide),rfl,.inr ⟨_,rfl,l,_,_,_,rfl,rfl,Jp.of Jh,pk2,?_⟩⟩;by_cases hd:decide (V.int (YQ ns (i + 1) % 8)=V.int 7)=true
   ·rw [if_pos hd]; exact ⟨20,by decide,Jf.upd nl,by rw [← hj]; rfl⟩
   ·rw [if_neg hd]; exact ⟨(YQ ns (i + 1) / 8 + 3) % 5,by omega,Jf.upd nl,by rw [← hj]; rfl⟩
  rintro σ1 H1 ⟨c,hc,e1,rfl⟩;refine ⟨fun σ1 H2=>∃ m:Int,(0≤m∧m≤30)∧Jf H H2∧σ1=[some (.ref h),some (.ref lg),some (.ref a),some (.int i),some (.int (j:Int)),some (.ref t),some (.int c),some (.int m),none,none,none,none,none,none,none],?_,?_⟩
  ·refine ⟨_,rfl,_,rfl,_,_,rfl,rfl,a,ns,i + 2,rfl,e1.seq hS,by omega,_,_,rfl,rfl,⟨by decide,by decide⟩,_,_,rfl,rfl,_,_,rfl,rfl,(by show (0:Int) < 5; decide),by show 2≤sizeLine; decide,fun l nl=>?_⟩;have hb:=Jej (x:=YQ ns (i + 2) / 8 + 3) (n:=5) (by decide);have e2:=e1.trans (Jf.upd (o:=.lst [.int ((YQ ns (i + 2) / 8 + 3) % 5),.int 30]) nl);refine ⟨_,rfl,_,rfl,_,_,rfl,rfl,a,ns,i + 2,rfl,e2.seq hS,by omega,_,_,rfl,rfl,(by show (0:Int) < 8; decide),rfl,.inr ⟨_,rfl,l,_,_,_,rfl,rfl,Jp.of Jh,pk2,?_⟩⟩;by_cases hd:decide (V.int (YQ ns (i + 2) % 8)=V.int 7)=true
   ·rw [if_pos hd]; exact ⟨30,by decide,e2,rfl⟩
   ·rw [if_neg hd]; exact ⟨(YQ ns (i + 2) / 8 + 3) % 5,by omega,e2,rfl⟩
  rintro σ1 H2 ⟨m0,hm0,e2,rfl⟩;have hn0:=Jej (x:=YQ ns (i + 3)) (n:=c + 1) (by omega);refine ⟨_,rfl,_,rfl,_,_,rfl,rfl,a,ns,i + 3,rfl,e2.seq hS,by omega,_,rfl,_,_,rfl,rfl,_,_,rfl,rfl,(by show (0:Int) < c + 1; omega),?_⟩;generalize hnn:YQ ns (i + 3) % (c + 1)=n0 at hn0;refine ⟨_,rfl,_,rfl,_,_,rfl,rfl,a,ns,i + 4,rfl,e2.seq hS,by omega,_,rfl,_,rfl,_,_,rfl,rfl,_,rfl,_,_,rfl,rfl,_,_,_,rfl,fun s H3 hs3 e3=>?_⟩;have hs3:s=c - n0∨20 - n0 < s∨s < 0:=by rw [← hnn]; exact hs3
  have e3:=e2.trans e3;refine ⟨_,rfl,_,rfl,_,_,rfl,rfl,a,ns,i + 5,rfl,e3.seq hS,by omega,_,rfl,_,_,_,rfl,fun n H4 hn4 e4=>?_⟩;have hn4:n=n0∨20 < n∨n < 0:=by rw [← hnn]; exact hn4
  have e4:=e3.trans e4;refine ⟨_,rfl,_,rfl,_,rfl,_,_,rfl,rfl,a,ns,i + 6,rfl,e4.seq hS,by omega,t,_,ps,zs,gs,rfl,J.G.same e4,fun p H5 tp e5=>?_⟩;have e5:=e4.trans e5;refine ⟨fun σ1 H6=>∃ m:Int,(m=m0∨30 < m∨m < 0)∧Jf H H6∧σ1=[some (.ref h),some (.ref lg),some (.ref a),some (.int i),some (.int (j:Int)),some (.ref t),some (.int c),some (.int m),some (.int n),some (.int s),some (.str p),none,none,none,none],?_,?_⟩
  ·exact ⟨_,rfl,_,rfl,_,_,rfl,rfl,a,ns,i + 7,rfl,e5.seq hS,by omega,_,rfl,_,_,_,rfl,fun m H6 hm6 e6=>⟨m,hm6,e5.trans e6,rfl⟩⟩
  rintro σ1 H6 ⟨m,hm6,e6,rfl⟩;refine ⟨_,rfl,_,rfl,_,rfl,_,rfl,_,rfl,_,rfl,_,_,rfl,rfl,a,ns,i + 8,rfl,e6.seq hS,by omega,_,rfl,fun x H7 tx e7=>⟨by show 5≤sizeLine; decide,fun tn ntn=>?_⟩⟩;have e8:=(e6.trans e7).trans (Jf.upd (o:=.tup [.str p,.int m,.int n,.int s,.str x]) ntn);have htn:upd H7 tn (.tup [.str p,.int m,.int n,.int s,.str x]) tn=some (.tup [.str p,.int m,.int n,.int s,.str x]):=Jh;generalize upd H7 tn (.tup [.str p,.int m,.int n,.int s,.str x])=H8 at e8 htn;refine ⟨fun σ1 H9=>∃ c':Int,(c'=c∨20 < c'∨c' < 0)∧Jf H8 H9∧σ1=[some (.ref h),some (.ref lg),some (.ref a),some (.int i),some (.int (j:Int)),some (.ref t),some (.int c'),some (.int m),some (.int n),some (.int s),some (.str p),some (.ref tn),none,none,none],?_,?_⟩
  ·exact ⟨_,rfl,_,rfl,_,_,rfl,rfl,a,ns,i + 9,rfl,e8.seq hS,by omega,_,rfl,_,_,_,rfl,fun c' H9 hc' e9=>⟨c',hc',e9,rfl⟩⟩
  rintro σ1 H9 ⟨c',hc',e89,rfl⟩;have e9:=e8.trans e89;have htn9:=e89 _ _ htn;have J9:=J.same e9;refine ⟨by show 2≤sizeLine; decide,fun l10 n10=>⟨l10,rfl,⟨_,Jp.of Jh⟩,fun D hD=>?_⟩⟩;have hl10:upd H9 l10 (.lst [.int 0,.int 1]) l10=some (.lst [.int 0,.int 1]):=Jh;have e910:=Jf.upd (o:=.lst [.int 0,.int 1]) n10;generalize upd H9 l10 (.lst [.int 0,.int 1])=H10 at hl10 e910 hD;refine Jhj (xs:=[.int 0,.int 1]) (fun k ys H11=>Jf H10 H11∧H11 D=some (.lst ys)∧ys.length=k∧∀ (u:Nat) v,ys[u]?=some v→FV ps (zs'.map (·.2)) gs' c' p m n s x H11 (u:Int) v) rfl (fun i ys H11 z=>Jp.of (z.1 _ _ hl10)) ⟨Jf.upd hD,Jh,rfl,fun u v hv=>by simp at hv⟩ (fun i ys H9 z=>z.2.1) ?_ ?_
  ·rintro k xv ys H11 hx ⟨e11,hy,hyl,hF⟩;have hk:k < 2:=(List.getElem?_eq_some_iff.mp hx).1;obtain ⟨_,t2,_⟩:=Jco hk;obtain rfl:xv=.int (k:Int):=by rw [t2] at hx; exact (Option.some.inj hx).symm
   have e911:=e910.trans e11;refine tcT ?_;refine ⟨_,rfl,_,rfl,by show 2≤sizeLine; decide,fun l12 n12=>⟨_,rfl,l12,_,_,.str (Jdb j),rfl,rfl,Jp.of Jh,YD t1,?_⟩⟩;have s12:=Jf.upd (o:=.lst [.str "one",.str "two"]) n12;generalize upd H11 l12 (.lst [.str "one",.str "two"])=H12 at s12;have e912:=e911.trans s12;have fin:∀ {H13:Hp} {v:V},Jf H12 H13→FV ps (zs'.map (·.2)) gs' c' p m n s x H13 (k:Int) v→H13 D=some (.lst ys)∧ys.length < sizeLine∧Jf H10 (upd H13 D (.lst (ys ++ [v])))∧upd H13 D (.lst (ys ++ [v])) D=some (.lst (ys ++ [v]))∧(ys ++ [v]).length=k + 1∧∀ (u:Nat) v',(ys ++ [v])[u]?=some v'→FV ps (zs'.map (·.2)) gs' c' p m n s x (upd H13 D (.lst (ys ++ [v]))) (u:Int) v':=by
    intro H13 v e13 hv;have hD13:=(s12.trans e13) _ _ hy;refine ⟨hD13,by omega,fun b u hb=>?_,Jh,by rw [List.length_append]; show _ + 1=_; omega,fun u v' hu=>?_⟩
    ·rw [Jz (JA hb hD)]; exact ((e11.trans s12).trans e13) b u hb
    ·by_cases hu2:u < ys.length
     ·rw [List.getElem?_append_left hu2] at hu;exact ((hF u v' hu).same (s12.trans e13)).put hD13
     ·rw [List.getElem?_append_right (by omega)] at hu;have:u - ys.length=0:=by
       have:=(List.getElem?_eq_some_iff.mp hu).1;simp at this; omega
      rw [this] at hu;obtain rfl:v=v':=by simpa using hu
      rw [show u=k by omega];exact hv.put hD13
   refine ⟨_,rfl,_,rfl,h,d1,d2,t,tn,Jdb j,p,x,(k:Int),c',m,n,s,bs,ps,zs,gs,ps',zs',gs',rfl,J9.same e912,e912 _ _ htn9,tp,tx,by omega,fun hne a' H13 e13 ha=>?_,fun hgd r hr' H13 e13=>?_⟩
   ·exact fin e13 ⟨fun _=>⟨a',rfl,ha⟩,fun f=>absurd f hne⟩
   ·exact fin e13 ⟨fun f=>absurd hgd f,fun _=>⟨r,hr',rfl⟩⟩
  rintro fs H11 ⟨e11,hy,hfl,hF⟩;have hfl:fs.length=2:=hfl;obtain ⟨f0,f1,rfl⟩:∃ f0 f1,fs=[f0,f1]:=by
   match fs,hfl with
   | [f0,f1],_=>exact ⟨f0,f1,rfl⟩
  have F0:=hF 0 f0 rfl;have F1:=hF 1 f1 rfl;clear hF hfl;have e911:=e910.trans e11;refine ⟨by show 2≤sizeLine; decide,fun l12 n12=>⟨l12,rfl,⟨_,Jp.of Jh⟩,fun D2 hD2=>?_⟩⟩;have hl12:upd H11 l12 (.lst [.int 0,.int 1]) l12=some (.lst [.int 0,.int 1]):=Jh;have e1112:=Jf.upd (o:=.lst [.int 0,.int 1]) n12;generalize upd H11 l12 (.lst [.int 0,.int 1])=H12 at hl12 e1112 hD2;have e912:=e911.trans e1112;refine Jhj (xs:=[.int 0,.int 1]) (fun k ys H13=>Jf H12 H13∧H13 D2=some (.lst ys)∧ys=[V.str (Zm ps 0 c' p m n s x),V.str (Zm ps 1 c' p m n s x)].take k) rfl (fun i ys H13 z=>Jp.of (z.1 _ _ hl12)) ⟨Jf.upd hD2,Jh,rfl⟩ (fun i ys H9 z=>z.2.1) ?_ ?_
  ·rintro k xv ys H13 hx ⟨e13,hy2,rfl⟩;have hk:k < 2:=(List.getElem?_eq_some_iff.mp hx).1;obtain ⟨_,t2,_⟩:=Jco hk;obtain rfl:xv=.int (k:Int):=by rw [t2] at hx; exact (Option.some.inj hx).symm
   have e913:=e912.trans e13;refine tcT ?_;refine ⟨_,rfl,_,rfl,_,rfl,_,rfl,t,tn,p,x,(k:Int),c',m,n,s,ps,zs,gs,rfl,J9.G.same e913,e913 _ _ htn9,hy2,?_,fun b u hb=>?_,Jh,?_⟩
   ·rw [List.length_take]; exact Nat.lt_of_le_of_lt (Nat.min_le_right _ _) (by show 2 < sizeLine; decide)
   ·rw [Jz (JA hb hD2)]; exact e13 b u hb
   ·match k,hk with
    | 0,_=>rfl
    | 1,_=>rfl
  rintro ys H13 ⟨e13,hy2a,rfl⟩;have hy2:H13 D2=some (.lst [V.str (Zm ps 0 c' p m n s x),V.str (Zm ps 1 c' p m n s x)]):=hy2a;clear hy2a;have e1113:=e1112.trans e13;have hy13:=e1113 _ _ hy;have F0:=F0.same e1113;have F1:=F1.same e1113;have e913:=e911.trans e1113;have e013:=e9.trans e913;have g0:=Jnu (ps:=ps) (door:=0) (c:=c') (p:=p) (m:=m) (n:=n) (s:=s) (x:=x);have g1:=Jnu (ps:=ps) (door:=1) (c:=c') (p:=p) (m:=m) (n:=n) (s:=s) (x:=x);unfold FV at F0 F1;have z0:((0:Nat):Int)=0:=rfl;have z1:((1:Nat):Int)=1:=rfl;rw [z0] at F0;rw [z1] at F1;generalize Zm ps 0 c' p m n s x=b0 at hy2 F0 g0;generalize Zm ps 1 c' p m n s x=b1 at hy2 F1 g1;refine ⟨by show 2≤sizeLine; decide,fun l14 n14=>⟨l14,rfl,⟨_,Jp.of Jh⟩,?_⟩⟩;have hl14:upd H13 l14 (.lst [.int 0,.int 1]) l14=some (.lst [.int 0,.int 1]):=Jh;have s14:=Jf.upd (o:=.lst [.int 0,.int 1]) n14;generalize upd H13 l14 (.lst [.int 0,.int 1])=H14 at hl14 s14;have bne:∀ {w:Str},(!decide (V.str w=V.str ""))=true↔w ≠ "":=by
   intro w;rw [JfN,Bool.not_eq_true',beq_eq_false_iff_ne]
  refine JaT (xs:=[.int 0,.int 1]) (fun k σ H15=>Jf H14 H15∧∃ v,σ=[some (.ref h),some (.ref lg),some (.ref a),some (.int i),some (.int (j:Int)),some (.ref t),some (.int c'),some (.int m),some (.int n),some (.int s),some (.str p),some (.ref tn),some (.ref D),some (.ref D2),v]) ⟨Jf.refl _,_,rfl⟩ (fun i σ H15 _ z=>Jp.of (z.1 _ _ hl14)) ?_ ?_
  ·rintro k xv σ H15 hx ⟨e15,v,rfl⟩;have hk:k < 2:=(List.getElem?_eq_some_iff.mp hx).1;obtain ⟨_,t2,_⟩:=Jco hk;obtain rfl:xv=.int (k:Int):=by rw [t2] at hx; exact (Option.some.inj hx).symm
   have e1315:=s14.trans e15;obtain ⟨bk,fk,hbk,hfk,Fk⟩:∃ bk fk,[V.str b0,V.str b1][k]?=some (.str bk)∧[f0,f1][k]?=some fk∧(bk ≠ ""→∃ q,fk=.ref q∧H13 q=some (.tup (rf bk))):=by
    match k,hk with
    | 0,_=>exact ⟨b0,f0,rfl,rfl,F0.1⟩
    | 1,_=>exact ⟨b1,f1,rfl,rfl,F1.1⟩
   refine ⟨_,rfl,_,rfl,D2,_,_,.str bk,rfl,rfl,Jp.of (e1315 _ _ hy2),YD hbk,rfl,_,rfl,Yp (fun hne=>?_) (fun _=>Y5 ⟨e15,_,rfl⟩)⟩;obtain ⟨q',rfl,hq⟩:=Fk (bne.mp hne);exact ⟨_,rfl,_,rfl,D,_,_,.ref q',rfl,rfl,Jp.of (e1315 _ _ hy13),YD hfk,_,rfl,_,rfl,D2,_,_,.str bk,rfl,rfl,Jp.of (e1315 _ _ hy2),YD hbk,by show 2≤sizeLine; decide,fun t16 n16=>⟨q',t16,_,rfl,(Jf.upd n16) _ _ (e1315 _ _ hq),JX.of Jh,by show 2≤1000; decide,rfl,_,rfl,Y5 ⟨e15.trans (Jf.upd n16),_,rfl⟩⟩⟩
  ·rintro σ H15 ⟨e15,v,rfl⟩;have e1315:=s14.trans e15;have hy2:=e1315 _ _ hy2;have hy15:=e1315 _ _ hy13;have e015:=e013.trans e1315;by_cases h0:b0 = ""
   ·obtain ⟨_,hp,hm,hns,hx⟩:=g0 h0;have hns:=hns rfl;obtain ⟨r,hr',rfl⟩:=F0.2 h0;subst hr';have hn:n=n0:=by omega
    have hs':s=c - n0:=by omega
    have hmm:m=m0:=by omega
    have ev:Jdc (zs'.map (·.2)) gs' 0 c' m.toNat p n s r=.str (hs (decide (JO (zs'.map (·.2)) gs' c m.toNat p r≤n))):=by
     unfold Jdc; rw [if_pos rfl,show n + s=c by omega]
    rw [ev] at hy15;by_cases h1:b1 = ""
    ·obtain ⟨hc1,_,_,_,_⟩:=g1 h1;have hc1:=hc1 rfl;obtain rfl:c'=c:=by omega
     obtain ⟨r2,hr2,e2⟩:=F1.2 h1;obtain rfl:=JfF hr2;have ev1:Jdc (zs'.map (·.2)) gs' 1 c' m.toNat p n s r=ZQ (zs'.map (·.2)) gs' c' m.toNat p r:=by
      unfold Jdc; rw [if_neg (by decide)]
     rw [ev1] at e2;subst e2;refine ⟨_,rfl,D2,_,_,.str b0,rfl,rfl,Jp.of hy2,rfl,rfl,_,rfl,Yq (by rw [h0]; decide +kernel) ⟨_,rfl,D2,_,_,.str b1,rfl,rfl,Jp.of hy2,rfl,rfl,_,rfl,Yq (by rw [h1]; decide +kernel) ?_⟩⟩;have htn15:=(e913.trans e1315) _ _ htn9;obtain ⟨mn,hmn⟩:∃ k:Nat,m=(k:Int):=⟨m.toNat,by omega⟩
     subst hmn;rw [Int.toNat_natCast] at hy15;have fin1:∀ {R:V→Hp→Prop},(∀ H',Jf H15 H'→R (.bl true) H')→Jnn K [.int c',.ref tn,.ref D] H15 R E0:=fun hR =>
      ⟨tn,D,p,hs r,(mn:Int),n,s,c',JO (zs'.map (·.2)) gs' c' mn p r,rfl,htn15,hy15,Ja0 (W:=Jy (zs'.map (·.2))) (g:=fun p=>decide (p∈gs')) (by omega) mn p r,⟨by omega,by omega⟩,hR⟩
     refine ⟨_,rfl,_,_,rfl,rfl,_,rfl,Yp (fun k1=>⟨_,rfl,_,_,rfl,rfl,_,rfl,Yp (fun k2=>?_) (fun k2=>?_)⟩) (fun k1=>Y5 ?_)⟩
     ·obtain ⟨cn,hcn⟩:∃ k:Nat,c'=(k:Int):=⟨c'.toNat,by omega⟩
      subst hcn;exact ⟨_,rfl,_,rfl,_,rfl,_,rfl,t,tn,D,p,mn,n,s,r,cn,ps,zs,gs,zs',gs',rfl,J.G.same e015,J.zp,J.gp,J.zo,htn15,hy15,hp,by omega,⟨by omega,by omega⟩,by omega,fun H' e'=>q _ (e015.trans e')⟩
     ·exact ⟨_,rfl,_,rfl,_,rfl,tn,D,p,hs r,(mn:Int),n,s,c',JO (zs'.map (·.2)) gs' c' mn p r,rfl,htn15,hy15,Ja0 (W:=Jy (zs'.map (·.2))) (g:=fun p=>decide (p∈gs')) (by omega) mn p r,⟨by omega,by omega⟩,fun H' e'=>q _ (e015.trans e')⟩
     ·exact ⟨_,rfl,_,rfl,_,rfl,tn,D,p,hs r,(mn:Int),n,s,c',JO (zs'.map (·.2)) gs' c' mn p r,rfl,htn15,hy15,Ja0 (W:=Jy (zs'.map (·.2))) (g:=fun p=>decide (p∈gs')) (by omega) mn p r,⟨by omega,by omega⟩,fun H' e'=>q _ (e015.trans e')⟩
    ·refine ⟨_,rfl,D2,_,_,.str b0,rfl,rfl,Jp.of hy2,rfl,rfl,_,rfl,Yq (by rw [h0]; decide +kernel) ⟨_,rfl,D2,_,_,.str b1,rfl,rfl,Jp.of hy2,rfl,rfl,_,rfl,Zc (bne.mpr h1) ?_⟩⟩;refine ⟨_,rfl,D2,_,_,.str b0,rfl,rfl,Jp.of hy2,rfl,rfl,_,rfl,Yq (by rw [h0]; decide +kernel) ?_⟩;refine ⟨_,rfl,D,_,_,.str (hs (decide (JO (zs'.map (·.2)) gs' c m.toNat p r≤n))),rfl,rfl,Jp.of hy15,rfl,_,_,_,_,rfl,⟨_,.inl rfl⟩,.str _,Jmr,_,rfl,Y0 ⟨_,rfl,D,_,_,.str (hs (decide (JO (zs'.map (·.2)) gs' c m.toNat p r≤n))),rfl,rfl,Jp.of hy15,rfl,by show 2≤sizeLine; decide,fun l nl=>⟨l,_,rfl,.inl (Jp.of Jh),rfl,rfl,?_⟩⟩⟩;rw [if_neg (by decide),Jsv];exact q _ (e015.trans (Jf.upd nl))
   ·exact ⟨_,rfl,D2,_,_,.str b0,rfl,rfl,Jp.of hy2,rfl,rfl,_,rfl,Zc (bne.mpr h0) (Y0 ⟨_,rfl,D2,_,_,.str b0,rfl,rfl,Jp.of hy2,rfl,rfl,_,rfl,Zc (bne.mpr h0) (q _ e015)⟩)⟩
end
section
variable {P:Program} {w:World} {K:PySem.W.Frag} {mg:Str→Option Value} {base:Heap}
theorem Jti (T:Txt K mg):JL P w K mg base YK 13 T.Joy T.JmB ["_law_script"] (Jn2 K):=by
 refine T.JrO.F.ok Jfu (fun vs H Q E h=>?_) (fun cdv A outer s H vs Q E hr h=>?_)
 ·obtain ⟨_,_,rfl,_⟩:=h;rfl
 ·obtain ⟨a,ns,rfl,hS,hl,q⟩:=h;have szl:sizeLine=16777216:=sizeLine_eq;refine ⟨_,(@Je _ _ _ _ _ (@Jx _ _ 1 _ _ _ _ Jfu.nd rfl (Or.inl rfl) (@J7 _ _ _ _ (@Ja _ _ _ _ _ (@Jl _ _ _ _ _ _ _ _ _ _ _ _ _ _ _ T.JhQ (Jmb T) (hr.mono (by decide)) JG (@Ja _ _ _ _ _ (@pv _ 0 _ _ rfl (.inl rfl) rfl rfl) (@Ja _ _ _ _ _ (@Jd _ _ _ _) (@Jc _) rfl) rfl) rfl (by decide) rfl rfl) (@Ja _ _ _ _ _ (@Jl _ _ _ _ _ _ _ _ _ _ _ _ _ _ _ T.JhQ (Jmb T) (hr.mono (by decide)) JG (@Ja _ _ _ _ _ (@pv _ 0 _ _ rfl (.inl rfl) rfl rfl) (@Ja _ _ _ _ _ (@Jd _ _ _ _) (@Jc _) rfl) rfl) rfl (by decide) rfl rfl) (@Jc _) rfl) rfl)) rfl (.inl rfl)) (@Je _ _ _ _ _ (@Jx _ _ 2 _ _ _ _ Jfu.nd rfl (Or.inl rfl) (@JqM _ _ _ _ _ _ _ _ _ _ _ _ _ _ T.Jny (Jmk T) (hr.mono (by decide)) rfl T.JpU T.Jfr.b .nil JG (by decide)) rfl (.inl rfl)) (@Je _ _ _ _ _ (@YH _ _ _ _ _ _ _ _ PassesOwn.never rfl (@Zn _ _ _ _ (@J7 _ _ _ _ (@Ja _ _ _ _ _ (@Jd _ _ _ _) (@Ja _ _ _ _ _ (@Jd _ _ _ _) (@Jc _) rfl) rfl))) (@JS _ _ 3 _ Jfu.nd rfl (Or.inl rfl) (.inl rfl)) (@Je _ _ _ _ _ (@Jx _ _ 4 _ _ _ _ Jfu.nd rfl (Or.inl rfl) (@Jr _ _ _ _ _ _ _ (@JE _) (@pv _ 1 _ _ rfl (.inl rfl) rfl rfl) (@pv _ 3 _ _ rfl (.inl rfl) rfl rfl) (fun _ _=>rfl)) rfl (.inl rfl)) (@Ji _ _ _ (@JW _ _ _ _ (@YB _ _ _ _ _ _ _ _ _ _ _ _ _ _ _ _ _ _ _ _ (@pv _ 2 _ _ rfl (.inl rfl) rfl rfl) T.Jae T.Jal.m (JhX T) (hr.mono (by decide)) T.Jal.b .nil JdM (@Ja _ _ _ _ _ (@Jr _ _ _ _ _ _ _ (@JE _) (@J7 _ _ _ _ (@Ja _ _ _ _ _ (@Js _ _ _ _) (@Ja _ _ _ _ _ (@Js _ _ _ _) (@Jc _) rfl) rfl)) (@pv _ 3 _ _ rfl (.inl rfl) rfl rfl) (fun _ _=>rfl)) (@Ja _ _ _ _ _ (@Jj9 _ _ _ _ _ _ _ _ _ _ _ _ _ _ _ _ _ T.Jmo (Jlo T) (hr.mono (by decide)) rfl T.JnN T.JeQ.b .nil JG (@Ja _ _ _ _ _ (@Y2 _ _ _ _ _ _ _ _ _ (@JeK _) rfl T.Jjh PyProof.Rows.boot_list (@Ja _ _ _ _ _ (@Jr _ _ _ _ _ _ _ (@Yg _) (@pv _ 4 _ _ rfl (.inl rfl) rfl rfl) (@Jd _ _ _ _) (fun _ _=>rfl)) (@Jc _) rfl) (by decide) (by decide) rfl rfl) (@Ja _ _ _ _ _ (@Y2 _ _ _ _ _ _ _ _ _ (@JeK _) rfl T.Jjh PyProof.Rows.boot_list (@Ja _ _ _ _ _ (@Jr _ _ _ _ _ _ _ (@Yg _) (@pv _ 4 _ _ rfl (.inl rfl) rfl rfl) (@Jd _ _ _ _) (fun _ _=>rfl)) (@Jc _) rfl) (by decide) (by decide) rfl rfl) (@Ja _ _ _ _ _ (@Y2 _ _ _ _ _ _ _ _ _ (@JeK _) rfl T.Jjh PyProof.Rows.boot_list (@Ja _ _ _ _ _ (@Jr _ _ _ _ _ _ _ (@Yg _) (@pv _ 4 _ _ rfl (.inl rfl) rfl rfl) (@Jd _ _ _ _) (fun _ _=>rfl)) (@Jc _) rfl) (by decide) (by decide) rfl rfl) (@Jc _) rfl) rfl) rfl) (by decide) rfl rfl) (@Jc _) rfl) rfl) rfl rfl rfl) rfl))) (by intro _; rfl)) (@Je _ _ _ _ _ (@YH _ _ _ _ _ _ _ _ PassesOwn.never rfl (@Zn _ _ _ _ (@J7 _ _ _ _ (@Ja _ _ _ _ _ (@Jd _ _ _ _) (@Ja _ _ _ _ _ (@Jd _ _ _ _) (@Ja _ _ _ _ _ (@Jd _ _ _ _) (@Ja _ _ _ _ _ (@Jd _ _ _ _) (@Ja _ _ _ _ _ (@Jd _ _ _ _) (@Jc _) rfl) rfl) rfl) rfl) rfl))) (@JS _ _ 5 _ Jfu.nd rfl (Or.inl rfl) (.inl rfl)) (@Ji _ _ _ (@JN _ _ _ _ _ _ _ _ (@Jbf _ _ _ _ (@Z5 _ _ _ (@Jl _ _ _ _ _ _ _ _ _ _ _ _ _ _ _ T.JkE (JqQ T) (hr.mono (by decide)) JG (@Ja _ _ _ _ _ (@pv _ 2 _ _ rfl (.inl rfl) rfl rfl) (@Ja _ _ _ _ _ (@pv _ 1 _ _ rfl (.inl rfl) rfl rfl) (@Ja _ _ _ _ _ (@pv _ 0 _ _ rfl (.inl rfl) rfl rfl) (@Ja _ _ _ _ _ (@pv _ 5 _ _ rfl (.inl rfl) rfl rfl) (@Jc _) rfl) rfl) rfl) rfl) rfl (by decide) rfl rfl) (by intro _; rfl))) (@Ji _ _ _ (@Jw _ _ _ _ (@JbW _ _ _ _))) (@JD _))) (by intro _; rfl)) (@Ji _ _ _ (@Jw _ _ _ _ (@Jl _ _ _ _ _ _ _ _ _ _ _ _ _ _ _ T.JiQ (Jpi T) (hr.mono (by decide)) JG (@Ja _ _ _ _ _ (@pv _ 2 _ _ rfl (.inl rfl) rfl rfl) (@Ja _ _ _ _ _ (@Jr _ _ _ _ _ _ _ (@JE _) (@pv _ 1 _ _ rfl (.inl rfl) rfl rfl) (@Jd _ _ _ _) (fun _ _=>rfl)) (@Ja _ _ _ _ _ (@pv _ 0 _ _ rfl (.inl rfl) rfl rfl) (@Jc _) rfl) rfl) rfl) rfl (by decide) rfl rfl))))))),?_⟩;refine ⟨_,rfl,a,ns,0,rfl,hS,by decide,fun t0 ps0 zs0 gs0 H1 e1 G0=>?_⟩;refine ⟨_,rfl,a,ns,5,rfl,e1.seq hS,by decide,fun t1 ps1 zs1 gs1 H2 e2 G1=>⟨by show 2≤sizeLine; decide,fun lg nlg=>?_⟩⟩;have s3:=Jf.upd (o:=.lst [.ref t0,.ref t1]) nlg;have hlg:upd H2 lg (.lst [.ref t0,.ref t1]) lg=some (.lst [.ref t0,.ref t1]):=Jh;generalize upd H2 lg (.lst [.ref t0,.ref t1])=H4 at s3 hlg;have e4:=(e1.trans e2).trans s3;obtain ⟨g,hgl,hG⟩:∃ g:Nat→Gr,H4 lg=some (.lst [.ref (g 0).t,.ref (g 1).t])∧∀ j,JtG K H4 (g j):=by
   refine ⟨fun j=>if j=0 then ⟨t0,ps0,zs0,gs0⟩ else ⟨t1,ps1,zs1,gs1⟩,hlg,fun j=>?_⟩;by_cases hj:j=0
   ·simp only [hj,if_true]; exact G0.same (e2.trans s3)
   ·simp only [hj,if_false]; exact G1.same s3
  clear hlg G0 G1;have hlg:=hgl;have gat:∀ {i:Nat},i < 2→[V.ref (g 0).t,V.ref (g 1).t][i]?=some (.ref (g i).t):=fun {i} h=>by
   match i,h with
   | 0,_=>rfl
   | 1,_=>rfl
  refine fun h dx nx ndx hne=>Jpo nx ndx fun d1 d2 H5 e5 n1 n2 A5=>⟨rfl,?_⟩
  have nd1:H d1=none:=e4.free n1;refine ⟨by show 2≤sizeLine; decide,fun l6 n6=>⟨l6,rfl,⟨_,Jp.of Jh⟩,?_⟩⟩;have s6:=Jf.upd (o:=.lst [.int 0,.int 1]) n6;have hl6:upd H5 l6 (.lst [.int 0,.int 1]) l6=some (.lst [.int 0,.int 1]):=Jh;generalize upd H5 l6 (.lst [.int 0,.int 1])=H6 at s6 hl6;have e46:=e5.trans s6;refine JaT (xs:=[.int 0,.int 1]) (fun i σ H7=>∃ (bs:List (JP×V)) (v3 v4:Option V),H7 l6=some (.lst [.int 0,.int 1])∧Jf H H7∧H7 lg=some (.lst [.ref (g 0).t,.ref (g 1).t])∧(∀ j,JtG K H7 (g j))∧Jat T H7 h d1 d2 bs []∧bs.length=i∧(∀ j,j < i→JlB T H7 bs (Jdb j) (g j))∧(∀ j,i≤j→j < 2→Yd bs (.inr (Jdb j))=none)∧σ=[some (.ref a),some (.ref lg),some (.ref h),v3,v4,none])
   ⟨[],none,none,hl6,e4.trans e46,e46 _ _ hlg,fun j=>(hG j).same e46,A5.same s6,rfl,fun j hj=>absurd hj (by omega),fun j _ _=>rfl,rfl⟩ (fun i σ H7 _ h=>by obtain ⟨_,_,_,h,_⟩:=h; exact Jp.of h) ?_ ?_
  ·rintro i xv σ H7 hx ⟨bs,v3,v4,hl7,e7,hlg7,hG7,A7,hbl,hK,hN,rfl⟩;have hi:i < 2:=(List.getElem?_eq_some_iff.mp hx).1;obtain ⟨t1,t2,t3⟩:=Jco hi;obtain rfl:xv=.int (i:Int):=by rw [t2] at hx; exact (Option.some.inj hx).symm
   obtain ⟨dh,hh⟩:=A7.hi;refine ⟨_,rfl,_,rfl,lg,_,_,.ref (g i).t,rfl,rfl,Jp.of hlg7,YD (gat hi),?_⟩;refine ⟨_,rfl,h,dh,_,rfl,hh,rfl,by show 2≤sizeLine; decide,fun l8 n8=>⟨_,rfl,l8,_,_,.str (Jdb i),rfl,rfl,Jp.of Jh,YD t1,?_⟩⟩;have s8:=Jf.upd (o:=.lst [.str "one",.str "two"]) n8;generalize upd H7 l8 (.lst [.str "one",.str "two"])=H8 at s8;have G8:=(hG7 i).same s8;obtain ⟨pn,pl,pg,g1,g2,g3,g4,g5⟩:=(G8).at_;refine ⟨_,rfl,(g i).t,_,_,.ref pn,rfl,rfl,JX.of g1,rfl,pn,_,rfl,.inl (Jp.of g2),fun l1 n1=>?_⟩;have f2:=Jf.upd (o:=.lst ((g i).ps.map V.str)) n1;refine ⟨_,rfl,(g i).t,_,_,.ref pl,rfl,rfl,JX.of (f2 _ _ g1),rfl,pl,_,rfl,.inl (Jp.of (f2 _ _ g3)),fun l2 n2=>?_⟩;have f3:=f2.trans (Jf.upd (o:=.lst ((g i).zs.map (·.1))) n2);refine ⟨_,rfl,(g i).t,_,_,.ref pg,rfl,rfl,JX.of (f3 _ _ g1),rfl,pg,_,rfl,.inl (Jp.of (f3 _ _ g5)),fun l3 n3=>?_⟩;have f4:=f3.trans (Jf.upd (o:=.lst ((g i).gs.map V.str)) n3);refine fun b dx nx ndx hne=>Joo f4 (((Jf.upd n2).trans (Jf.upd n3)) _ _ Jh) ((Jf.upd n3) _ _ Jh) Jh (Jai g4 f4) (G8).good nx ndx fun ps' zs' gs' H9 e9 B pp ps3 zp zs3 gp gs3=>⟨rfl,?_⟩
   clear hne f4 f3 f2 g1 g2 g3 g4 g5 n1 n2 n3 nx ndx pn pl pg l1 l2 l3 dx;have s9:=s8.trans e9;have A9:=A7.same s9;have hv0:=hN i (Nat.le_refl _) hi;refine ⟨h,d1,d2,Jdb i,.ref b,bs,[],rfl,ZA t3,A9,fun H' _=>⟨(fun h=>by rw [t3] at h; cases h),(fun _ h=>by rw [hv0] at h; cases h),fun _ _ h=>by omega⟩,fun _ _ _ H10 bt A10=>?_⟩;have hd:=A9.h1;refine ⟨_,_,_,bt.dict hd (s9 _ _ hl7) (fun _ z=>nomatch z),fun b u hb=>bt _ _ (JA hb nd1) ((e7.trans s9) _ _ hb),bt.dict hd (s9 _ _ hlg7) (fun _ z=>nomatch z),fun j=>bt.grD hd ((hG7 j).same s9),A10,by rw [List.length_append]; show _ + 1=_; omega,fun j hj=>?_,fun j hj hj2=>?_,rfl⟩
   ·by_cases hji:j=i
    ·subst hji;exact ⟨b,ps',zs',gs',by rw [JcS _ _ _ _ hv0,if_pos rfl],bt.bdD hd B,pp,ps3,zp,zs3,gp,gs3⟩
    ·obtain ⟨b0,ps0,zs0,gs0,k1,k2,k3⟩:=hK j (by omega);exact ⟨b0,ps0,zs0,gs0,by rw [JcS _ _ _ _ hv0,if_neg (fun z=>hji (JlG (by omega) hi (Sum.inr.inj z)))]; exact k1,bt.bdD hd (k2.same s9),k3⟩
   ·rw [JcS _ _ _ _ hv0,if_neg (fun z=>by have:=JlG hj2 hi (Sum.inr.inj z); omega)];exact hN j (by omega) hj2
  ·rintro σ H7 ⟨bs,v3,v4,hl7,e7,hlg7,hG7,A7,hbl,hK,hN,rfl⟩;obtain ⟨g',hJ⟩:∃ g':Nat→Gr,∀ j,j < 2→JB T H7 h d1 d2 bs (Jdb j) (g j).t (g j).ps (g j).zs (g j).gs (g' j).ps (g' j).zs (g' j).gs:=by
    obtain ⟨b0,ps0,zs0,gs0,k1,k2,k3,_,k5,k6,k7,_⟩:=hK 0 (by decide);obtain ⟨b1,ps1,zs1,gs1,m1,m2,m3,_,m5,m6,m7,_⟩:=hK 1 (by decide);refine ⟨fun j=>if j=0 then ⟨0,ps0,zs0,gs0⟩ else ⟨0,ps1,zs1,gs1⟩,fun j hj=>?_⟩
    match j,hj with
    | 0,_=>exact ⟨A7,⟨b0,k1,k2⟩,ZA (Jco (i:=0) (by decide)).2.2,hG7 0,k3,k5,k7,k6⟩
    | 1,_=>exact ⟨A7,⟨b1,m1,m2⟩,ZA (Jco (i:=1) (by decide)).2.2,hG7 1,m3,m5,m7,m6⟩
   refine ⟨by show 5≤sizeLine; decide,fun l8 n8=>⟨l8,rfl,⟨_,Jp.of Jh⟩,?_⟩⟩;have s8:=Jf.upd (o:=.lst [.int 10,.int 20,.int 30,.int 40,.int 10]) n8;have hl8:upd H7 l8 (.lst [.int 10,.int 20,.int 30,.int 40,.int 10]) l8=some (.lst [.int 10,.int 20,.int 30,.int 40,.int 10]):=Jh;generalize upd H7 l8 (.lst [.int 10,.int 20,.int 30,.int 40,.int 10])=H8 at s8 hl8;have e8:=e7.trans s8;refine JaT (xs:=[.int 10,.int 20,.int 30,.int 40,.int 10]) (fun i σ H9=>Jf H8 H9∧∃ v5,σ=[some (.ref a),some (.ref lg),some (.ref h),v3,v4,v5]) ⟨Jf.refl _,_,rfl⟩ (fun i σ H9 _ h=>Jp.of (h.1 _ _ hl8)) ?_ ?_
   ·rintro i xv σ H9 hx ⟨e9,v5,rfl⟩;obtain ⟨k,rfl,hk⟩:∃ k:Int,xv=.int k∧0≤k:=by
     match i,hx with
     | 0,hx=>exact ⟨_,(Option.some.inj hx).symm,by decide⟩
     | 1,hx=>exact ⟨_,(Option.some.inj hx).symm,by decide⟩
     | 2,hx=>exact ⟨_,(Option.some.inj hx).symm,by decide⟩
     | 3,hx=>exact ⟨_,(Option.some.inj hx).symm,by decide⟩
     | 4,hx=>exact ⟨_,(Option.some.inj hx).symm,by decide⟩
    have e79:=s8.trans e9;exact ⟨_,rfl,_,rfl,_,rfl,_,rfl,h,d1,d2,lg,a,k,ns,bs,g,g',rfl,fun j hj=>(hJ j hj).same e79,e79 _ _ hlg7,(e8.trans e9).seq hS,hk,fun H10 e10=>⟨_,rfl,Y5 ⟨e9.trans e10,_,rfl⟩⟩⟩
   ·rintro σ H9 ⟨e9,v5,rfl⟩;have e79:=s8.trans e9;exact ⟨_,rfl,_,rfl,lg,_,_,.ref (g 0).t,rfl,rfl,Jp.of (e79 _ _ hlg7),rfl,_,rfl,h,d1,d2,(g 0).t,a,ns,bs,(g 0).ps,(g 0).zs,(g 0).gs,(g' 0).ps,(g' 0).zs,(g' 0).gs,rfl,(hJ 0 (by decide)).same e79,(e8.trans e9).seq hS,fun H10 e10=>q H10⟩
end
def JoG (K:PySem.W.Frag):Prop:=(JqB K,JqA K,Jqy K,Jqz K,Jqw K,Jqx K)=Jlx
theorem Jb {α:Type} {a b:α} (h:some a=some b):a=b:=Option.some.inj h
theorem JtB {w:World} {K:PySem.W.Frag} {h:Heap} {mg:Str→Option Value} {fa:Addr} {P:Program} (hS:JoG K) (X:K.In h) (G:h.Ns mainGlobals mg) (hfa:mg "law" = some (.ref fa)) :
  ∃ fd:FuncData,(∀ (s:Shared) (v:Value),BindsTo s fd ⟨[v],[]⟩ [("_law_script",v)])∧∀ base:Heap,K.In base→base.Ns mainGlobals mg→JL P w K mg base YK 13 fa fd ["_law_script"] (Jn2 K):=by
 have hB:JqB K=isB:=congrArg (fun x=>x.1) hS;have hF:JqA K=isF:=congrArg (fun x=>x.2.1) hS;have hN:Jqy K=isN:=congrArg (fun x=>x.2.2.1) hS;have hK:Jqz K=isK:=congrArg (fun x=>x.2.2.2.1) hS;have hV:Jqw K=isV:=congrArg (fun x=>x.2.2.2.2.1) hS;have hT:Jqx K=isT:=congrArg (fun x=>x.2.2.2.2.2) hS;obtain ⟨JaH,Jb4,JbS⟩:=mgV X G (Jb (at_ hV 0));obtain ⟨JaG,ZT,ZN⟩:=mgV X G (Jb (at_ hV 1));obtain ⟨JaJ,Jad,Jab⟩:=mgV X G (Jb (at_ hV 2));obtain ⟨Jan,Jbn,Jbk⟩:=mgV X G (Jb (at_ hV 3));obtain ⟨Jam,Jbm,Jbj⟩:=mgV X G (Jb (at_ hV 4));obtain ⟨JaI,Jb5,JbT⟩:=mgV X G (Jb (at_ hV 5));have e:=hfa.symm.trans (PySem.W.mg_of X G (Jt (Option.some.inj (at_ hB 118))));cases e;let T:Txt K mg:={
  JnF:=Jg K "_wall"
  JmD:=JK K (Jg K "_wall")
  JsF:=⟨Jj (Jb (at_ hF 0)),(Jj (Jb (at_ hF 0))).binds (ps:=["k"]) (fun | _,_,_,_,_,_,[_],_=>rfl),PySem.W.mg_of X G (Jt (Jb (at_ hB 0)))⟩
  Jfh:=Jg K "good_name"
  Jeu:=JK K (Jg K "good_name")
  JcP:=⟨Jj (Jb (at_ hF 1)),(Jj (Jb (at_ hF 1))).binds (ps:=["text"]) (fun | _,_,_,_,_,_,[_],_=>rfl),PySem.W.mg_of X G (Jt (Jb (at_ hB 1)))⟩
  JeD:=Jg K "check_hand"
  Jdm:=JK K (Jg K "check_hand")
  Jce:=⟨Jj (Jb (at_ hF 2)),(Jj (Jb (at_ hF 2))).binds (ps:=["hand"]) (fun | _,_,_,_,_,_,[_],_=>rfl),PySem.W.mg_of X G (Jt (Jb (at_ hB 2)))⟩
  Jds:=Jg K "check_up_to"
  Jcy:=JK K (Jg K "check_up_to")
  Zh:=⟨Jj (Jb (at_ hF 3)),(Jj (Jb (at_ hF 3))).binds (ps:=["number", "most"]) (fun | _,_,_,_,_,_,[_,_],_=>rfl),PySem.W.mg_of X G (Jt (Jb (at_ hB 3)))⟩
  Jdv:=Jg K "check_coins"
  JcB:=JK K (Jg K "check_coins")
  JdA:=⟨Jj (Jb (at_ hF 4)),(Jj (Jb (at_ hF 4))).binds (ps:=["north", "south"]) (fun | _,_,_,_,_,_,[_,_],_=>rfl),PySem.W.mg_of X G (Jt (Jb (at_ hB 4)))⟩
  Jbw:=Jg K "check_standing"
  Jba:=JK K (Jg K "check_standing")
  Jbz:=⟨Jj (Jb (at_ hF 5)),(Jj (Jb (at_ hF 5))).binds (ps:=["board", "place", "turns", "north", "south", "ribbon"]) (fun | _,_,_,_,_,_,[_,_,_,_,_,_],_=>rfl),PySem.W.mg_of X G (Jt (Jb (at_ hB 5)))⟩
  Jkz:=Jg K "ended"
  JiI:=JK K (Jg K "ended")
  JkJ:=⟨Jj (Jb (at_ hF 6)),(Jj (Jb (at_ hF 6))).binds (ps:=["board", "place", "turns"]) (fun | _,_,_,_,_,_,[_,_,_],_=>rfl),PySem.W.mg_of X G (Jt (Jb (at_ hB 6)))⟩
  Jfk:=Jg K "check_new"
  Jex:=JK K (Jg K "check_new")
  Jfp:=⟨Jj (Jb (at_ hF 19)),(Jj (Jb (at_ hF 19))).binds (ps:=["name", "kept", "most"]) (fun | _,_,_,_,_,_,[_,_,_],_=>rfl),PySem.W.mg_of X G (Jt (Jb (at_ hB 31)))⟩
  Jfj:=Jg K "find_kept"
  Jew:=JK K (Jg K "find_kept")
  Jfo:=⟨Jj (Jb (at_ hF 20)),(Jj (Jb (at_ hF 20))).binds (ps:=["name", "kept"]) (fun | _,_,_,_,_,_,[_,_],_=>rfl),PySem.W.mg_of X G (Jt (Jb (at_ hB 32)))⟩
  Jbc:=Jg K "check_each_once"
  JaU:=JK K (Jg K "check_each_once")
  Zy:=⟨Jj (Jb (at_ hF 42)),(Jj (Jb (at_ hF 42))).binds (ps:=["things"]) (fun | _,_,_,_,_,_,[_],_=>rfl),PySem.W.mg_of X G (Jt (Jb (at_ hB 75)))⟩
  Jdw:=Jg K "check_among"
  JcC:=JK K (Jg K "check_among")
  Z0:=⟨Jj (Jb (at_ hF 43)),(Jj (Jb (at_ hF 43))).binds (ps:=["place", "places"]) (fun | _,_,_,_,_,_,[_,_],_=>rfl),PySem.W.mg_of X G (Jt (Jb (at_ hB 76)))⟩
  JcF:=Jg K "check_places"
  Jb7:=JK K (Jg K "check_places")
  JcL:=⟨Jj (Jb (at_ hF 44)),(Jj (Jb (at_ hF 44))).binds (ps:=["places"]) (fun | _,_,_,_,_,_,[_],_=>rfl),PySem.W.mg_of X G (Jt (Jb (at_ hB 77)))⟩
  Jdt:=Jg K "check_lanes"
  Jcz:=JK K (Jg K "check_lanes")
  Jdy:=⟨Jj (Jb (at_ hF 45)),(Jj (Jb (at_ hF 45))).binds (ps:=["lanes", "places"]) (fun | _,_,_,_,_,_,[_,_],_=>rfl),PySem.W.mg_of X G (Jt (Jb (at_ hB 78)))⟩
  Jdu:=Jg K "check_goals"
  JcA:=JK K (Jg K "check_goals")
  Jdz:=⟨Jj (Jb (at_ hF 46)),(Jj (Jb (at_ hF 46))).binds (ps:=["goals", "places"]) (fun | _,_,_,_,_,_,[_,_],_=>rfl),PySem.W.mg_of X G (Jt (Jb (at_ hB 79)))⟩
  Jq9:=Jg K "_law_at"
  Jot:=JK K (Jg K "_law_at")
  ZX:=⟨Jj (Jb (at_ hF 51)),(Jj (Jb (at_ hF 51))).binds (ps:=["_law_script", "_law_k"]) (fun | _,_,_,_,_,_,[_,_],_=>rfl),PySem.W.mg_of X G (Jt (Jb (at_ hB 88)))⟩
  Jow:=Jg K "_law_row"
  Jmz:=JK K (Jg K "_law_row")
  JjK:=⟨Jj (Jb (at_ hF 52)),(Jj (Jb (at_ hF 52))).binds (ps:=["_law_cell", "_law_many", "_law_base"]) (fun | _,_,_,_,_,_,[_,_,_],_=>rfl),PySem.W.mg_of X G (Jt (Jb (at_ hB 89)))⟩
  Jko:=Jg K "_law_whole"
  Jix:=JK K (Jg K "_law_whole")
  JhP:=⟨Jj (Jb (at_ hF 53)),(Jj (Jb (at_ hF 53))).binds (ps:=["_law_found"]) (fun | _,_,_,_,_,_,[_],_=>rfl),PySem.W.mg_of X G (Jt (Jb (at_ hB 90)))⟩
  Jkt:=Jg K "_law_names"
  JiC:=JK K (Jg K "_law_names")
  JkG:=⟨Jj (Jb (at_ hF 54)),(Jj (Jb (at_ hF 54))).binds (ps:=["_law_cell", "_law_many"]) (fun | _,_,_,_,_,_,[_,_],_=>rfl),PySem.W.mg_of X G (Jt (Jb (at_ hB 91)))⟩
  Jks:=Jg K "_law_pairs"
  JiB:=JK K (Jg K "_law_pairs")
  JkF:=⟨Jj (Jb (at_ hF 55)),(Jj (Jb (at_ hF 55))).binds (ps:=["_law_cell", "_law_draw", "_law_size"]) (fun | _,_,_,_,_,_,[_,_,_],_=>rfl),PySem.W.mg_of X G (Jt (Jb (at_ hB 92)))⟩
  Jkw:=Jg K "_law_goals"
  JiF:=JK K (Jg K "_law_goals")
  JkH:=⟨Jj (Jb (at_ hF 56)),(Jj (Jb (at_ hF 56))).binds (ps:=["_law_cell", "_law_kind", "_law_size"]) (fun | _,_,_,_,_,_,[_,_,_],_=>rfl),PySem.W.mg_of X G (Jt (Jb (at_ hB 93)))⟩
  Jkq:=Jg K "_law_small"
  Jiz:=JK K (Jg K "_law_small")
  JhQ:=⟨Jj (Jb (at_ hF 57)),(Jj (Jb (at_ hF 57))).binds (ps:=["_law_script", "_law_at_here"]) (fun | _,_,_,_,_,_,[_,_],_=>rfl),PySem.W.mg_of X G (Jt (Jb (at_ hB 94)))⟩
  JmE:=Jg K "_law_ways"
  Jkj:=JK K (Jg K "_law_ways")
  JjI:=⟨Jj (Jb (at_ hF 58)),(Jj (Jb (at_ hF 58))).binds (ps:=["_law_ground", "_law_place"]) (fun | _,_,_,_,_,_,[_,_],_=>rfl),PySem.W.mg_of X G (Jt (Jb (at_ hB 95)))⟩
  Joz:=Jg K "_law_foe"
  JmC:=JK K (Jg K "_law_foe")
  JjM:=⟨Jj (Jb (at_ hF 59)),(Jj (Jb (at_ hF 59))).binds (ps:=["_law_hand_here"]) (fun | _,_,_,_,_,_,[_],_=>rfl),PySem.W.mg_of X G (Jt (Jb (at_ hB 96)))⟩
  JmG:=Jg K "_law_hand"
  Jkl:=JK K (Jg K "_law_hand")
  JjL:=⟨Jj (Jb (at_ hF 60)),(Jj (Jb (at_ hF 60))).binds (ps:=["_law_cell"]) (fun | _,_,_,_,_,_,[_],_=>rfl),PySem.W.mg_of X G (Jt (Jb (at_ hB 97)))⟩
  Jou:=Jg K "_law_won"
  Jmx:=JK K (Jg K "_law_won")
  JlC:=⟨Jj (Jb (at_ hF 61)),(Jj (Jb (at_ hF 61))).binds (ps:=["_law_ground", "_law_place", "_law_left"]) (fun | _,_,_,_,_,_,[_,_,_],_=>rfl),PySem.W.mg_of X G (Jt (Jb (at_ hB 98)))⟩
  JiK:=Jg K "_law_turned"
  Jg7:=JK K (Jg K "_law_turned")
  JiR:=⟨Jj (Jb (at_ hF 62)),(Jj (Jb (at_ hF 62))).binds (ps:=["_law_north", "_law_south", "_law_ribbon", "_law_bid", "_law_reply"]) (fun | _,_,_,_,_,_,[_,_,_,_,_],_=>rfl),PySem.W.mg_of X G (Jt (Jb (at_ hB 99)))⟩
  Jkp:=Jg K "_law_which"
  Jiy:=JK K (Jg K "_law_which")
  JkD:=⟨Jj (Jb (at_ hF 63)),(Jj (Jb (at_ hF 63))).binds (ps:=["_law_marks"]) (fun | _,_,_,_,_,_,[_],_=>rfl),PySem.W.mg_of X G (Jt (Jb (at_ hB 100)))⟩
  Jkv:=Jg K "_law_holds"
  JiE:=JK K (Jg K "_law_holds")
  Ja4:=⟨Jj (Jb (at_ hF 64)),(Jj (Jb (at_ hF 64))).binds (ps:=["_law_found", "_law_due"]) (fun | _,_,_,_,_,_,[_,_],_=>rfl),PySem.W.mg_of X G (Jt (Jb (at_ hB 101)))⟩
  JmH:=Jg K "_law_flat"
  Jkm:=JK K (Jg K "_law_flat")
  JmX:=⟨Jj (Jb (at_ hF 65)),(Jj (Jb (at_ hF 65))).binds (ps:=["_law_found", "_law_due"]) (fun | _,_,_,_,_,_,[_,_],_=>rfl),PySem.W.mg_of X G (Jt (Jb (at_ hB 102)))⟩
  Jku:=Jg K "_law_model"
  JiD:=JK K (Jg K "_law_model")
  JhS:=⟨Jj (Jb (at_ hF 66)),(Jj (Jb (at_ hF 66))).binds (ps:=["_law_ground", "_law_total", "_law_turns"]) (fun | _,_,_,_,_,_,[_,_,_],_=>rfl),PySem.W.mg_of X G (Jt (Jb (at_ hB 103)))⟩
  JeC:=Jg K "_law_good_steps"
  Jdl:=JK K (Jg K "_law_good_steps")
  JeP:=⟨Jj (Jb (at_ hF 67)),(Jj (Jb (at_ hF 67))).binds (ps:=["_law_ground", "_law_wins", "_law_at_here", "_law_hand_here"]) (fun | _,_,_,_,_,_,[_,_,_,_],_=>rfl),PySem.W.mg_of X G (Jt (Jb (at_ hB 104)))⟩
  JcE:=Jg K "_law_good_replies"
  Jb6:=JK K (Jg K "_law_good_replies")
  JcK:=⟨Jj (Jb (at_ hF 68)),(Jj (Jb (at_ hF 68))).binds (ps:=["_law_ground", "_law_total", "_law_wins", "_law_at_here", "_law_bid"]) (fun | _,_,_,_,_,_,[_,_,_,_,_],_=>rfl),PySem.W.mg_of X G (Jt (Jb (at_ hB 105)))⟩
  Jfi:=Jg K "_law_good_bids"
  Jev:=JK K (Jg K "_law_good_bids")
  Jfn:=⟨Jj (Jb (at_ hF 69)),(Jj (Jb (at_ hF 69))).binds (ps:=["_law_ground", "_law_total", "_law_wins", "_law_at_here"]) (fun | _,_,_,_,_,_,[_,_,_,_],_=>rfl),PySem.W.mg_of X G (Jt (Jb (at_ hB 106)))⟩
  Jkx:=Jg K "_law_first"
  JiG:=JK K (Jg K "_law_first")
  JhT:=⟨Jj (Jb (at_ hF 70)),(Jj (Jb (at_ hF 70))).binds (ps:=["_law_row_here"]) (fun | _,_,_,_,_,_,[_],_=>rfl),PySem.W.mg_of X G (Jt (Jb (at_ hB 107)))⟩
  JmF:=Jg K "_law_open"
  Jkk:=JK K (Jg K "_law_open")
  JmW:=⟨Jj (Jb (at_ hF 71)),(Jj (Jb (at_ hF 71))).binds (ps:=["_law_ground", "_law_cell"]) (fun | _,_,_,_,_,_,[_,_],_=>rfl),PySem.W.mg_of X G (Jt (Jb (at_ hB 108)))⟩
  Jf5:=Jg K "_law_any_hand"
  Jfg:=JK K (Jg K "_law_any_hand")
  Jf7:=⟨Jj (Jb (at_ hF 72)),(Jj (Jb (at_ hF 72))).binds (ps:=["_law_cell"]) (fun | _,_,_,_,_,_,[_],_=>rfl),PySem.W.mg_of X G (Jt (Jb (at_ hB 109)))⟩
  Jfl:=Jg K "_law_any_place"
  Jey:=JK K (Jg K "_law_any_place")
  Jfq:=⟨Jj (Jb (at_ hF 73)),(Jj (Jb (at_ hF 73))).binds (ps:=["_law_ground", "_law_cell"]) (fun | _,_,_,_,_,_,[_,_],_=>rfl),PySem.W.mg_of X G (Jt (Jb (at_ hB 110)))⟩
  Jov:=Jg K "_law_try"
  Jmy:=JK K (Jg K "_law_try")
  JjJ:=⟨Jj (Jb (at_ hF 74)),(Jj (Jb (at_ hF 74))).binds (ps:=["_law_hall", "_law_door", "_law_base", "_law_coins", "_law_now"]) (fun | _,_,_,_,_,_,[_,_,_,_,_],_=>rfl),PySem.W.mg_of X G (Jt (Jb (at_ hB 111)))⟩
  Jhd:=Jg K "_law_refusal"
  Jf4:=JK K (Jg K "_law_refusal")
  Jhv:=⟨Jj (Jb (at_ hF 75)),(Jj (Jb (at_ hF 75))).binds (ps:=["_law_ground", "_law_door", "_law_coins", "_law_now"]) (fun | _,_,_,_,_,_,[_,_,_,_],_=>rfl),PySem.W.mg_of X G (Jt (Jb (at_ hB 112)))⟩
  Jky:=Jg K "_law_exact"
  JiH:=JK K (Jg K "_law_exact")
  JkI:=⟨Jj (Jb (at_ hF 76)),(Jj (Jb (at_ hF 76))).binds (ps:=["_law_ground", "_law_coins", "_law_now", "_law_found"]) (fun | _,_,_,_,_,_,[_,_,_,_],_=>rfl),PySem.W.mg_of X G (Jt (Jb (at_ hB 113)))⟩
  JmI:=Jg K "_law_fits"
  Jkn:=JK K (Jg K "_law_fits")
  JmY:=⟨Jj (Jb (at_ hF 77)),(Jj (Jb (at_ hF 77))).binds (ps:=["_law_coins", "_law_now", "_law_found"]) (fun | _,_,_,_,_,_,[_,_,_],_=>rfl),PySem.W.mg_of X G (Jt (Jb (at_ hB 114)))⟩
  Jox:=Jg K "_law_off"
  JmA:=JK K (Jg K "_law_off")
  JhR:=⟨Jj (Jb (at_ hF 78)),(Jj (Jb (at_ hF 78))).binds (ps:=["_law_cell", "_law_good", "_law_most"]) (fun | _,_,_,_,_,_,[_,_,_],_=>rfl),PySem.W.mg_of X G (Jt (Jb (at_ hB 115)))⟩
  Jkr:=Jg K "_law_round"
  JiA:=JK K (Jg K "_law_round")
  JkE:=⟨Jj (Jb (at_ hF 79)),(Jj (Jb (at_ hF 79))).binds (ps:=["_law_hall", "_law_grounds", "_law_script", "_law_at_here"]) (fun | _,_,_,_,_,_,[_,_,_,_],_=>rfl),PySem.W.mg_of X G (Jt (Jb (at_ hB 116)))⟩
  JiJ:=Jg K "_law_varied"
  Jg6:=JK K (Jg K "_law_varied")
  JiQ:=⟨Jj (Jb (at_ hF 80)),(Jj (Jb (at_ hF 80))).binds (ps:=["_law_hall", "_law_ground", "_law_script"]) (fun | _,_,_,_,_,_,[_,_,_],_=>rfl),PySem.W.mg_of X G (Jt (Jb (at_ hB 117)))⟩
  Joy:=Jg K "law"
  JmB:=JK K (Jg K "law")
  JrO:=⟨Jj (Jb (at_ hF 81)),(Jj (Jb (at_ hF 81))).binds (ps:=["_law_script"]) (fun | _,_,_,_,_,_,[_],_=>rfl),PySem.W.mg_of X G (Jt (Jb (at_ hB 118)))⟩
  JfQ:=Jg K "HANDS"
  Jki:=PySem.W.mg_of X G (Jt (Jb (at_ hB 119)))
  Jhy:=fun H=>Jtj (xs:=[.inr "north",.inr "south"]) (Jb (at_ hT 0)) H
  JaH:=JaH
  Jb4:=Jb4
  JbS:=JbS
  JaG:=JaG
  ZT:=ZT
  ZN:=ZN
  JaJ:=JaJ
  Jad:=Jad
  Jab:=Jab
  Jan:=Jan
  Jbn:=Jbn
  Jbk:=Jbk
  Jam:=Jam
  Jbm:=Jbm
  Jbj:=Jbj
  JaI:=JaI
  Jb5:=Jb5
  JbT:=JbT
  JrI:=PySem.W.mg_none_of X G (Jb (at_ hN 0))
  Zz:=PySem.W.mg_none_of X G (Jb (at_ hN 1))
  YM:=PySem.W.mg_none_of X G (Jb (at_ hN 2))
  Jlw:=PySem.W.mg_none_of X G (Jb (at_ hN 3))
  Jjg:=PySem.W.mg_none_of X G (Jb (at_ hN 4))
  JrH:=PySem.W.mg_none_of X G (Jb (at_ hN 5))
  JdU:=PySem.W.mg_none_of X G (Jb (at_ hN 6))
  Jei:=PySem.W.mg_none_of X G (Jb (at_ hN 7))
  J8:=PySem.W.mg_none_of X G (Jb (at_ hN 8))
  JeV:=PySem.W.mg_none_of X G (Jb (at_ hN 9))
  Jpn:=PySem.W.mg_none_of X G (Jb (at_ hN 10))
  Jlv:=PySem.W.mg_none_of X G (Jb (at_ hN 11))
  JgV:=PySem.W.mg_none_of X G (Jb (at_ hN 12))
  Jjh:=PySem.W.mg_none_of X G (Jb (at_ hN 13))
  Z6:=Jg K "BidmoverError"
  Je2:=PySem.W.mg_of X G (Jt (Jb (at_ hB 120)))
  JaS:=Jg K "BadName"
  Jhq:=PySem.W.mg_of X G (Jt (Jb (at_ hB 121)))
  J4:=Jg K "BadHand"
  Jhr:=PySem.W.mg_of X G (Jt (Jb (at_ hB 122)))
  JF:=Jg K "OutOfRange"
  Jcc:=PySem.W.mg_of X G (Jt (Jb (at_ hB 123)))
  JdW:=Jg K "Twice"
  JnM:=PySem.W.mg_of X G (Jt (Jb (at_ hB 124)))
  JU:=Jg K "NoPlace"
  Jho:=PySem.W.mg_of X G (Jt (Jb (at_ hB 125)))
  Jes:=Jg K "BadBid"
  JmP:=PySem.W.mg_of X G (Jt (Jb (at_ hB 126)))
  Jeq:=Jg K "NoLane"
  JmM:=PySem.W.mg_of X G (Jt (Jb (at_ hB 127)))
  Jep:=Jg K "NotDue"
  JmL:=PySem.W.mg_of X G (Jt (Jb (at_ hB 128)))
  Jar:=Jg K "NothingDone"
  Jgp:=PySem.W.mg_of X G (Jt (Jb (at_ hB 129)))
  Jcw:=Jg K "Taken"
  JkA:=PySem.W.mg_of X G (Jt (Jb (at_ hB 130)))
  Jer:=Jg K "Full"
  JmN:=PySem.W.mg_of X G (Jt (Jb (at_ hB 131)))
  ZD:=Jg K "Missing"
  Jhp:=PySem.W.mg_of X G (Jt (Jb (at_ hB 132)))
  JV:=Jg K "Book"
  JmO:=PySem.W.mg_of X G (Jt (Jb (at_ hB 133)))
  Yk:=⟨(Jb (at_ hB 136)),(Jb (at_ hB 137)),(Jb (at_ hB 138)),(Jb (at_ hN 14))⟩
  JcO:=Jo K "Book" "__init__"
  JeB:=JK K (Jo K "Book" "__init__")
  JcQ:=⟨Jj (Jb (at_ hF 7)),(Jj (Jb (at_ hF 7))).binds (ps:=["self", "board", "coins", "turns"]) (fun | _,_,_,_,_,_,[_,_,_,_],_=>rfl),⟨JJ (Jb (at_ hB 7)),(Jb (at_ hB 8)),J1 (Jb (at_ hF 7))⟩⟩
  Jbd:=Jo K "Book" "needs_with"
  JaV:=JK K (Jo K "Book" "needs_with")
  Jaa:=⟨Jj (Jb (at_ hF 8)),(Jj (Jb (at_ hF 8))).binds (ps:=["self", "turns"]) (fun | _,_,_,_,_,_,[_,_],_=>rfl),⟨JJ (Jb (at_ hB 9)),(Jb (at_ hB 10)),J1 (Jb (at_ hF 8))⟩⟩
  JcG:=Jo K "Book" "need_at"
  Jb8:=JK K (Jo K "Book" "need_at")
  Ja5:=⟨Jj (Jb (at_ hF 9)),(Jj (Jb (at_ hF 9))).binds (ps:=["self", "place", "turns", "ribbon"]) (fun | _,_,_,_,_,_,[_,_,_,_],_=>rfl),⟨JJ (Jb (at_ hB 11)),(Jb (at_ hB 12)),J1 (Jb (at_ hF 9))⟩⟩
  Zk:=Jo K "Book" "need_where_north_leads"
  Ze:=JK K (Jo K "Book" "need_where_north_leads")
  YS:=⟨Jj (Jb (at_ hF 10)),(Jj (Jb (at_ hF 10))).binds (ps:=["self", "place", "turns"]) (fun | _,_,_,_,_,_,[_,_,_],_=>rfl),⟨JJ (Jb (at_ hB 13)),(Jb (at_ hB 14)),J1 (Jb (at_ hF 10))⟩⟩
  Zj:=Jo K "Book" "need_where_south_leads"
  Zd:=JK K (Jo K "Book" "need_where_south_leads")
  YR:=⟨Jj (Jb (at_ hF 11)),(Jj (Jb (at_ hF 11))).binds (ps:=["self", "place", "turns"]) (fun | _,_,_,_,_,_,[_,_,_],_=>rfl),⟨JJ (Jb (at_ hB 15)),(Jb (at_ hB 16)),J1 (Jb (at_ hF 11))⟩⟩
  JaW:=Jo K "Book" "check_share"
  Jaw:=JK K (Jo K "Book" "check_share")
  Y9:=⟨Jj (Jb (at_ hF 12)),(Jj (Jb (at_ hF 12))).binds (ps:=["self", "place", "turns", "north", "ribbon"]) (fun | _,_,_,_,_,_,[_,_,_,_,_],_=>rfl),⟨JJ (Jb (at_ hB 17)),(Jb (at_ hB 18)),J1 (Jb (at_ hF 12))⟩⟩
  Jdx:=Jo K "Book" "winner"
  JcD:=JK K (Jo K "Book" "winner")
  Jbp:=⟨Jj (Jb (at_ hF 13)),(Jj (Jb (at_ hF 13))).binds (ps:=["self", "place", "turns", "north", "ribbon"]) (fun | _,_,_,_,_,_,[_,_,_,_,_],_=>rfl),⟨JJ (Jb (at_ hB 19)),(Jb (at_ hB 20)),J1 (Jb (at_ hF 13))⟩⟩
  JeG:=Jo K "Book" "least"
  Jdp:=JK K (Jo K "Book" "least")
  Jch:=⟨Jj (Jb (at_ hF 14)),(Jj (Jb (at_ hF 14))).binds (ps:=["self", "place", "turns", "ribbon"]) (fun | _,_,_,_,_,_,[_,_,_,_],_=>rfl),⟨JJ (Jb (at_ hB 21)),(Jb (at_ hB 22)),J1 (Jb (at_ hF 14))⟩⟩
  Jgn:=Jo K "Book" "bid_of"
  JfK:=JK K (Jo K "Book" "bid_of")
  Jlt:=⟨Jj (Jb (at_ hF 15)),(Jj (Jb (at_ hF 15))).binds (ps:=["self", "place", "turns", "north", "ribbon"]) (fun | _,_,_,_,_,_,[_,_,_,_,_],_=>rfl),⟨JJ (Jb (at_ hB 23)),(Jb (at_ hB 24)),J1 (Jb (at_ hF 15))⟩⟩
  JeH:=Jo K "Book" "answer_of"
  JdH:=JK K (Jo K "Book" "answer_of")
  JiS:=⟨Jj (Jb (at_ hF 16)),(Jj (Jb (at_ hF 16))).binds (ps:=["self", "place", "turns", "north", "ribbon", "bid"]) (fun | _,_,_,_,_,_,[_,_,_,_,_,_],_=>rfl),⟨JJ (Jb (at_ hB 25)),(Jb (at_ hB 26)),J1 (Jb (at_ hF 16))⟩⟩
  Jc8:=Jo K "Book" "answer_wins"
  Jcm:=JK K (Jo K "Book" "answer_wins")
  Jhw:=⟨Jj (Jb (at_ hF 17)),(Jj (Jb (at_ hF 17))).binds (ps:=["self", "place", "turns", "settled", "holder"]) (fun | _,_,_,_,_,_,[_,_,_,_,_],_=>rfl),⟨JJ (Jb (at_ hB 27)),(Jb (at_ hB 28)),J1 (Jb (at_ hF 17))⟩⟩
  JfM:=Jo K "Book" "step_of"
  Je0:=JK K (Jo K "Book" "step_of")
  JkL:=⟨Jj (Jb (at_ hF 18)),(Jj (Jb (at_ hF 18))).binds (ps:=["self", "place", "turns", "north", "ribbon", "hand"]) (fun | _,_,_,_,_,_,[_,_,_,_,_,_],_=>rfl),⟨JJ (Jb (at_ hB 29)),(Jb (at_ hB 30)),J1 (Jb (at_ hF 18))⟩⟩
  Jkf:=⟨(Jb (at_ hB 139)),JJ (Jb (at_ hB 7)),(Jb (at_ hB 8)),(Jb (at_ hB 140))⟩
  Zx:=(Jb (at_ hN 15))
  ZZ:=(Jb (at_ hN 16))
  Jdk:=(Jb (at_ hN 17))
  Zw:=(Jb (at_ hN 18))
  Ye:=Jg K "Hall"
  JpU:=PySem.W.mg_of X G (Jt (Jb (at_ hB 134)))
  Jae:=⟨(Jb (at_ hB 141)),(Jb (at_ hB 142)),(Jb (at_ hB 143)),(Jb (at_ hN 19))⟩
  JcN:=Jo K "Hall" "__init__"
  JeA:=JK K (Jo K "Hall" "__init__")
  Jfr:=⟨Jj (Jb (at_ hF 21)),(Jj (Jb (at_ hF 21))).binds (ps:=["self"]) (fun | _,_,_,_,_,_,[_],_=>rfl),⟨JJ (Jb (at_ hB 33)),(Jb (at_ hB 34)),J1 (Jb (at_ hF 21))⟩⟩
  Jbx:=Jo K "Hall" "add_board"
  Jbb:=JK K (Jo K "Hall" "add_board")
  Jal:=⟨Jj (Jb (at_ hF 22)),(Jj (Jb (at_ hF 22))).binds (ps:=["self", "name", "board"]) (fun | _,_,_,_,_,_,[_,_,_],_=>rfl),⟨JJ (Jb (at_ hB 35)),(Jb (at_ hB 36)),J1 (Jb (at_ hF 22))⟩⟩
  Jb9:=Jo K "Hall" "board_of"
  Jbu:=JK K (Jo K "Hall" "board_of")
  Zv:=⟨Jj (Jb (at_ hF 23)),(Jj (Jb (at_ hF 23))).binds (ps:=["self", "name"]) (fun | _,_,_,_,_,_,[_,_],_=>rfl),⟨JJ (Jb (at_ hB 37)),(Jb (at_ hB 38)),J1 (Jb (at_ hF 23))⟩⟩
  Jhh:=Jo K "Hall" "begin"
  Jgj:=JK K (Jo K "Hall" "begin")
  Jm2:=⟨Jj (Jb (at_ hF 24)),(Jj (Jb (at_ hF 24))).binds (ps:=["self", "name", "board_name", "place", "turns", "north", "south", "ribbon"]) (fun | _,_,_,_,_,_,[_,_,_,_,_,_,_,_],_=>rfl),⟨JJ (Jb (at_ hB 39)),(Jb (at_ hB 40)),J1 (Jb (at_ hF 24))⟩⟩
  JfL:=Jo K "Hall" "game_of"
  JeZ:=JK K (Jo K "Hall" "game_of")
  JkK:=⟨Jj (Jb (at_ hF 25)),(Jj (Jb (at_ hF 25))).binds (ps:=["self", "name"]) (fun | _,_,_,_,_,_,[_,_],_=>rfl),⟨JJ (Jb (at_ hB 41)),(Jb (at_ hB 42)),J1 (Jb (at_ hF 25))⟩⟩
  Jie:=Jo K "Hall" "drop"
  Jhb:=JK K (Jo K "Hall" "drop")
  Jnk:=⟨Jj (Jb (at_ hF 26)),(Jj (Jb (at_ hF 26))).binds (ps:=["self", "name"]) (fun | _,_,_,_,_,_,[_,_],_=>rfl),⟨JJ (Jb (at_ hB 43)),(Jb (at_ hB 44)),J1 (Jb (at_ hF 26))⟩⟩
  Jgl:=Jo K "Hall" "boards"
  JfI:=JK K (Jo K "Hall" "boards")
  Jlr:=⟨Jj (Jb (at_ hF 27)),(Jj (Jb (at_ hF 27))).binds (ps:=["self"]) (fun | _,_,_,_,_,_,[_],_=>rfl),⟨JJ (Jb (at_ hB 45)),(Jb (at_ hB 46)),J1 (Jb (at_ hF 27))⟩⟩
  Jhf:=Jo K "Hall" "games"
  Jgh:=JK K (Jo K "Hall" "games")
  Jm0:=⟨Jj (Jb (at_ hF 28)),(Jj (Jb (at_ hF 28))).binds (ps:=["self"]) (fun | _,_,_,_,_,_,[_],_=>rfl),⟨JJ (Jb (at_ hB 47)),(Jb (at_ hB 48)),J1 (Jb (at_ hF 28))⟩⟩
  Je1:=Jo K "Hall" "standing"
  Jez:=JK K (Jo K "Hall" "standing")
  JjN:=⟨Jj (Jb (at_ hF 29)),(Jj (Jb (at_ hF 29))).binds (ps:=["self", "name"]) (fun | _,_,_,_,_,_,[_,_],_=>rfl),⟨JJ (Jb (at_ hB 49)),(Jb (at_ hB 50)),J1 (Jb (at_ hF 29))⟩⟩
  Jjr:=Jo K "Hall" "due"
  Jh9:=JK K (Jo K "Hall" "due")
  JoI:=⟨Jj (Jb (at_ hF 30)),(Jj (Jb (at_ hF 30))).binds (ps:=["self", "name"]) (fun | _,_,_,_,_,_,[_,_],_=>rfl),⟨JJ (Jb (at_ hB 51)),(Jb (at_ hB 52)),J1 (Jb (at_ hF 30))⟩⟩
  Jhe:=Jo K "Hall" "named"
  Jgg:=JK K (Jo K "Hall" "named")
  JmZ:=⟨Jj (Jb (at_ hF 31)),(Jj (Jb (at_ hF 31))).binds (ps:=["self", "name"]) (fun | _,_,_,_,_,_,[_,_],_=>rfl),⟨JJ (Jb (at_ hB 53)),(Jb (at_ hB 54)),J1 (Jb (at_ hF 31))⟩⟩
  Jhg:=Jo K "Hall" "deeds"
  Jgi:=JK K (Jo K "Hall" "deeds")
  Jm1:=⟨Jj (Jb (at_ hF 32)),(Jj (Jb (at_ hF 32))).binds (ps:=["self", "name"]) (fun | _,_,_,_,_,_,[_,_],_=>rfl),⟨JJ (Jb (at_ hB 55)),(Jb (at_ hB 56)),J1 (Jb (at_ hF 32))⟩⟩
  Jid:=Jo K "Hall" "over"
  Jha:=JK K (Jo K "Hall" "over")
  Jnj:=⟨Jj (Jb (at_ hF 33)),(Jj (Jb (at_ hF 33))).binds (ps:=["self", "name"]) (fun | _,_,_,_,_,_,[_,_],_=>rfl),⟨JJ (Jb (at_ hB 57)),(Jb (at_ hB 58)),J1 (Jb (at_ hF 33))⟩⟩
  Jgk:=Jo K "Hall" "winner"
  JfH:=JK K (Jo K "Hall" "winner")
  Jlq:=⟨Jj (Jb (at_ hF 34)),(Jj (Jb (at_ hF 34))).binds (ps:=["self", "name"]) (fun | _,_,_,_,_,_,[_,_],_=>rfl),⟨JJ (Jb (at_ hB 59)),(Jb (at_ hB 60)),J1 (Jb (at_ hF 34))⟩⟩
  Jib:=Jo K "Hall" "told"
  Jg8:=JK K (Jo K "Hall" "told")
  Jnh:=⟨Jj (Jb (at_ hF 35)),(Jj (Jb (at_ hF 35))).binds (ps:=["self", "name"]) (fun | _,_,_,_,_,_,[_,_],_=>rfl),⟨JJ (Jb (at_ hB 61)),(Jb (at_ hB 62)),J1 (Jb (at_ hF 35))⟩⟩
  Jjs:=Jo K "Hall" "bid"
  Jia:=JK K (Jo K "Hall" "bid")
  JoJ:=⟨Jj (Jb (at_ hF 36)),(Jj (Jb (at_ hF 36))).binds (ps:=["self", "name", "hand", "coins"]) (fun | _,_,_,_,_,_,[_,_,_,_],_=>rfl),⟨JJ (Jb (at_ hB 63)),(Jb (at_ hB 64)),J1 (Jb (at_ hF 36))⟩⟩
  Jgm:=Jo K "Hall" "answer"
  JfJ:=JK K (Jo K "Hall" "answer")
  Jls:=⟨Jj (Jb (at_ hF 37)),(Jj (Jb (at_ hF 37))).binds (ps:=["self", "name", "hand", "coins"]) (fun | _,_,_,_,_,_,[_,_,_,_],_=>rfl),⟨JJ (Jb (at_ hB 65)),(Jb (at_ hB 66)),J1 (Jb (at_ hF 37))⟩⟩
  Jic:=Jo K "Hall" "step"
  Jg9:=JK K (Jo K "Hall" "step")
  Jni:=⟨Jj (Jb (at_ hF 38)),(Jj (Jb (at_ hF 38))).binds (ps:=["self", "name", "hand", "place"]) (fun | _,_,_,_,_,_,[_,_,_,_],_=>rfl),⟨JJ (Jb (at_ hB 67)),(Jb (at_ hB 68)),J1 (Jb (at_ hF 38))⟩⟩
  Jif:=Jo K "Hall" "back"
  Jhc:=JK K (Jo K "Hall" "back")
  Jnl:=⟨Jj (Jb (at_ hF 39)),(Jj (Jb (at_ hF 39))).binds (ps:=["self", "name"]) (fun | _,_,_,_,_,_,[_,_],_=>rfl),⟨JJ (Jb (at_ hB 69)),(Jb (at_ hB 70)),J1 (Jb (at_ hF 39))⟩⟩
  JeF:=Jo K "Hall" "judge"
  Jdo:=JK K (Jo K "Hall" "judge")
  Jcg:=⟨Jj (Jb (at_ hF 40)),(Jj (Jb (at_ hF 40))).binds (ps:=["self", "board_name", "place", "turns", "north", "south", "ribbon"]) (fun | _,_,_,_,_,_,[_,_,_,_,_,_,_],_=>rfl),⟨JJ (Jb (at_ hB 71)),(Jb (at_ hB 72)),J1 (Jb (at_ hF 40))⟩⟩
  JeE:=Jo K "Hall" "least"
  Jdn:=JK K (Jo K "Hall" "least")
  Jcf:=⟨Jj (Jb (at_ hF 41)),(Jj (Jb (at_ hF 41))).binds (ps:=["self", "board_name", "coins", "place", "turns", "ribbon"]) (fun | _,_,_,_,_,_,[_,_,_,_,_,_],_=>rfl),⟨JJ (Jb (at_ hB 73)),(Jb (at_ hB 74)),J1 (Jb (at_ hF 41))⟩⟩
  Jny:=⟨(Jb (at_ hB 144)),JJ (Jb (at_ hB 33)),(Jb (at_ hB 34)),(Jb (at_ hB 145))⟩
  Zl:=(Jb (at_ hN 20))
  JcX:=(Jb (at_ hN 21))
  JT:=Jg K "Board"
  JnN:=PySem.W.mg_of X G (Jt (Jb (at_ hB 135)))
  YV:=⟨(Jb (at_ hB 146)),(Jb (at_ hB 147)),(Jb (at_ hB 148)),(Jb (at_ hN 22))⟩
  Jcb:=Jo K "Board" "__init__"
  Jdr:=JK K (Jo K "Board" "__init__")
  JeQ:=⟨Jj (Jb (at_ hF 47)),(Jj (Jb (at_ hF 47))).binds (ps:=["self", "places", "lanes", "goals"]) (fun | _,_,_,_,_,_,[_,_,_,_],_=>rfl),⟨JJ (Jb (at_ hB 80)),(Jb (at_ hB 81)),J1 (Jb (at_ hF 47))⟩⟩
  Jax:=Jo K "Board" "check_place"
  Jak:=JK K (Jo K "Board" "check_place")
  Yb:=⟨Jj (Jb (at_ hF 48)),(Jj (Jb (at_ hF 48))).binds (ps:=["self", "place"]) (fun | _,_,_,_,_,_,[_,_],_=>rfl),⟨JJ (Jb (at_ hB 82)),(Jb (at_ hB 83)),J1 (Jb (at_ hF 48))⟩⟩
  JeI:=Jo K "Board" "ways"
  Jdq:=JK K (Jo K "Board" "ways")
  Zs:=⟨Jj (Jb (at_ hF 49)),(Jj (Jb (at_ hF 49))).binds (ps:=["self", "place"]) (fun | _,_,_,_,_,_,[_,_],_=>rfl),⟨JJ (Jb (at_ hB 84)),(Jb (at_ hB 85)),J1 (Jb (at_ hF 49))⟩⟩
  Jca:=Jo K "Board" "is_goal"
  Jbv:=JK K (Jo K "Board" "is_goal")
  JaE:=⟨Jj (Jb (at_ hF 50)),(Jj (Jb (at_ hF 50))).binds (ps:=["self", "place"]) (fun | _,_,_,_,_,_,[_,_],_=>rfl),⟨JJ (Jb (at_ hB 86)),(Jb (at_ hB 87)),J1 (Jb (at_ hF 50))⟩⟩
  Jmo:=⟨(Jb (at_ hB 149)),JJ (Jb (at_ hB 80)),(Jb (at_ hB 81)),(Jb (at_ hB 150))⟩
  JaB:=(Jb (at_ hN 23))
  Jct:=(Jb (at_ hN 24))
  Jcu:=(Jb (at_ hN 25))
  YG:=⟨(Jb (at_ hB 151)),(Jb (at_ hN 27)),(Jb (at_ hN 28)),(Jb (at_ hN 29)),(Jb (at_ hN 26)),(Jb (at_ hK 0)),(Jb (at_ hK 1)),(Jb (at_ hK 2)),(Jb (at_ hB 152))⟩
  Jju:=(Jb (at_ hK 3))
  Jjk:=(Jb (at_ hK 4))
  Jc5:=(Jb (at_ hK 5))
  Jc6:=(Jb (at_ hK 6))
  JbJ:=(Jb (at_ hK 7))
  Jen:=(Jb (at_ hK 8))
  Jc3:=(Jb (at_ hK 9))
  JdG:=(Jb (at_ hK 10))
  JdF:=(Jb (at_ hK 11))
  JdE:=(Jb (at_ hK 12))
  Jbi:=(Jb (at_ hK 13))
  Jeo:=(Jb (at_ hK 14))
  JeX:=(Jb (at_ hK 15))
  Jc4:=(Jb (at_ hK 16))
  Yh:=⟨(Jb (at_ hB 153)),(Jb (at_ hN 30)),(Jb (at_ hN 31)),(Jb (at_ hN 32)),(Jb (at_ hN 26)),(Jb (at_ hK 0)),(Jb (at_ hK 17)),(Jb (at_ hK 18)),(Jb (at_ hB 154))⟩
  Jgo:=(Jb (at_ hK 19))
  Jgf:=(Jb (at_ hK 20))
  JbG:=(Jb (at_ hK 21))
  JbH:=(Jb (at_ hK 22))
  JaR:=(Jb (at_ hK 23))
  Jck:=(Jb (at_ hK 24))
  JbE:=(Jb (at_ hK 25))
  Jb3:=(Jb (at_ hK 26))
  Jb2:=(Jb (at_ hK 27))
  Jb1:=(Jb (at_ hK 28))
  JaC:=(Jb (at_ hK 29))
  Jcl:=(Jb (at_ hK 30))
  JcY:=(Jb (at_ hK 31))
  JbF:=(Jb (at_ hK 32))
  JjG:=⟨(Jb (at_ hB 155)),(Jb (at_ hN 33)),(Jb (at_ hN 34)),(Jb (at_ hN 35)),(Jb (at_ hN 26)),(Jb (at_ hK 0)),(Jb (at_ hK 33)),(Jb (at_ hK 34)),(Jb (at_ hB 156))⟩
  JmT:=⟨(Jb (at_ hB 157)),(Jb (at_ hN 36)),(Jb (at_ hN 37)),(Jb (at_ hN 38)),(Jb (at_ hN 26)),(Jb (at_ hK 0)),(Jb (at_ hK 35)),(Jb (at_ hK 36)),(Jb (at_ hB 158))⟩
  JnP:=⟨(Jb (at_ hB 159)),(Jb (at_ hN 39)),(Jb (at_ hN 40)),(Jb (at_ hN 41)),(Jb (at_ hN 26)),(Jb (at_ hK 0)),(Jb (at_ hK 37)),(Jb (at_ hK 38)),(Jb (at_ hB 160))⟩
  JjF:=⟨(Jb (at_ hB 161)),(Jb (at_ hN 42)),(Jb (at_ hN 43)),(Jb (at_ hN 44)),(Jb (at_ hN 26)),(Jb (at_ hK 0)),(Jb (at_ hK 39)),(Jb (at_ hK 40)),(Jb (at_ hB 162))⟩
  Jrl:=⟨(Jb (at_ hB 163)),(Jb (at_ hN 45)),(Jb (at_ hN 46)),(Jb (at_ hN 47)),(Jb (at_ hN 26)),(Jb (at_ hK 0)),(Jb (at_ hK 41)),(Jb (at_ hK 42)),(Jb (at_ hB 164))⟩
  YF:=⟨(Jb (at_ hB 165)),(Jb (at_ hN 48)),(Jb (at_ hN 49)),(Jb (at_ hN 50)),(Jb (at_ hN 26)),(Jb (at_ hK 0)),(Jb (at_ hK 43)),(Jb (at_ hK 44)),(Jb (at_ hB 166))⟩
  Jjt:=(Jb (at_ hK 45))
  Jjj:=(Jb (at_ hK 46))
  Jc1:=(Jb (at_ hK 47))
  Jc2:=(Jb (at_ hK 48))
  JbI:=(Jb (at_ hK 49))
  Jel:=(Jb (at_ hK 50))
  JcZ:=(Jb (at_ hK 51))
  JdD:=(Jb (at_ hK 52))
  JdC:=(Jb (at_ hK 53))
  JdB:=(Jb (at_ hK 54))
  Jbh:=(Jb (at_ hK 55))
  Jem:=(Jb (at_ hK 56))
  JeW:=(Jb (at_ hK 57))
  Jc0:=(Jb (at_ hK 58)) }
 obtain ⟨oc,od,kV,doc,pm,an,cdv,ct,osl,z1,z2,z3,z4⟩:=Jpl (Option.some.inj (at_ hF 81));exact ⟨_,fun s v=>by show BindsTo s (JK K (Jg K "law")) _ _; rw [z1]; exact .of_eq rfl,fun base _ _=>Jti T⟩
def Jtz:DefRec:=⟨"law",Jd0 JfW,Ja2 JfW,Jm JfW,Jty JfW⟩
theorem Juq:PySem.W.WalkO qv lo0 (PySem.W.XL qv []) (fun _ h=>∃ K:PySem.W.Frag,K.In h∧JoG K) PySem.Challenge.rw_bidmover_k32_hall_judges.row.toRowW Jtz [] (fun f vs=>PySem.call f vs) :=
 L2.Jp9 (l:=PySem.Challenge.rw_bidmover_k32_hall_judges) (n:=63) (k:=13) (x := "_law_script") (CX:=YK) (sp:=Jn2) (C:=JoG) rfl (by decide) rfl ⟨rfl,by decide,by decide⟩ (fun _ _ y=>y) (fun w K mg fa h hS X G hfa=>JtB hS X G hfa) (fun _ _ a ns hl _ hS=>⟨a,ns,rfl,hS,hl,fun _=>rfl⟩) fun _ _ _ _ z=>z
end Pf
open PySem PySem.W PyProof.Rows
set_option maxRecDepth 100000 in
set_option maxHeartbeats 0 in
theorem PySem.Challenge.cw_bidmover_k32_hall_judges_holds : PySem.Challenge.rw_bidmover_k32_hall_judges.Holds := by
 refine holds_law Pf.JqG fun JqG=>?_
 refine holds_open (q:=Pf.qv) (loose:=Pf.lo0) (Xt:=Pf.xt) (XP:=XL Pf.qv []) (Yf:=Pf.see) (Ya:=fun _=>Pf.Jlx) (YP:=fun _ h=>∃ K:Frag,K.In h∧Pf.JoG K) (d:=Pf.Jtz) (kwd:=[]) Pf.left (fun w s e=>⟨_,L2.JpE _,e⟩) (fun w h h' y hk=>y.elim fun K z=>⟨K,z.1.keeps hk,z.2⟩) (fun s e=>xl_of s (Bool.and_eq_true_iff.mp e).1) XL.keeps ?h1 ?h2 ?h3 (fun s e=>recFacts_of (Bool.and_eq_true_iff.mp e).2) ?h4 JqG ?h5 ⟨rfl,rfl,rfl,rfl,rfl,by decide +kernel⟩ ?hw Pf.Juq
 case h1=>kernel_rfl
 case h2=>kernel_rfl
 case h3=>kernel_rfl
 case h4=>kernel_rfl
 case h5=>kernel_rfl
 case hw=>w_witness2
