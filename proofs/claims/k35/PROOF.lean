import PyProof.Rows.All
import Wide.All
import OpenK.AllK
import Wide.FinOn
import Lean
import PyProof.EqAt
import PyProof.EqKinds
import PyProof.TupleCall
import PyProof.ExcAttrAll.ValueError
import PyProof.FString4
import PyProof.FString5
import PyProof.StrLawsRepr
import PyProof.Rows.SetFrom
import KE.KSortTup
import PyProof.NeKinds
import PyProof.Rows.MinMaxN
import KE.KDictSum
import PySem.Challenge.RW_bidmover_k35_whole_all_plays
set_option Elab.async false
set_option linter.all false
set_option maxRecDepth 100000
namespace L2
open PySem PySem.W
def YN (s:Stmt) (j:Nat):Stmt:=match s with
 | .ClassDef _ _ _ body _ _ _ _ _ _ _=>body.getD j (.Pass ⟨0,0,0,0⟩)
 | _=>.Pass ⟨0,0,0,0⟩
def JcD (s:Stmt):Arguments:=match s with
 | .FunctionDef _ a _ _ _ _ _ _ _ _=>a
 | _=>{ posonlyargs:=[],args:=[],vararg:=none,kwonlyargs:=[],kw_defaults:=[],kwarg:=none,defaults:=[] }
def Ja8 (s:Stmt):List Stmt:=match s with
 | .FunctionDef _ _ b _ _ _ _ _ _ _=>b
 | _=>[]
def Jo (s:Stmt):Scope:=match s with
 | .FunctionDef _ _ _ _ _ _ sc _ _ _=>sc
 | _=>{ kind:=.function,names:=[],isGenerator:=false,isCoroutine:=false }
def Jpw (s:Stmt):Pos:=match s with
 | .FunctionDef _ _ _ _ _ _ _ _ _ p=>p
 | _=>⟨0,0,0,0⟩
def Jl2 (h:Heap):Frag:=h.objs.toList.zipIdx.filterMap fun x=>(alive x.1).map fun o=>(x.2,o)
theorem Jl1 (h:Heap):(Jl2 h).In h:=by
 intro a o e;have key:∀ (l:List Obj) (k:Nat),((l.zipIdx k).filterMap fun x=>(alive x.1).map fun o=>(x.2,o)).lookup a=some o→k≤a∧∃ u,l[a - k]?=some u∧alive u=some o:=by
  intro l
  induction l with
  | nil=>intro k e; cases e
  | cons b l ih =>
   intro k e;rw [List.zipIdx_cons,List.filterMap_cons] at e;have next:((l.zipIdx (k + 1)).filterMap fun x=>(alive x.1).map fun o=>(x.2,o)).lookup a=some o→k≤a∧∃ u,(b :: l)[a - k]?=some u∧alive u=some o:=fun e=>by
    obtain ⟨h1,u,h2,h3⟩:=ih (k + 1) e;refine ⟨by omega,u,?_,h3⟩;have e:a - k=(a - (k + 1)) + 1:=(Nat.succ_pred_eq_of_pos (Nat.sub_pos_of_lt h1)).symm;rw [e,List.getElem?_cons_succ];exact h2
   cases hb:alive b with
   | none =>
    have e:((l.zipIdx (k + 1)).filterMap fun x=>(alive x.1).map fun o=>(x.2,o)).lookup a=some o:=by
     simp only [hb,Option.map_none] at e;exact e
    exact next e
   | some u =>
    have e:List.lookup a ((k,u) :: ((l.zipIdx (k + 1)).filterMap fun x=>(alive x.1).map fun o=>(x.2,o)))=some o:=by
     simp only [hb,Option.map_some] at e;exact e
    rw [List.lookup_cons] at e;cases hab:a == k with
    | true =>
     rw [hab] at e;have ak:=beq_iff_eq.mp hab;subst ak;refine ⟨Nat.le_refl _,b,by rw [Nat.sub_self]; rfl,?_⟩;rw [hb]; exact e
    | false=>rw [hab] at e; exact next e
 obtain ⟨_,u,h2,h3⟩:=key _ 0 e;rw [Nat.sub_zero,Array.getElem?_toList] at h2;unfold Heap.get?;rw [h2];obtain ⟨c,d,dt,sl⟩:=u;cases dt <;> exact h3
def Ji (K:Frag) (n:Str):Addr:=match nsIn K mainGlobals n with
 | some (some (.ref k))=>k
 | _=>0
def JQ (K:Frag) (n:Str):Bool:=match nsIn K mainGlobals n with
 | some (some (.ref _))=>true
 | _=>false
theorem Jy {K:Frag} {n:Str} (h:JQ K n=true):nsIn K mainGlobals n=some (some (.ref (Ji K n))):=by
 unfold JQ at h;unfold Ji;split at h
 ·rename_i k e; rw [e]
 ·cases h
def JO (K:Frag) (n m:Str):Addr:=match findIn K (.ref (Ji K n)) m with
 | some (some (.ref k))=>k
 | _=>0
def YS (K:Frag) (n m:Str):Bool:=match findIn K (.ref (Ji K n)) m with
 | some (some (.ref _))=>true
 | _=>false
theorem Yc {K:Frag} {n m:Str} (h:YS K n m=true):findIn K (.ref (Ji K n)) m=some (some (.ref (JO K n m))):=by
 unfold YS at h;unfold JO;split at h
 ·rename_i k e; rw [e]
 ·cases h
def JT (K:Frag) (f:Addr):FuncData:=match K.lookup f with
 | some ⟨_,_,.func fd,_⟩=>fd
 | _=>default
def JkV (fd:FuncData):FuncData:={ fd with kwdefaults:=.none,doc:=.none,pyModule:=.none,annotations:=none,code:=.none,closureTuple:=.none }
def Yb (K:Frag) (f:Addr) (q:Str):Option (FuncData×Bool):=match K.lookup f with
 | some ⟨_,_,.func fd,_⟩=>some (JkV fd,codeIn K fd.code q && keepIn K (.ref f))
 | _=>none
abbrev Ye (x q:Str) (st:Stmt):Option (FuncData×Bool):=some (fnOf x q (JcD st) (Ja8 st) (Jo st) .none .none .none .none none .none .none,true)
theorem JlF {K:Frag} {f:Addr} {x q:Str} {st:Stmt} (h:Yb K f q=Ye x q st):∃ (oc:Value) (od:Option Addr) (kV doc pm:Value) (an:Option Addr) (cdv ct:Value) (osl:Array (Option Value)),
  JT K f=fnOf x q (JcD st) (Ja8 st) (Jo st) .none kV doc pm an cdv ct∧K.lookup f=some ⟨oc,od,.func (JT K f),osl⟩∧codeIn K cdv q=true∧keepIn K (.ref f)=true:=by
 unfold Yb at h;unfold JT;split at h
 ·rename_i oc od fd sl e;rw [e];have h:=Option.some.inj h;have h1:=congrArg Prod.fst h;have h2:(codeIn K fd.code q && keepIn K (.ref f))=true:=congrArg Prod.snd h;rw [Bool.and_eq_true] at h2;obtain ⟨n,qn,ps,b,sc,gl,cl,df,kd,dc,pm,an,cd,ct,bu⟩:=fd;have h1:JkV ⟨n,qn,ps,b,sc,gl,cl,df,kd,dc,pm,an,cd,ct,bu⟩=fnOf x q (JcD st) (Ja8 st) (Jo st) .none .none .none .none none .none .none:=h1;unfold JkV fnOf at h1;simp only [FuncData.mk.injEq] at h1;obtain ⟨rfl,rfl,rfl,rfl,rfl,rfl,rfl,rfl,_,_,_,_,_,_,rfl⟩:=h1;exact ⟨oc,od,kd,dc,pm,an,cd,ct,sl,rfl,rfl,h2.1,h2.2⟩
 ·cases h
def JdZ:Value→Option (Sum Int Str)
 | .int i _=>some (.inl i)
 | .str x _=>some (.inr x)
 | _=>none
def obV (K:Frag) (n:Str):Option (Sum Int Str):=match nsIn K mainGlobals n with
 | some (some v)=>JdZ v
 | _=>none
theorem Jov {K:Frag} {n:Str} {i:Int} (h:obV K n=some (.inl i)):∃ t,nsIn K mainGlobals n=some (some (.int i t)):=by
 unfold obV at h;split at h
 ·rename_i v e;unfold JdZ at h;split at h
  ·cases h; exact ⟨_,e⟩
  ·cases h
  ·cases h
 ·cases h
def obT (K:Frag) (n:Str):Option (Bool×List (Option (Sum Int Str))):=match K.lookup (Ji K n) with
 | some ⟨.type "tuple",_,.seq its _,_⟩=>some (decide (its.size≤1000),its.toList.map JdZ)
 | _=>none
theorem at_ {α:Type} {l l':List α} (h:l=l') (i:Nat):l[i]?=l'[i]?:=by rw [h]
def Jdt (okf:Thread→Bool) (stf:SharedT→Thread→Option (SharedT×Thread)):Nat→SharedT→Thread→Option SharedT
 | 0,_,_=>none
 | n + 1,s,t=>match through t with
  | true=>some s
  | false=>match okf t with
   | false=>none
   | true=>match stf s t with
    | some (s',t')=>Jdt okf stf n s' t'
    | none=>none
theorem Jf3 {tb:String→Option Builtin} {p:Program} {w:World} {n₀:Nat} {ann:Option Value}:∀ {n:Nat} {s s':SharedT} {t:Thread},Jdt (stepOk n₀ ann) (stepT (denote tb) p w) n s t=some s'→topRun tb p w n₀ ann n s.abs t=some s'.abs
 | 0,_,_,_,h=>nomatch h
 | n + 1,s,s',t,h=>by
  unfold Jdt at h;unfold topRun;split at h
  ·rename_i e; rw [e]; cases h; rfl
  ·rename_i e; rw [e];split at h
   ·cases h
   ·rename_i e2; rw [e2];split at h
    ·rename_i s2 t2 e3;rw [stepT_spec e3];exact Jf3 h
    ·cases h
noncomputable def JgG (p:Program) (w:World) (N:Nat) (s:SharedT):Option SharedT :=
 Jdt (Fast.tw6613529449190102663 ((boot_heap w.params).objs.size) ((boot_heap w.params).nsMap mainGlobals "__annotations__")) (Fast.tw10156331382660048174 (Fast.tw11892475500146522536 Fast.tw14364793385576792824) p w) N s (topStub p)
theorem Jkd {p:Program} {w:World} {N:Nat} {s:SharedT}:JgG p w N s=Jdt (stepOk ((boot_heap w.params).objs.size) ((boot_heap w.params).nsMap mainGlobals "__annotations__")) (stepT (denote treeTable) p w) N s (topStub p):=by
 rw [Fast.te6613529449190102663,Fast.te10156331382660048174,Fast.te11892475500146522536,Fast.te14364793385576792824];rfl
noncomputable def JfR (P:Params):BT:=(boot_heap P).objs.toList.zipIdx.foldl (fun t x=>t.ins x.2 x.1) .nil
noncomputable def JkU (P:Params) (os:OsState):SharedT:=⟨JfR P,(boot_heap P).objs.size,(boot_heap P).life,Array.mk [],boot_drawn,boot_toks,os⟩
theorem Jmk (P:Params) (os:OsState):(JkU P os).abs=⟨boot_heap P,Array.mk [],boot_drawn,boot_toks,os⟩:=by
 show (⟨absHeap (JfR P) (boot_heap P).objs.size (boot_heap P).life,_,_,_,_⟩:Shared)=_;have e:absHeap (JfR P) (boot_heap P).objs.size (boot_heap P).life=boot_heap P:=by kernel_rfl
 rw [e]; rfl
noncomputable def Jkn {α:Type} (p q:Program) (loose:List Str) (Xt:Shared→Bool) (Yf:Shared→α) (P:Params) (s:Shared) :=
 (staticsOk (importedModules p.main.body) (boot_heap P) s.heap && namesBound p s.heap && gensDone s && laidKept (boot_heap P) s.heap,Fast.tw4187177175401517315 q loose (importedModules p.main.body) Xt true s,Yf s)
theorem JoD {p q:Program} {loose:List Str} {Xt:Shared→Bool} {α:Type} {Yf:Shared→α} {Ya:World→α} {N:Nat} (e:opening p=plainProg p.main.scope.names) (hN:Nat.ble 600 N=true) (f:∀ s,fenceModules? p s=some s)
  (h:∀ (w:World) (os:OsState),(JgG p w N (JkU w.params os)).map (fun s=>Jkn p q loose Xt Yf w.params s.abs)=some (true,openGood q loose,Ya w))
  (hb:∀ P:Params,((boot_heap P).isNs mainGlobals && (Array.mk ([]:List GenState)).size == 0)=true):LeftO p q loose Xt Yf Ya N:=by
 intro w;have o:=boot_open e hN f w;obtain ⟨s0,e0,e1⟩:=Option.map_eq_some_iff.mp o;obtain ⟨h0,g0,d0,k0,os⟩:=s0;obtain ⟨rfl,rfl,rfl,rfl⟩:h0=boot_heap w.params∧g0=Array.mk []∧d0=boot_drawn∧k0=boot_toks:=by simpa using e1
 obtain ⟨s1,r1,l1⟩:=Option.map_eq_some_iff.mp (h w os);rw [Jkd] at r1;have r:=Jf3 r1;rw [Jmk] at r;have l:(staticsOk (importedModules p.main.body) (boot_heap w.params) s1.abs.heap && namesBound p s1.abs.heap && gensDone s1.abs && laidKept (boot_heap w.params) s1.abs.heap)=true∧openSeen q loose (importedModules p.main.body) Xt true s1.abs=openGood q loose∧Yf s1.abs=Ya w:=by
  have z:=l1;unfold Jkn at z;rw [← Fast.te4187177175401517315] at z;exact ⟨congrArg Prod.fst z,congrArg (fun x=>x.2.1) z,congrArg (fun x=>x.2.2) z⟩
 have t:topFrom treeTable p w N ⟨boot_heap w.params,Array.mk [],boot_drawn,boot_toks,os⟩=some s1.abs:=by
  unfold topFrom;dsimp only;rw [hb w.params,r];show (match staticsOk (importedModules p.main.body) (boot_heap w.params) s1.abs.heap && namesBound p s1.abs.heap && gensDone s1.abs && laidKept (boot_heap w.params) s1.abs.heap with | true=>_ | false=>_)=_;rw [l.1]
 unfold openEnds;rw [e0];show (topFrom treeTable p w N _).map _=_;rw [t];exact congrArg some (Prod.ext l.2.1 l.2.2)
end L2
namespace Pf
open PySem PySem.W L2
abbrev pg:Program:=PySem.Challenge.pw_bidmover_k35_whole_all_plays
def Yg (i:Nat):Stmt:=pg.main.body.getD i (.Pass ⟨0,0,0,0⟩)
def qv:Program:={ pg with main:={ pg.main with body:=[Yg 56] } }
def lo0:List Str:=(["_wall", "good_name", "check_hand", "other", "check_up_to", "check_coins", "check_bid", "ended", "coins_of", "pay", "settle", "check_each_once", "check_among", "check_places", "check_lanes", "check_goals", "_law_at", "_law_row", "_law_whole", "_law_names", "_law_pairs", "_law_goals", "_law_small", "_law_ways", "_law_foe", "_law_hand", "_law_won", "_law_turned", "_law_open", "_law_bids", "_law_answers", "_law_comes", "_law_behind", "_law_stands", "_law_won_by", "BidmoverError", "BadName", "BadHand", "OutOfRange", "Twice", "NoPlace", "BadBid", "Book", "Board", "HANDS", "MOST_SIGNS", "MOST_TURNS", "MOST_COINS", "MOST_PLACES", "MOST_LANES"]:List String).map Str.ofString
abbrev JjH:Stmt:=Yg 0
abbrev JbQ:Stmt:=Yg 12
abbrev JcI:Stmt:=Yg 13
abbrev JgS:Stmt:=Yg 14
abbrev Jb5:Stmt:=Yg 18
abbrev Jb8:Stmt:=Yg 19
abbrev Jdj:Stmt:=Yg 20
abbrev JgT:Stmt:=Yg 21
abbrev JdS:Stmt:=Yg 22
abbrev Jks:Stmt:=Yg 23
abbrev Jfv:Stmt:=Yg 24
abbrev Jdk:Stmt:=YN (Yg 26) 0
abbrev JaP:Stmt:=YN (Yg 26) 1
abbrev Jbu:Stmt:=YN (Yg 26) 2
abbrev Yp:Stmt:=YN (Yg 26) 3
abbrev Yo:Stmt:=YN (Yg 26) 4
abbrev Jao:Stmt:=YN (Yg 26) 5
abbrev Jca:Stmt:=YN (Yg 26) 6
abbrev Jee:Stmt:=YN (Yg 26) 7
abbrev Jcb:Stmt:=YN (Yg 26) 8
abbrev Ja3:Stmt:=YN (Yg 26) 9
abbrev Jap:Stmt:=YN (Yg 26) 10
abbrev Jbt:Stmt:=YN (Yg 26) 11
abbrev JaO:Stmt:=Yg 30
abbrev Jb9:Stmt:=Yg 31
abbrev Jbs:Stmt:=Yg 32
abbrev Jb6:Stmt:=Yg 33
abbrev Jb7:Stmt:=Yg 34
abbrev JcJ:Stmt:=YN (Yg 35) 0
abbrev Z2:Stmt:=YN (Yg 35) 1
abbrev Ja9:Stmt:=YN (Yg 35) 2
abbrev Jba:Stmt:=YN (Yg 35) 3
abbrev JmZ:Stmt:=Yg 37
abbrev Jkr:Stmt:=Yg 38
abbrev JgQ:Stmt:=Yg 39
abbrev JeV:Stmt:=Yg 40
abbrev JgR:Stmt:=Yg 41
abbrev JeW:Stmt:=Yg 42
abbrev Jdy:Stmt:=Yg 43
abbrev Jf8:Stmt:=Yg 44
abbrev Jkt:Stmt:=Yg 45
abbrev Jiz:Stmt:=Yg 46
abbrev Jkq:Stmt:=Yg 47
abbrev Jft:Stmt:=Yg 48
abbrev Jiy:Stmt:=Yg 49
abbrev JiA:Stmt:=Yg 50
abbrev Jed:Stmt:=Yg 51
abbrev JeX:Stmt:=Yg 52
abbrev Jfw:Stmt:=Yg 53
abbrev Jfu:Stmt:=Yg 54
abbrev Jfs:Stmt:=Yg 55
abbrev JdR:Stmt:=Yg 56
def JmU (K:Frag):List (Bool):=[JQ K "_wall",
 JQ K "good_name",
 JQ K "check_hand",
 JQ K "other",
 JQ K "check_up_to",
 JQ K "check_coins",
 JQ K "check_bid",
 JQ K "ended",
 JQ K "coins_of",
 JQ K "pay",
 JQ K "settle",
 YS K "Book" "__init__",
 PySem.W.isFn K (.ref (JO K "Book" "__init__")),
 YS K "Book" "needs_with",
 PySem.W.isFn K (.ref (JO K "Book" "needs_with")),
 YS K "Book" "need_at",
 PySem.W.isFn K (.ref (JO K "Book" "need_at")),
 YS K "Book" "need_where_north_leads",
 PySem.W.isFn K (.ref (JO K "Book" "need_where_north_leads")),
 YS K "Book" "need_where_south_leads",
 PySem.W.isFn K (.ref (JO K "Book" "need_where_south_leads")),
 YS K "Book" "check_share",
 PySem.W.isFn K (.ref (JO K "Book" "check_share")),
 YS K "Book" "winner",
 PySem.W.isFn K (.ref (JO K "Book" "winner")),
 YS K "Book" "least",
 PySem.W.isFn K (.ref (JO K "Book" "least")),
 YS K "Book" "bid_of",
 PySem.W.isFn K (.ref (JO K "Book" "bid_of")),
 YS K "Book" "answer_of",
 PySem.W.isFn K (.ref (JO K "Book" "answer_of")),
 YS K "Book" "answer_wins",
 PySem.W.isFn K (.ref (JO K "Book" "answer_wins")),
 YS K "Book" "step_of",
 PySem.W.isFn K (.ref (JO K "Book" "step_of")),
 JQ K "check_each_once",
 JQ K "check_among",
 JQ K "check_places",
 JQ K "check_lanes",
 JQ K "check_goals",
 YS K "Board" "__init__",
 PySem.W.isFn K (.ref (JO K "Board" "__init__")),
 YS K "Board" "check_place",
 PySem.W.isFn K (.ref (JO K "Board" "check_place")),
 YS K "Board" "ways",
 PySem.W.isFn K (.ref (JO K "Board" "ways")),
 YS K "Board" "is_goal",
 PySem.W.isFn K (.ref (JO K "Board" "is_goal")),
 JQ K "_law_at",
 JQ K "_law_row",
 JQ K "_law_whole",
 JQ K "_law_names",
 JQ K "_law_pairs",
 JQ K "_law_goals",
 JQ K "_law_small",
 JQ K "_law_ways",
 JQ K "_law_foe",
 JQ K "_law_hand",
 JQ K "_law_won",
 JQ K "_law_turned",
 JQ K "_law_open",
 JQ K "_law_bids",
 JQ K "_law_answers",
 JQ K "_law_comes",
 JQ K "_law_behind",
 JQ K "_law_stands",
 JQ K "_law_won_by",
 JQ K "law",
 JQ K "HANDS",
 JQ K "BidmoverError",
 JQ K "BadName",
 JQ K "BadHand",
 JQ K "OutOfRange",
 JQ K "Twice",
 JQ K "NoPlace",
 JQ K "BadBid",
 JQ K "Book",
 JQ K "Board",
 PySem.W.plainGet K (Ji K "Book") Str.empty,
 PySem.W.hasDictIn K (Ji K "Book"),
 PySem.W.plainOver K (Ji K "Book"),
 PySem.W.makesIn K (Ji K "Book"),
 PySem.W.keepIn K (.ref (Ji K "Book")),
 PySem.W.plainGet K (Ji K "Board") Str.empty,
 PySem.W.hasDictIn K (Ji K "Board"),
 PySem.W.plainOver K (Ji K "Board"),
 PySem.W.makesIn K (Ji K "Board"),
 PySem.W.keepIn K (.ref (Ji K "Board")),
 PySem.W.excIn K (Ji K "BadHand") [.type "ValueError",.type "Exception",.type "BaseException",.type "object"] "ValueError.__new__",
 (PySem.W.clsIn K (Ji K "BadHand")).isSome,
 PySem.W.excIn K (Ji K "OutOfRange") [.type "ValueError",.type "Exception",.type "BaseException",.type "object"] "ValueError.__new__",
 (PySem.W.clsIn K (Ji K "OutOfRange")).isSome,
 PySem.W.excIn K (Ji K "BadBid") [.type "ValueError",.type "Exception",.type "BaseException",.type "object"] "ValueError.__new__",
 (PySem.W.clsIn K (Ji K "BadBid")).isSome,
 PySem.W.excIn K (Ji K "Twice") [.type "ValueError",.type "Exception",.type "BaseException",.type "object"] "ValueError.__new__",
 (PySem.W.clsIn K (Ji K "Twice")).isSome,
 PySem.W.excIn K (Ji K "NoPlace") [.type "ValueError",.type "Exception",.type "BaseException",.type "object"] "ValueError.__new__",
 (PySem.W.clsIn K (Ji K "NoPlace")).isSome,
 PySem.W.excIn K (Ji K "BadName") [.type "ValueError",.type "Exception",.type "BaseException",.type "object"] "ValueError.__new__",
 (PySem.W.clsIn K (Ji K "BadName")).isSome]
def isB:List (Bool):=List.replicate 100 true
def JmT (K:Frag):List (Option (FuncData×Bool)):=[Yb K (Ji K "_wall") "_wall",
 Yb K (Ji K "good_name") "good_name",
 Yb K (Ji K "check_hand") "check_hand",
 Yb K (Ji K "other") "other",
 Yb K (Ji K "check_up_to") "check_up_to",
 Yb K (Ji K "check_coins") "check_coins",
 Yb K (Ji K "check_bid") "check_bid",
 Yb K (Ji K "ended") "ended",
 Yb K (Ji K "coins_of") "coins_of",
 Yb K (Ji K "pay") "pay",
 Yb K (Ji K "settle") "settle",
 Yb K (JO K "Book" "__init__") "Book.__init__",
 Yb K (JO K "Book" "needs_with") "Book.needs_with",
 Yb K (JO K "Book" "need_at") "Book.need_at",
 Yb K (JO K "Book" "need_where_north_leads") "Book.need_where_north_leads",
 Yb K (JO K "Book" "need_where_south_leads") "Book.need_where_south_leads",
 Yb K (JO K "Book" "check_share") "Book.check_share",
 Yb K (JO K "Book" "winner") "Book.winner",
 Yb K (JO K "Book" "least") "Book.least",
 Yb K (JO K "Book" "bid_of") "Book.bid_of",
 Yb K (JO K "Book" "answer_of") "Book.answer_of",
 Yb K (JO K "Book" "answer_wins") "Book.answer_wins",
 Yb K (JO K "Book" "step_of") "Book.step_of",
 Yb K (Ji K "check_each_once") "check_each_once",
 Yb K (Ji K "check_among") "check_among",
 Yb K (Ji K "check_places") "check_places",
 Yb K (Ji K "check_lanes") "check_lanes",
 Yb K (Ji K "check_goals") "check_goals",
 Yb K (JO K "Board" "__init__") "Board.__init__",
 Yb K (JO K "Board" "check_place") "Board.check_place",
 Yb K (JO K "Board" "ways") "Board.ways",
 Yb K (JO K "Board" "is_goal") "Board.is_goal",
 Yb K (Ji K "_law_at") "_law_at",
 Yb K (Ji K "_law_row") "_law_row",
 Yb K (Ji K "_law_whole") "_law_whole",
 Yb K (Ji K "_law_names") "_law_names",
 Yb K (Ji K "_law_pairs") "_law_pairs",
 Yb K (Ji K "_law_goals") "_law_goals",
 Yb K (Ji K "_law_small") "_law_small",
 Yb K (Ji K "_law_ways") "_law_ways",
 Yb K (Ji K "_law_foe") "_law_foe",
 Yb K (Ji K "_law_hand") "_law_hand",
 Yb K (Ji K "_law_won") "_law_won",
 Yb K (Ji K "_law_turned") "_law_turned",
 Yb K (Ji K "_law_open") "_law_open",
 Yb K (Ji K "_law_bids") "_law_bids",
 Yb K (Ji K "_law_answers") "_law_answers",
 Yb K (Ji K "_law_comes") "_law_comes",
 Yb K (Ji K "_law_behind") "_law_behind",
 Yb K (Ji K "_law_stands") "_law_stands",
 Yb K (Ji K "_law_won_by") "_law_won_by",
 Yb K (Ji K "law") "law"]
def isF:List (Option (FuncData×Bool)):=[Ye "_wall" "_wall" JjH,
 Ye "good_name" "good_name" JbQ,
 Ye "check_hand" "check_hand" JcI,
 Ye "other" "other" JgS,
 Ye "check_up_to" "check_up_to" Jb5,
 Ye "check_coins" "check_coins" Jb8,
 Ye "check_bid" "check_bid" Jdj,
 Ye "ended" "ended" JgT,
 Ye "coins_of" "coins_of" JdS,
 Ye "pay" "pay" Jks,
 Ye "settle" "settle" Jfv,
 Ye "__init__" "Book.__init__" Jdk,
 Ye "needs_with" "Book.needs_with" JaP,
 Ye "need_at" "Book.need_at" Jbu,
 Ye "need_where_north_leads" "Book.need_where_north_leads" Yp,
 Ye "need_where_south_leads" "Book.need_where_south_leads" Yo,
 Ye "check_share" "Book.check_share" Jao,
 Ye "winner" "Book.winner" Jca,
 Ye "least" "Book.least" Jee,
 Ye "bid_of" "Book.bid_of" Jcb,
 Ye "answer_of" "Book.answer_of" Ja3,
 Ye "answer_wins" "Book.answer_wins" Jap,
 Ye "step_of" "Book.step_of" Jbt,
 Ye "check_each_once" "check_each_once" JaO,
 Ye "check_among" "check_among" Jb9,
 Ye "check_places" "check_places" Jbs,
 Ye "check_lanes" "check_lanes" Jb6,
 Ye "check_goals" "check_goals" Jb7,
 Ye "__init__" "Board.__init__" JcJ,
 Ye "check_place" "Board.check_place" Z2,
 Ye "ways" "Board.ways" Ja9,
 Ye "is_goal" "Board.is_goal" Jba,
 Ye "_law_at" "_law_at" JmZ,
 Ye "_law_row" "_law_row" Jkr,
 Ye "_law_whole" "_law_whole" JgQ,
 Ye "_law_names" "_law_names" JeV,
 Ye "_law_pairs" "_law_pairs" JgR,
 Ye "_law_goals" "_law_goals" JeW,
 Ye "_law_small" "_law_small" Jdy,
 Ye "_law_ways" "_law_ways" Jf8,
 Ye "_law_foe" "_law_foe" Jkt,
 Ye "_law_hand" "_law_hand" Jiz,
 Ye "_law_won" "_law_won" Jkq,
 Ye "_law_turned" "_law_turned" Jft,
 Ye "_law_open" "_law_open" Jiy,
 Ye "_law_bids" "_law_bids" JiA,
 Ye "_law_answers" "_law_answers" Jed,
 Ye "_law_comes" "_law_comes" JeX,
 Ye "_law_behind" "_law_behind" Jfw,
 Ye "_law_stands" "_law_stands" Jfu,
 Ye "_law_won_by" "_law_won_by" Jfs,
 Ye "law" "law" JdR]
def JmR (K:Frag):List (Option (Option Value)):=[PySem.W.nsIn K mainGlobals "all",
 PySem.W.nsIn K mainGlobals "len",
 PySem.W.nsIn K mainGlobals "range",
 PySem.W.nsIn K mainGlobals "min",
 PySem.W.nsIn K mainGlobals "max",
 PySem.W.nsIn K mainGlobals "set",
 PySem.W.nsIn K mainGlobals "tuple",
 PySem.W.nsIn K mainGlobals "sorted",
 PySem.W.nsIn K mainGlobals "isinstance",
 PySem.W.nsIn K mainGlobals "int",
 PySem.W.nsIn K mainGlobals "bool",
 PySem.W.nsIn K mainGlobals "list",
 PySem.W.nsIn K mainGlobals "str",
 PySem.W.findIn K (.ref (Ji K "Book")) "__setattr__",
 PySem.W.findIn K (.ref (Ji K "Book")) "board",
 PySem.W.findIn K (.ref (Ji K "Book")) "coins",
 PySem.W.findIn K (.ref (Ji K "Book")) "turns",
 PySem.W.findIn K (.ref (Ji K "Book")) "needs",
 PySem.W.findIn K (.ref (Ji K "Board")) "__setattr__",
 PySem.W.findIn K (.ref (Ji K "Board")) "places",
 PySem.W.findIn K (.ref (Ji K "Board")) "lanes",
 PySem.W.findIn K (.ref (Ji K "Board")) "goals",
 PySem.W.specialIn K (.builtin "object.__class__") "__get__",
 PySem.W.findIn K (.ref (Ji K "BadHand")) "__getattribute__",
 PySem.W.findIn K (.ref (Ji K "BadHand")) "__getattr__",
 PySem.W.findIn K (.ref (Ji K "BadHand")) "__class__",
 PySem.W.findIn K (.ref (Ji K "OutOfRange")) "__getattribute__",
 PySem.W.findIn K (.ref (Ji K "OutOfRange")) "__getattr__",
 PySem.W.findIn K (.ref (Ji K "OutOfRange")) "__class__",
 PySem.W.findIn K (.ref (Ji K "BadBid")) "__getattribute__",
 PySem.W.findIn K (.ref (Ji K "BadBid")) "__getattr__",
 PySem.W.findIn K (.ref (Ji K "BadBid")) "__class__",
 PySem.W.findIn K (.ref (Ji K "Twice")) "__getattribute__",
 PySem.W.findIn K (.ref (Ji K "Twice")) "__getattr__",
 PySem.W.findIn K (.ref (Ji K "Twice")) "__class__",
 PySem.W.findIn K (.ref (Ji K "NoPlace")) "__getattribute__",
 PySem.W.findIn K (.ref (Ji K "NoPlace")) "__getattr__",
 PySem.W.findIn K (.ref (Ji K "NoPlace")) "__class__",
 PySem.W.findIn K (.ref (Ji K "BadName")) "__getattribute__",
 PySem.W.findIn K (.ref (Ji K "BadName")) "__getattr__",
 PySem.W.findIn K (.ref (Ji K "BadName")) "__class__"]
def isN:List (Option (Option Value)):=[some none,
 some none,
 some none,
 some none,
 some none,
 some none,
 some none,
 some none,
 some none,
 some none,
 some none,
 some none,
 some none,
 some (some (.builtin "object.__setattr__")),
 some none,
 some none,
 some none,
 some none,
 some (some (.builtin "object.__setattr__")),
 some none,
 some none,
 some none,
 some (some (.builtin "getset_descriptor.__get__")),
 some (some (.builtin "BaseException.__getattribute__")),
 some none,
 some (some (.builtin "object.__class__")),
 some (some (.builtin "BaseException.__getattribute__")),
 some none,
 some (some (.builtin "object.__class__")),
 some (some (.builtin "BaseException.__getattribute__")),
 some none,
 some (some (.builtin "object.__class__")),
 some (some (.builtin "BaseException.__getattribute__")),
 some none,
 some (some (.builtin "object.__class__")),
 some (some (.builtin "BaseException.__getattribute__")),
 some none,
 some (some (.builtin "object.__class__")),
 some (some (.builtin "BaseException.__getattribute__")),
 some none,
 some (some (.builtin "object.__class__"))]
def JmS (K:Frag):List (Option Bool):=[PySem.W.takesIn K (.builtin "object.__class__"),
 PySem.W.mroIn K (Ji K "BadHand") (.type "object"),
 PySem.W.mroIn K (Ji K "BadHand") (.type "BaseException"),
 PySem.W.mroIn K (Ji K "OutOfRange") (.type "object"),
 PySem.W.mroIn K (Ji K "OutOfRange") (.type "BaseException"),
 PySem.W.mroIn K (Ji K "BadBid") (.type "object"),
 PySem.W.mroIn K (Ji K "BadBid") (.type "BaseException"),
 PySem.W.mroIn K (Ji K "Twice") (.type "object"),
 PySem.W.mroIn K (Ji K "Twice") (.type "BaseException"),
 PySem.W.mroIn K (Ji K "NoPlace") (.type "object"),
 PySem.W.mroIn K (Ji K "NoPlace") (.type "BaseException"),
 PySem.W.mroIn K (Ji K "BadName") (.type "object"),
 PySem.W.mroIn K (Ji K "BadName") (.type "BaseException")]
def isK:List (Option Bool):=[some true,
 some true,
 some true,
 some true,
 some true,
 some true,
 some true,
 some true,
 some true,
 some true,
 some true,
 some true,
 some true]
def JmP (K:Frag):List (Option (Sum Int Str)):=[obV K "MOST_SIGNS",
 obV K "MOST_TURNS",
 obV K "MOST_COINS",
 obV K "MOST_PLACES",
 obV K "MOST_LANES"]
def isV:List (Option (Sum Int Str)):=[some (.inl 6),
 some (.inl 30),
 some (.inl 20),
 some (.inl 12),
 some (.inl 40)]
def JmQ (K:Frag):List (Option (Bool×List (Option (Sum Int Str)))):=[obT K "HANDS"]
def isT:List (Option (Bool×List (Option (Sum Int Str)))):=[some (true,([.inr "north",.inr "south"]:List (Sum Int Str)).map some)]
def see (s:Shared):=(fun K=>(JmU K,JmT K,JmR K,JmS K,JmP K,JmQ K)) (Jl2 s.heap)
def Jia:=(isB,isF,isN,isK,isV,isT)
def xt (s:Shared):Bool:=xlAt qv [] s && recOk [] s
set_option maxHeartbeats 0 in
theorem Jo9 (w:World) (os:OsState):(JgG pg w 7356 (JkU w.params os)).map (fun s=>Jkn pg qv lo0 xt see w.params s.abs)=some (true,openGood qv lo0,Jia):=by
 kernel_rfl
theorem JoJ (P:Params):((boot_heap P).isNs mainGlobals && (Array.mk ([]:List GenState)).size == 0)=true:=by kernel_rfl
theorem JmY:PySem.W.OpenLaw.wellSaid PySem.Challenge.rw_bidmover_k35_whole_all_plays=true:=by kernel_rfl
theorem left:LeftO pg qv lo0 xt see (fun _=>Jia) 7356:=JoD (by kernel_rfl) (by decide) (fun s=>by kernel_rfl) Jo9 JoJ
end Pf
namespace L2
open PySem PySem.Spec PyProof.Rows
abbrev JI:=Sum Int Str
def Je4:JI→Value→Bool
 | .inl k,v=>Value.isInt k v
 | .inr x,v=>Value.isStrOf x v
def JqJ (w:World):JI→Int
 | .inl k=>hashInt k
 | .inr x=>hashStr w x
theorem YW:∀ {k:JI} {v:Value},Je4 k v=true→(∃ i t,k=Sum.inl i∧v=Value.int i t)∨(∃ x t,k=Sum.inr x∧v=Value.str x t)
 | .inl i,v,h=>by
  obtain ⟨t,e⟩:=Value.isInt_shape (k:=i) (v:=v) h;exact .inl ⟨i,t,rfl,e⟩
 | .inr x,v,h=>by
  obtain ⟨t,e⟩:=Value.isStrOf_shape (x:=x) (v:=v) h;exact .inr ⟨x,t,rfl,e⟩
theorem JlS (i:Int) (t:Tok):Je4 (.inl i) (.int i t)=true:=by simp [Je4,Value.isInt]
theorem JlR (x:Str) (t:Tok):Je4 (.inr x) (.str x t)=true:=by simp [Je4,Value.isStrOf]
theorem Jps (a b:Int):decide ((Sum.inl a:JI)=Sum.inl b)=(a == b):=by
 by_cases e:a=b
 ·subst e; simp
 ·have h:¬ (Sum.inl a:JI)=Sum.inl b:=fun q=>e (Sum.inl.inj q)
  rw [decide_eq_false h];exact (beq_eq_false_iff_ne.mpr e).symm
theorem JlQ (a b:Str):decide ((Sum.inr a:JI)=Sum.inr b)=decide (a=b):=by
 by_cases e:a=b
 ·subst e; simp
 ·have h:¬ (Sum.inr a:JI)=Sum.inr b:=fun q=>e (Sum.inr.inj q)
  rw [decide_eq_false h,decide_eq_false e]
theorem Jpr (a:Int) (b:Str):decide ((Sum.inl a:JI)=Sum.inr b)=false:=decide_eq_false (fun q=>nomatch q)
theorem Jpq (a:Str) (b:Int):decide ((Sum.inr a:JI)=Sum.inl b)=false:=decide_eq_false (fun q=>nomatch q)
def J9 (prog:Program) (w:World):PySem.KeyKind prog w JI where
 is:=Je4
 hash:=JqJ w
 inj:=fun v a b ha hb=>by
  rcases YW ha with ⟨i,t,rfl,rfl⟩ | ⟨x,t,rfl,rfl⟩
  ·rcases YW hb with ⟨j,u,rfl,e⟩ | ⟨y,u,rfl,e⟩
   ·injection e with e1 _; rw [e1]
   ·exact nomatch e
  ·rcases YW hb with ⟨j,u,rfl,e⟩ | ⟨y,u,rfl,e⟩
   ·exact nomatch e
   ·injection e with e1 _; rw [e1]
 byValue:=fun k v h=>by
  rcases YW h with ⟨i,t,rfl,rfl⟩ | ⟨x,t,rfl,rfl⟩ <;> rfl
 pyHash:=fun hv h=>by
  rcases YW hv with ⟨i,t,rfl,rfl⟩ | ⟨x,t,rfl,rfl⟩
  ·exact wpAny_pyHash_int h
  ·exact wpAny_pyHash_str h
 eqBool:=fun hu hv h=>by
  rcases YW hu with ⟨i,t,rfl,rfl⟩ | ⟨x,t,rfl,rfl⟩
  ·rcases YW hv with ⟨j,u,rfl,rfl⟩ | ⟨y,u,rfl,rfl⟩
   ·rw [Jps] at h; exact wpAny_eqBool_int h
   ·rw [Jpr] at h; exact SeqAt.EqAt.int_str i t y u _ _ _ _ h
  ·rcases YW hv with ⟨j,u,rfl,rfl⟩ | ⟨y,u,rfl,rfl⟩
   ·rw [Jpq] at h; exact SeqAt.EqAt.str_int x t j u _ _ _ _ h
   ·rw [JlQ] at h; exact wpAny_eqBool_str h
 «strs»:=fun k x t v h=>by
  rcases YW h with ⟨i,u,rfl,e⟩ | ⟨y,u,rfl,e⟩
  ·exact nomatch e
  ·injection e with e1 _;subst e1;cases v <;> rfl
theorem Jjz (prog:Program) (w:World) (i:Int) (t:Tok):(J9 prog w).is (.inl i) (.int i t)=true:=JlS i t
theorem JaU (prog:Program) (w:World) (x:Str) (t:Tok):(J9 prog w).is (.inr x) (.str x t)=true:=JlR x t
end L2
namespace L2
open PySem PySem.Spec PyProof.Rows
inductive V where
 | non | bl (b:Bool) | int (i:Int) | str (x:Str) | byt (b:Array UInt8) | flt (b:UInt64) | ref (a:Addr) | ty (n:String)
 deriving DecidableEq
def JF:V→Value→Prop
 | .non,u=>u=Value.none
 | .bl b,u=>u=Value.bool b
 | .int i,u=>∃ t,u=Value.int i t
 | .str x,u=>∃ t,u=Value.str x t
 | .byt b,u=>∃ t,u=Value.bytes b t
 | .flt b,u=>∃ t,u=Value.float b t
 | .ref a,u=>u=Value.ref a
 | .ty n,u=>u=Value.type n
abbrev Jz:List V→List Value→Prop:=Paired JF
theorem Jz.length {xs:List V} {us:List Value} (r:Jz xs us):xs.length=us.length:=Paired.length r
theorem Jz.get:∀ {xs:List V} {us:List Value} {i:Nat} {x:V},Jz xs us→xs[i]?=some x→∃ u,us[i]?=some u∧JF x u
 | _,_,_,_,.nil,e=>by simp at e
 | _,_,0,_,.cons r _,e=>by simp at e; subst e; exact ⟨_,rfl,r⟩
 | _,_,i + 1,x,.cons _ t,e=>by
  obtain ⟨u,h1,h2⟩:=Jz.get (i:=i) (x:=x) t (by simpa using e);exact ⟨u,by simpa using h1,h2⟩
theorem Jz.set {x:V} {u:Value} (r:JF x u):∀ {xs:List V} {us:List Value} (i:Nat),Jz xs us→Jz (xs.set i x) (us.set i u)
 | _,_,_,.nil=>.nil
 | _,_,0,.cons _ t=>.cons r t
 | _,_,i + 1,.cons q t=>.cons q (Jz.set r i t)
theorem Jz.append:∀ {xs ys:List V} {us ws:List Value},Jz xs us→Jz ys ws→Jz (xs ++ ys) (us ++ ws)
 | _,_,_,_,.nil,s=>s
 | _,_,_,_,.cons r t,s=>.cons r (Jz.append t s)
theorem Jz.take:∀ {xs:List V} {us:List Value} (n:Nat),Jz xs us→Jz (xs.take n) (us.take n)
 | _,_,0,_=>.nil
 | _,_,_ + 1,.nil=>.nil
 | _,_,n + 1,.cons r t=>.cons r (Jz.take n t)
theorem Jz.drop:∀ {xs:List V} {us:List Value} (n:Nat),Jz xs us→Jz (xs.drop n) (us.drop n)
 | _,_,0,r=>r
 | _,_,_ + 1,.nil=>.nil
 | _,_,n + 1,.cons _ t=>Jz.drop n t
theorem Jz.none_of:∀ {xs:List V} {us:List Value} {i:Nat},Jz xs us→xs[i]?=none→us[i]?=none:=fun {xs us i} r e=>by
 have h1:=r.length;have h2:xs.length≤i:=List.getElem?_eq_none_iff.mp e;exact List.getElem?_eq_none_iff.mpr (by omega)
def Jaa:Option V→Option Value→Prop
 | some v,some u=>JF v u
 | none,none=>True
 | _,_=>False
def KV {κ:Type}:List (κ×V)→List (κ×Value)→Prop:=Paired fun (p:κ×V) (q:κ×Value)=>p.1=q.1∧JF p.2 q.2
def kV:JI→V
 | .inl i=>.int i
 | .inr x=>.str x
inductive HO where
 | lst (xs:List V)
 | tup (xs:List V)
 | dK (kvs:List (JI×V)) | dT (kvs:List (List JI×V))
 | set (S:Int→Bool) (n:Nat)
 | ins (C dx:Addr) (fs:List (Str×V))
 | own (x:Addr)
 | xd (fs:List (Str×V))
 | met (f x:Addr)
 | rng (lo hi:Int)
 | frz (o:Obj) (u:HO)
 | tbl (ps:Array Value)
 | ext (φ:Heap→Prop)
abbrev Hp:=Addr→Option HO
def upd (H:Hp) (a:Addr) (o:HO):Hp:=fun b=>if b=a then some o else H b
theorem Jh {H:Hp} {a:Addr} {o:HO}:upd H a o a=some o:=by unfold upd; rw [if_pos rfl]
theorem Jq {H:Hp} {a b:Addr} {o:HO} (h:b≠a):upd H a o b=H b:=by unfold upd; rw [if_neg h]
theorem JjF {H:Hp} {a:Addr} {o u:HO}:upd (upd H a o) a u=upd H a u:=by
 funext b; unfold upd; split <;> rfl
theorem Jad {H:Hp} {a b:Addr} {o u:HO} (h:H a=some o) (h':H b=some u) (d:o≠u):a≠b:=by
 intro e; subst e; rw [h] at h'; exact d (Option.some.inj h')
theorem JB {H:Hp} {a b:Addr} {o:HO} (h:H a=some o) (h':H b=none):a≠b:=by
 intro e; subst e; rw [h] at h'; cases h'
section
variable (P:Program) (w:World)
def Yd (H:Hp) (h:Heap) (a:Addr):HO→Prop
 | .lst xs=>xs.length≤sizeLine∧∃ (its:List Value) (n:Nat),Jz xs its∧h.get? a=some { cls:=.type "list",data:=.seq its.toArray n }
 | .tup xs=>xs.length≤sizeLine∧∃ its:List Value,Jz xs its∧IsTup h a its.toArray
 | .dK kvs=>kvs.length≤sizeLine∧(a == sysModules)=false∧∃ vs,KV kvs vs∧h.DictOf (J9 P w) a vs
 | .dT kvs=>kvs.length≤sizeLine∧(a == sysModules)=false∧∃ xs:List (List JI×Addr×Value),
   Paired (fun (p:List JI×V) (q:List JI×Addr×Value)=>p.1=q.1∧H q.2.1=some (.tup (p.1.map kV))∧JF p.2 q.2.2) kvs xs ∧
   ∃ o es ep,h.get? a=some o∧o.ExactDict∧o.data=.dict es ep∧es.toList=xs.map (entryOfKey (tupleKind (J9 P w)))∧(xs.map (·.1)).Nodup
 | .set S n=>h.SetOf (intKind P w) a S n
 | .ins C dx fs=>H dx=some (.own a)∧fs.length≤1000∧dx≠a∧h.get? a=some (PySem.W.instObj C dx) ∧
   ∃ mA,h.Ns1 dx mA∧(∀ f,Jaa (fs.lookup f) (mA f))∧PySem.Within mA (fs.map (·.1))
 | .own _=>∃ o,h.get? a=some o
 | .xd fs=>∃ mA,h.Ns1 a mA∧∀ f,Jaa (fs.lookup f) (mA f)
 | .rng lo hi=>∃ t u v,h.get? a=some { cls:=.type "range",data:=.fields #[.int lo t,.int hi u,.int 1 v] }
 | .frz o u=>h.get? a=some o∧Yd H h a u
 | .tbl ps=>h.get? a=some { cls:=.none,data:=.fields ps }
 | .met f x=>h.get? a=some (PySem.W.methodObj (.ref f) (.ref x))
 | .ext φ=>φ h∧(∃ o,h.get? a=some o)∧∀ h1 h2:Heap,φ h1→(∀ o,h1.get? a=some o→h2.get? a=some o)→φ h2
def Zn (H:Hp) (h:Heap):Prop:=∀ a o,H a=some o→Yd P w H h a o
end
section
variable {P:Program} {w:World} {H H':Hp} {h h':Heap} {a:Addr} {o:HO}
theorem Yd.lt (x:Yd P w H h a o):a < h.objs.size:=by
 cases o with
 | lst xs=>obtain ⟨_,_,_,_,e⟩:=x; exact Heap.lt_size e
 | tup xs=>obtain ⟨_,_,_,p⟩:=x; exact p.lt
 | dK kvs=>obtain ⟨_,_,_,_,o,_,_,e,_⟩:=x; exact Heap.lt_size e
 | dT kvs=>obtain ⟨_,_,_,_,o,_,_,e,_⟩:=x; exact Heap.lt_size e
 | set S n=>obtain ⟨o,_,_,_,e,_⟩:=x; exact Heap.lt_size e
 | ins C dx fs=>obtain ⟨_,_,_,e,_⟩:=x; exact Heap.lt_size e
 | own y=>obtain ⟨_,e⟩:=x; exact Heap.lt_size e
 | xd fs=>obtain ⟨_,⟨_,_,_,e,_⟩,_⟩:=x; exact Heap.lt_size e
 | rng lo hi=>obtain ⟨_,_,_,e⟩:=x; exact Heap.lt_size e
 | frz ob u=>obtain ⟨e,_⟩:=x; exact Heap.lt_size e
 | tbl ps=>exact Heap.lt_size (show h.get? a=some _ from x)
 | met f y=>exact Heap.lt_size (show h.get? a=some _ from x)
 | ext φ=>obtain ⟨_,⟨_,e⟩,_⟩:=x; exact Heap.lt_size e
theorem Paired.mapP {α β:Type} {F G:α→β→Prop}:∀ {l₁:List α} {l₂:List β},Paired F l₁ l₂→(∀ a b,F a b→G a b)→Paired G l₁ l₂
 | _,_,.nil,_=>.nil
 | _,_,.cons r t,f=>.cons (f _ _ r) (Paired.mapP t f)
theorem Yd.stay (x:Yd P w H h a o) (k:∀ b u,(b=a∨H b=some (.own a))→h.get? b=some u→h'.get? b=some u)
  (ho:∀ b,H b=some (.own a)→H' b=some (.own a)) (ht:∀ b xs,H b=some (.tup xs)→H' b=some (.tup xs)):Yd P w H' h' a o:=by
 induction o with
 | lst xs=>obtain ⟨z,its,n,r,e⟩:=x; exact ⟨z,its,n,r,k _ _ (.inl rfl) e⟩
 | tup xs=>obtain ⟨z,its,r,ob,e,c⟩:=x; exact ⟨z,its,r,ob,k _ _ (.inl rfl) e,c⟩
 | dK kvs=>obtain ⟨z,y,vs,r,ob,es,ep,e,c⟩:=x; exact ⟨z,y,vs,r,ob,es,ep,k _ _ (.inl rfl) e,c⟩
 | dT kvs =>
  obtain ⟨z,y,xs,r,ob,es,ep,e,c⟩:=x;exact ⟨z,y,xs,Paired.mapP r fun p q z=>⟨z.1,ht _ _ z.2.1,z.2.2⟩,ob,es,ep,k _ _ (.inl rfl) e,c⟩
 | set S n=>obtain ⟨ob,es,ep,t,e,c⟩:=x; exact ⟨ob,es,ep,t,k _ _ (.inl rfl) e,c⟩
 | ins C dx fs =>
  obtain ⟨d,z,ne,e,mA,⟨od,es,ep,e2,c⟩,r⟩:=x;exact ⟨ho _ d,z,ne,k _ _ (.inl rfl) e,mA,⟨od,es,ep,k _ _ (.inr d) e2,c⟩,r⟩
 | own y=>obtain ⟨ob,e⟩:=x; exact ⟨ob,k _ _ (.inl rfl) e⟩
 | xd fs=>obtain ⟨mA,⟨od,es,ep,e,c⟩,r⟩:=x; exact ⟨mA,⟨od,es,ep,k _ _ (.inl rfl) e,c⟩,r⟩
 | rng lo hi=>obtain ⟨t,u,v,e⟩:=x; exact ⟨t,u,v,k _ _ (.inl rfl) e⟩
 | frz ob u ih=>obtain ⟨e,q⟩:=x; exact ⟨k _ _ (.inl rfl) e,ih q⟩
 | tbl ps =>
  have e:h.get? a=some { cls:=.none,data:=.fields ps }:=x;show h'.get? a=some { cls:=.none,data:=.fields ps };exact k a _ (.inl rfl) e
 | met f y =>
  have e:h.get? a=some (PySem.W.methodObj (.ref f) (.ref y)):=x;show h'.get? a=some (PySem.W.methodObj (.ref f) (.ref y));exact k a _ (.inl rfl) e
 | ext φ=>obtain ⟨p,⟨o,e⟩,st⟩:=x; exact ⟨st _ _ p fun o q=>k _ _ (.inl rfl) q,⟨o,k _ _ (.inl rfl) e⟩,st⟩
theorem Zn.lt (x:Zn P w H h) (e:H a=some o):a < h.objs.size:=(x a o e).lt
theorem Zn.fresh (x:Zn P w H h) (e:h.objs.size≤a):H a=none:=by
 cases q:H a with
 | none=>rfl
 | some u=>exact absurd (Nat.lt_of_lt_of_le (x.lt q) e) (Nat.lt_irrefl _)
theorem Zn.kept (x:Zn P w H h) (k:∀ b u,h.get? b=some u→h'.get? b=some u):Zn P w H h':=fun a o e =>
 (x a o e).stay (fun b u _ q=>k b u q) (fun _ q=>q) fun _ _ q=>q
theorem Zn.laid (x:Zn P w H h) (k:∀ b u,h.get? b=some u→h'.get? b=some u) (hp:h.objs.size≤a) (new:Yd P w (upd H a o) h' a o):Zn P w (upd H a o) h':=fun b u e=>by
 have hn:=x.fresh hp;by_cases hb:b=a
 ·subst hb; rw [Jh] at e; cases e; exact new
 ·rw [Jq hb] at e;exact (x b u e).stay (fun c v _ q=>k c v q) (fun c q=>by rw [Jq (JB q hn)]; exact q) fun c xs q=>by rw [Jq (JB q hn)]; exact q
end
def Rd (H:Hp) (a:Addr) (u:HO):Prop:=H a=some u∨∃ o,H a=some (.frz o u)
theorem Rd.of {H:Hp} {a:Addr} {u:HO} (h:H a=some u):Rd H a u:=.inl h
theorem Rd.ok {P:Program} {w:World} {H:Hp} {h:Heap} {a:Addr} {u:HO} (r:Rd H a u) (x:Zn P w H h):Yd P w H h a u:=by
 rcases r with r | ⟨o,r⟩
 ·exact x a u r
 ·obtain ⟨_,q⟩:=x a _ r;exact q
def Mut:Option HO→Prop
 | some (.lst _)=>True
 | some (.dK _)=>True
 | some (.dT _)=>True
 | some (.set _ _)=>True
 | some (.ins _ _ _)=>True
 | some (.ext _)=>True
 | _=>False
section
variable {P:Program} {w:World} {H:Hp} {h h':Heap} {x e:Addr} {o':HO}
theorem Zn.write (ok:Zn P w H h) (mu:Mut (H x)) (he:e=x∨H e=some (.own x)) (k:∀ b u,b≠e→h.get? b=some u→h'.get? b=some u) (heo:∃ u,h'.get? e=some u)
  (new:Yd P w (upd H x o') h' x o'):Zn P w (upd H x o') h':=fun b u q=>by
 have nown:∀ c y,H c=some (.own y)→c≠x:=fun c y r z=>by subst z; rw [r] at mu; exact mu
 have ntup:∀ c xs,H c=some (.tup xs)→c≠x:=fun c xs r z=>by subst z; rw [r] at mu; exact mu
 by_cases hb:b=x
 ·subst hb; rw [Jh] at q; cases q; exact new
 ·rw [Jq hb] at q;by_cases hbe:b=e
  ·have q':H b=some (.own x):=by
    rcases he with z | z
    ·exact absurd (hbe.trans z) hb
    ·rw [hbe]; exact z
   rw [q] at q'; cases q';obtain ⟨v,hv⟩:=heo;exact ⟨v,by rw [hbe]; exact hv⟩
  ·refine (ok b u q).stay (fun c v hc r=>k c v ?_ r) (fun c r=>by rw [Jq (nown c b r)]; exact r) fun c xs r=>by rw [Jq (ntup c xs r)]; exact r
   rcases hc with rfl | hc
   ·exact hbe
   ·rintro rfl;rcases he with z | z
    ·exact nown c b hc z
    ·rw [hc] at z; cases z; exact hb rfl
end
structure Un (fs ex:List Addr) (H H':Hp) (h h':Heap):Prop where
 keep:∀ b o,h.get? b=some o→H b=none→b∉fs→b∉ex→h'.get? b=some o
 slot:∀ b o,h.get? b=some o→H b=none→b∈fs→b∉ex→∃ sl,h'.get? b=some { o with slots:=sl }
 free:∀ b o,h.get? b=some o→H b=none→b∉ex→H' b=none
 there:∀ b o,h.get? b=some o→b∉ex→∃ o',h'.get? b=some o'
 tups:∀ b xs,H b=some (.tup xs)→H' b=some (.tup xs)
 frzs:∀ b o u,H b=some (.frz o u)→H' b=some (.frz o u)
 tbls:∀ b ps,H b=some (.tbl ps)→∃ more,H' b=some (.tbl (ps ++ more))
section
variable {fs fs' ex ex':List Addr} {H H1 H2:Hp} {h h1 h2 h':Heap} {a x e:Addr} {o:HO}
theorem Un.any (u:Un fs ex H H1 h h1) {b:Addr} {ob:Obj} (q:h.get? b=some ob) (n:H b=none) (hx:b∉ex):∃ sl,h1.get? b=some { ob with slots:=sl }:=by
 by_cases hb:b∈fs
 ·exact u.slot b ob q n hb hx
 ·exact ⟨ob.slots,u.keep b ob q n hb hx⟩
theorem Un.trans (a:Un fs ex H H1 h h1) (b:Un fs ex H1 H2 h1 h2):Un fs ex H H2 h h2 where
 keep:=fun c ob q n hc hx=>b.keep c ob (a.keep c ob q n hc hx) (a.free c ob q n hx) hc hx
 slot:=fun c ob q n hc hx=>by
  obtain ⟨sl,e1⟩:=a.slot c ob q n hc hx;obtain ⟨sl',e2⟩:=b.slot c _ e1 (a.free c ob q n hx) hc hx;exact ⟨sl',e2⟩
 free:=fun c ob q n hx=>by
  obtain ⟨o',e1⟩:=a.there c ob q hx;exact b.free c o' e1 (a.free c ob q n hx) hx
 there:=fun c ob q hx=>by
  obtain ⟨o',e1⟩:=a.there c ob q hx;exact b.there c o' e1 hx
 tups:=fun c xs q=>b.tups c xs (a.tups c xs q)
 frzs:=fun c ob xs q=>b.frzs c ob xs (a.frzs c ob xs q)
 tbls:=fun c ps q=>by
  obtain ⟨m1,e1⟩:=a.tbls c ps q;obtain ⟨m2,e2⟩:=b.tbls c _ e1;exact ⟨m1 ++ m2,by rw [e2,Array.append_assoc]⟩
theorem Un.kept (k:∀ b u,h.get? b=some u→h'.get? b=some u):Un fs ex H H h h' :=
 ⟨fun b ob q _ _ _=>k b ob q,fun b ob q _ _ _=>⟨ob.slots,k b ob q⟩,fun _ _ _ n _=>n,fun b ob q _=>⟨ob,k b ob q⟩,fun _ _ q=>q,fun _ _ _ q=>q,fun _ ps q=>⟨#[],by rw [q]; simp⟩⟩
theorem Un.refl:Un fs ex H H h h:=Un.kept fun _ _ q=>q
theorem Un.laid (k:∀ b u,h.get? b=some u→h'.get? b=some u) (hp:h.objs.size≤a) (hn:H a=none):Un fs ex H (upd H a o) h h' where
 keep:=fun b u q _ _ _=>k b u q
 slot:=fun b u q _ _ _=>⟨u.slots,k b u q⟩
 free:=fun b u q n _=>by rw [Jq (Nat.ne_of_lt (Nat.lt_of_lt_of_le (Heap.lt_size q) hp))]; exact n
 there:=fun b u q _=>⟨u,k b u q⟩
 tups:=fun b xs q=>by rw [Jq (JB q hn)]; exact q
 frzs:=fun b u xs q=>by rw [Jq (JB q hn)]; exact q
 tbls:=fun b ps q=>⟨#[],by rw [Jq (JB q hn),q]; simp⟩
theorem Un.write (mu:Mut (H x)) (he:e=x∨H e=some (.own x)) (k:∀ b u,b≠e→h.get? b=some u→h'.get? b=some u) (heo:∃ u,h'.get? e=some u):Un fs ex H (upd H x o) h h':=by
 have hx:∀ b,H b=none→b≠x:=fun b n z=>by subst z; rw [n] at mu; exact mu
 have hb:∀ b,H b=none→b≠e:=fun b n z=>by
  subst z;rcases he with r | r
  ·exact hx b n r
  ·rw [n] at r; cases r
 have hm:∀ b u,H b=some u→¬ Mut (some u)→b≠x:=fun b u q nm z=>by subst z; rw [q] at mu; exact nm mu
 refine ⟨fun b u q n _ _=>k b u (hb b n) q,fun b u q n _ _=>⟨u.slots,k b u (hb b n) q⟩,fun b u q n _=>by rw [Jq (hx b n)]; exact n,fun b u q _=>?_,
  fun b xs q=>by rw [Jq (hm b _ q fun z=>z)]; exact q,fun b u xs q=>by rw [Jq (hm b _ q fun z=>z)]; exact q,fun b ps q=>⟨#[],by rw [Jq (hm b _ q fun z=>z),q]; simp⟩⟩
 by_cases hbe:b=e
 ·subst hbe; exact heo
 ·exact ⟨u,k b u hbe q⟩
theorem Un.mono (u:Un fs ex H H1 h h1) (hs:∀ b∈fs,b∈fs') (hx:∀ b∈ex,b∈ex'):Un fs' ex' H H1 h h1 :=
 ⟨fun b ob q n hb he=>u.keep b ob q n (fun z=>hb (hs b z)) fun z=>he (hx b z),fun _ _ q n _ he=>u.any q n fun z=>he (hx _ z),fun b ob q n he=>u.free b ob q n fun z=>he (hx b z),fun b ob q he=>u.there b ob q fun z=>he (hx b z),u.tups,u.frzs,u.tbls⟩
end
def trk (h:Heap) (H:Hp):List Addr:=(List.range h.objs.size).filter fun a=>(H a).isSome
def JdY (h:Heap) (H:Hp):Heap:=PySem.W.hideAll h (trk h H)
theorem JlY (h:Heap) (H:Hp):(JdY h H).objs.size=h.objs.size:=PySem.W.hideAll_size _ _
theorem Jnm {h:Heap} {H:Hp} {b:Addr} {o:Obj} (e:h.get? b=some o) (n:H b=none):(JdY h H).get? b=some o :=
 PySem.W.hideAll_get _ e fun hm=>by
  have q:(H b).isSome=true:=(List.mem_filter.mp hm).2;rw [n] at q; simp at q
theorem Jou {h:Heap} {H:Hp} {b:Addr} {o:Obj} (e:(JdY h H).get? b=some o):h.get? b=some o∧H b=none:=by
 have e':h.get? b=some o:=PySem.W.of_hideAll (trk h H) e;refine ⟨e',?_⟩;cases q:H b with
 | none=>rfl
 | some x =>
  have hm:b∈trk h H:=List.mem_filter.mpr ⟨List.mem_range.mpr (Heap.lt_size e'),by simp [q]⟩;have z:(JdY h H).get? b=none:=PySem.W.hideAll_none (trk h H) hm;rw [z] at e; cases e
def JoL (g h:Heap) (L:Addr):List (Addr×Obj):=(List.range h.objs.size).filterMap fun a=>if a=L∨(g.get? a).isSome=true then none else (h.get? a).map fun o=>(a,o)
def rest (g h:Heap) (L d:Addr):List (Addr×Obj):=(JoL g h L).filter fun p=>decide (p.1≠d)
end L2
namespace L2
open PySem PySem.Spec PyProof.Rows
structure Mod (K:PySem.W.Frag) (mg:Str→Option Value) (base:Heap):Prop where
 kin:K.In base
 glob:base.Ns mainGlobals mg
 blt:∃ mb,base.Ns builtinsNs mb∧∀ x:Str,x ≠ "__name__"→mb x=bootBuiltins x
 nolimit:base.NoLimit
structure Cx where
 prog:Program
 w:World
 K:PySem.W.Frag
 mg:Str→Option Value
 base:Heap
 A:Around
 N:List Str
 s₀:Shared
 H₀:Hp
 env:Env
 outer:List Env
 stack:List Env
 ex:List Addr
 fn:Str→Bool
 calm:Bool
 pn:List (Addr×Obj)
 xe:Value→Shared→Prop
def Zm (l:List Env):List Addr:=l.filterMap (·.frame)
abbrev Cx.fs (X:Cx):List Addr:=Zm X.outer
def Vis (sc:Scope) (x:Str):Prop:=sc.names.lookup x=some .local∨sc.names.lookup x=some .cell∨sc.names.lookup x=some .free
def Loc (sc:Scope) (x:Str):Prop:=sc.names.lookup x=some .local∨sc.names.lookup x=some .cell
def JqO (env:Env) (h:Heap) (m:Str→Option Value) (x:Str) (u:Value):Prop :=
 (env.kindOf x=some .local∧m x=some u)∨((env.kindOf x=some .cell∨env.kindOf x=some .free)∧∃ c,env.cells.lookup x=some c∧h.IsCell c (some u))
structure Cx.Ok (X:Cx):Prop where
 mod:Mod X.K X.mg X.base
 kind:X.env.scope.kind=.function
 glob:X.env.globals=mainGlobals
 blt:X.env.builtins=builtinsNs
 above:X.s₀.heap.objs.size≤X.env.locals
 inj:∀ x y c,X.env.cells.lookup x=some c→X.env.cells.lookup y=some c→x=y
 has:∀ x,(X.env.kindOf x=some .cell∨X.env.kindOf x=some .free)→∃ c,X.env.cells.lookup x=some c
 cab:∀ x c,X.fn x=true→X.env.cells.lookup x=some c→X.s₀.heap.objs.size≤c
 hd:X.calm=true→X.A.handled=none
 frames:X.A.frames=some X.stack
 stk:X.stack=X.outer∨(X.stack=X.env :: X.outer∧X.env.frame=some X.env.locals)
 exf:∀ b∈X.ex,b≠X.env.locals∧∀ x c,X.env.cells.lookup x=some c→c≠b
 bs:∀ b o,X.base.get? b=some o→X.s₀.heap.get? b=some o∧X.H₀ b=none
 bsz:X.base.objs.size≤X.s₀.heap.objs.size
 noex:∀ b o,X.base.get? b=some o→b∉X.ex
 exfs:∀ b∈X.ex,b∉X.fs
 funs:X.s₀.heap.FunFrames X.base X.outer
 frf:∀ b∈X.fs,X.H₀ b=none
structure Jk (X:Cx) (pins:List (Addr×Obj)) (σ:List (Option V)) (H:Hp) (s:Shared):Prop where
 ok:X.Ok
 os:s.os=X.s₀.os
 bare:AllBare s.gens
 base:Un X.fs X.ex X.H₀ H X.s₀.heap s.heap
 loc:∃ m,s.heap.Ns X.env.locals m∧∀ (i:Nat) (x:Str) (v:V),X.N[i]?=some x→σ[i]?=some (some v)→Vis X.env.scope x→∃ u,JF v u∧JqO X.env s.heap m x u
 cell:∀ x c,X.env.cells.lookup x=some c→∃ v,s.heap.IsCell c v
 free:H X.env.locals=none
 freeC:∀ x c,X.env.cells.lookup x=some c→H c=none
 pin:∀ p∈X.pn ++ pins,s.heap.get? p.1=some p.2∧H p.1=none∧p.1≠X.env.locals∧p.1∉X.fs∧∀ v,p.2.data≠.cell v
 hok:Zn X.prog X.w H s.heap
 len:σ.length=X.N.length
section
variable {X:Cx} {pins:List (Addr×Obj)} {σ:List (Option V)} {H H':Hp} {s:Shared} {h':Heap}
theorem Cx.Ok.nofr (ok:X.Ok) {b:Addr} {o:Obj} (e:X.base.get? b=some o):b∉X.fs:=fun hb=>by
 have:=(ok.funs.mem hb).1;rw [e] at this; cases this
theorem Jk.bs (I:Jk X pins σ H s):∀ b o,X.base.get? b=some o→s.heap.get? b=some o∧H b=none:=fun b o e =>
 ⟨I.base.keep b o (I.ok.bs b o e).1 (I.ok.bs b o e).2 (I.ok.nofr e) (I.ok.noex b o e),I.base.free b o (I.ok.bs b o e).1 (I.ok.bs b o e).2 (I.ok.noex b o e)⟩
theorem Jk.bk (I:Jk X pins σ H s):∀ b o,X.base.get? b=some o→s.heap.get? b=some o:=fun b o e=>(I.bs b o e).1
theorem Jk.mod (I:Jk X pins σ H s):Mod X.K X.mg X.base:=I.ok.mod
theorem Jk.kIn (I:Jk X pins σ H s):X.K.In s.heap:=I.ok.mod.kin.keeps I.bk
theorem Jk.nolimit (I:Jk X pins σ H s):s.heap.NoLimit:=I.ok.mod.nolimit.keeps I.bk
theorem Jk.fr (I:Jk X pins σ H s):∃ m,Fr X.base X.env.locals s.heap m :=
 let ⟨m,hn,_⟩:=I.loc
 ⟨m,hn,I.bk,Nat.le_trans I.ok.bsz I.ok.above⟩
theorem Jk.lt (I:Jk X pins σ H s):X.env.locals < s.heap.objs.size:=let ⟨_,hn,_⟩:=I.loc; hn.lt
theorem Jk.sz (I:Jk X pins σ H s):X.s₀.heap.objs.size≤s.heap.objs.size:=Nat.le_trans I.ok.above (Nat.le_of_lt I.lt)
theorem Jk.nofs (I:Jk X pins σ H s) {a:Addr} (h:s.heap.objs.size≤a):a∉X.fs:=fun hb=>by
 obtain ⟨_,o,ho,_⟩:=I.ok.funs.mem hb;exact absurd (Nat.lt_of_lt_of_le (Heap.lt_size ho) (Nat.le_trans I.sz h)) (Nat.lt_irrefl _)
theorem Jk.cne (I:Jk X pins σ H s):∀ x c,X.env.cells.lookup x=some c→c≠X.env.locals:=fun x c e z=>by
 obtain ⟨v,o,ho,hd⟩:=I.cell x c e;obtain ⟨m,⟨o',es,ep,ho',hd',_⟩,_⟩:=I.loc;rw [z,ho'] at ho; cases ho; rw [hd'] at hd; cases hd
theorem Jk.funs (I:Jk X pins σ H s):s.heap.FunFrames X.base X.outer:=by
 have all:∀ (l:List Env),(∀ b∈Zm l,b∈X.fs)→X.s₀.heap.FunFrames X.base l→s.heap.FunFrames X.base l:=by
  intro l
  induction l with
  | nil=>intro _ _; trivial
  | cons env r ih =>
   intro hs hl;obtain ⟨hk,⟨L,o,hf,hn,ho,hd⟩,hr⟩:=hl;have hL:L∈X.fs:=hs L (by unfold Zm; rw [List.filterMap_cons,hf]; exact List.mem_cons_self);obtain ⟨sl,e⟩:=I.base.slot L o ho (I.ok.frf L hL) hL fun z=>I.ok.exfs L z hL
   exact ⟨hk,⟨L,_,hf,hn,e,hd⟩,ih (fun b hb=>hs b (by unfold Zm; rw [List.filterMap_cons,hf]; exact List.mem_cons_of_mem _ hb)) hr⟩
 exact all X.outer (fun _ hb=>hb) I.ok.funs
theorem Jk.stack (I:Jk X pins σ H s):s.heap.FunFrames X.base X.stack:=by
 rcases I.ok.stk with e | ⟨e,hf⟩
 ·rw [e]; exact I.funs
 ·rw [e];obtain ⟨m,hn,_⟩:=I.loc;refine .cons (by rw [I.ok.kind]; decide) hf hn ?_ I.funs;exact Heap.get?_none_of_le (Nat.le_trans I.ok.bsz I.ok.above)
theorem Jk.stkSub (I:Jk X pins σ H s):∀ b∈Zm X.stack,b∈X.env.locals :: X.fs:=fun b hb=>by
 rcases I.ok.stk with e | ⟨e,hf⟩
 ·rw [e] at hb; exact List.mem_cons_of_mem _ hb
 ·rw [e] at hb;unfold Zm at hb;rw [List.filterMap_cons,hf] at hb;exact hb
theorem Jk.stkFree (I:Jk X pins σ H s):∀ b∈Zm X.stack,H b=none:=fun b hb=>by
 rcases List.mem_cons.mp (I.stkSub b hb) with e | hb
 ·rw [e]; exact I.free
 ·obtain ⟨_,o,ho,_⟩:=I.ok.funs.mem hb;exact I.base.free b o ho (I.ok.frf b hb) fun z=>I.ok.exfs b z hb
theorem Jk.step {g':Array GenState} {t':Nat} {d':Drawn} {ch:List Addr} (I:Jk X pins σ H s)
  (hch:∀ b∈ch,(b∈X.ex∨X.s₀.heap.objs.size≤b)∧b≠X.env.locals∧(∀ x c,X.env.cells.lookup x=some c→c≠b)∧∀ p∈X.pn ++ pins,p.1≠b)
  (keep:∀ b o,b≠X.env.locals→b∉X.fs→b∉ch→s.heap.get? b=some o→H b=none→h'.get? b=some o)
  (slot:∀ b o,b≠X.env.locals→b∈X.fs→b∉ch→s.heap.get? b=some o→H b=none→∃ sl,h'.get? b=some { o with slots:=sl }) (free:∀ b o,b∉ch→s.heap.get? b=some o→H b=none→H' b=none)
  (there:∀ b o,b∉ch→s.heap.get? b=some o→∃ o',h'.get? b=some o')
  (tups:∀ b xs,H b=some (.tup xs)→H' b=some (.tup xs)) (frzs:∀ b o u,H b=some (.frz o u)→H' b=some (.frz o u)) (tbls:∀ b ps,H b=some (.tbl ps)→∃ more,H' b=some (.tbl (ps ++ more)))
  (ns:∀ m,s.heap.Ns X.env.locals m→h'.Ns X.env.locals m) (hok:Zn X.prog X.w H' h') (hg:AllBare g') :
  Jk X pins σ H' { s with heap:=h',gens:=g',drawn:=d',toks:=t' }:=by
 have neL:∀ b o,X.s₀.heap.get? b=some o→b≠X.env.locals:=fun b o e=>Nat.ne_of_lt (Nat.lt_of_lt_of_le (Heap.lt_size e) I.ok.above)
 have neC:∀ b o,X.s₀.heap.get? b=some o→b∉X.ex→b∉ch:=fun b o e hx hb=>by
  rcases (hch b hb).1 with z | z
  ·exact hx z
  ·exact absurd (Nat.lt_of_lt_of_le (Heap.lt_size e) z) (Nat.lt_irrefl _)
 have cellK:∀ x c,X.env.cells.lookup x=some c→∀ v,s.heap.IsCell c v→h'.IsCell c v:=fun x c e v ⟨o,ho,hd⟩=>by
  have nch:c∉ch:=fun z=>(hch c z).2.2.1 x c e rfl
  by_cases hc:c∈X.fs
  ·obtain ⟨sl,q⟩:=slot c o (I.cne x c e) hc nch ho (I.freeC x c e);exact ⟨_,q,hd⟩
  ·exact ⟨o,keep c o (I.cne x c e) hc nch ho (I.freeC x c e),hd⟩
 refine ⟨I.ok,I.os,hg,⟨fun b o e n hb hx=>?_,fun b o e n hb hx=>?_,fun b o e n hx=>?_,fun b o e hx=>?_,fun b xs e=>tups b xs (I.base.tups b xs e),fun b o xs e=>frzs b o xs (I.base.frzs b o xs e),fun b ps e=>?_⟩,?_,fun x c e=>?_,?_,fun x c e=>?_,fun p hp=>?_,hok,I.len⟩
 ·exact keep b o (neL b o e) hb (neC b o e hx) (I.base.keep b o e n hb hx) (I.base.free b o e n hx)
 ·obtain ⟨sl,e1⟩:=I.base.slot b o e n hb hx;obtain ⟨sl',e2⟩:=slot b _ (neL b o e) hb (neC b o e hx) e1 (I.base.free b o e n hx);exact ⟨sl',e2⟩
 ·obtain ⟨o',e1⟩:=I.base.there b o e hx;exact free b o' (neC b o e hx) e1 (I.base.free b o e n hx)
 ·obtain ⟨o',e1⟩:=I.base.there b o e hx;exact there b o' (neC b o e hx) e1
 ·obtain ⟨m1,e1⟩:=I.base.tbls b ps e;obtain ⟨m2,e2⟩:=tbls b _ e1;exact ⟨m1 ++ m2,by rw [e2,Array.append_assoc]⟩
 ·obtain ⟨m,hn,hl⟩:=I.loc;refine ⟨m,ns m hn,fun i x v e1 e2 e3=>?_⟩;obtain ⟨u,r,l⟩:=hl i x v e1 e2 e3;refine ⟨u,r,?_⟩;rcases l with l | ⟨k,c,e,z⟩
  ·exact .inl l
  ·exact .inr ⟨k,c,e,cellK x c e _ z⟩
 ·obtain ⟨v,z⟩:=I.cell x c e;exact ⟨v,cellK x c e v z⟩
 ·obtain ⟨m,⟨o,_,_,ho,_⟩,_⟩:=I.loc;exact free _ o (fun z=>(hch _ z).2.1 rfl) ho I.free
 ·obtain ⟨v,o,ho,hd⟩:=I.cell x c e;exact free c o (fun z=>(hch c z).2.2.1 x c e rfl) ho (I.freeC x c e)
 ·obtain ⟨e,n,ne,nf,d⟩:=I.pin p hp;have nch:p.1∉ch:=fun z=>(hch p.1 z).2.2.2 p hp rfl
  exact ⟨keep p.1 p.2 ne nf nch e n,free p.1 p.2 nch e n,ne,nf,d⟩
theorem Jk.un {t':Nat} (I:Jk X pins σ H s) (u:Un X.fs [] H H' s.heap h') (hok:Zn X.prog X.w H' h'):Jk X pins σ H' { s with heap:=h',toks:=t' }:=by
 obtain ⟨m,⟨o,es,ep,ho,r⟩,_⟩:=id I.loc;obtain ⟨sl,hL⟩:=u.any ho I.free (by simp);exact I.step (g':=s.gens) (d':=s.drawn) (ch:=[]) (fun _ z=>nomatch z) (fun b o _ hb _ e n=>u.keep b o e n hb (by simp)) (fun b o _ hb _ e n=>u.slot b o e n hb (by simp)) (fun b o _ e n=>u.free b o e n (by simp)) (fun b o _ e=>u.there b o e (by simp)) u.tups u.frzs u.tbls (fun m' hm=>by
  obtain ⟨o',es',ep',ho',r'⟩:=hm;rw [ho] at ho'; cases ho';exact ⟨_,es',ep',hL,r'⟩) hok I.bare
theorem Jk.call {g':Array GenState} {t':Nat} {d':Drawn} {ch:List Addr} (I:Jk X pins σ H s) (u:Un (Zm X.stack) ch H H' s.heap h') (hok:Zn X.prog X.w H' h') (hg:AllBare g')
  (hch:∀ b∈ch,(b∈X.ex∨X.s₀.heap.objs.size≤b)∧b≠X.env.locals∧(∀ x c,X.env.cells.lookup x=some c→c≠b)∧∀ p∈X.pn ++ pins,p.1≠b) :
  Jk X pins σ H' { s with heap:=h',gens:=g',drawn:=d',toks:=t' }:=by
 obtain ⟨m,⟨o,es,ep,ho,r⟩,_⟩:=id I.loc;obtain ⟨sl,hL⟩:=u.any ho I.free fun z=>(hch _ z).2.1 rfl
 exact I.step (ch:=ch) hch (fun b o hL hb hc e n=>u.keep b o e n (fun z=>(List.mem_cons.mp (I.stkSub b z)).elim hL hb) hc) (fun b o _ _ hc e n=>u.any e n hc) (fun b o hc e n=>u.free b o e n hc) (fun b o hc e=>u.there b o e hc) u.tups u.frzs u.tbls (fun m' hm=>by
  obtain ⟨o',es',ep',ho',r'⟩:=hm;rw [ho] at ho'; cases ho';exact ⟨_,es',ep',hL,r'⟩) hok hg
theorem Jk.turned {t':Nat} {it:Addr} (I:Jk X pins σ H s) (k:∀ b o,b≠it→s.heap.get? b=some o→h'.get? b=some o) (hn:H it=none) (hL:it≠X.env.locals)
  (h1:it∈X.ex∨X.s₀.heap.objs.size≤it) (h2:∀ x c,X.env.cells.lookup x=some c→c≠it) (h3:∀ p∈X.pn ++ pins,p.1≠it):Jk X pins σ H { s with heap:=h',toks:=t' }:=by
 have nit:∀ b u,H b=some u→b≠it:=fun b u e z=>by rw [z,hn] at e; cases e
 refine I.step (g':=s.gens) (d':=s.drawn) (ch:=[it]) (fun b hb=>?_) (fun b o _ _ hc e _=>k b o (fun z=>hc (by simp [z])) e) (fun b o _ _ hc e _=>⟨o.slots,k b o (fun z=>hc (by simp [z])) e⟩) (fun _ _ _ _ n=>n)
  (fun b o hc e=>⟨o,k b o (fun z=>hc (by simp [z])) e⟩) (fun _ _ e=>e) (fun _ _ _ e=>e) (fun b ps e=>⟨#[],by rw [e]; simp⟩) (fun m hm=>?_) (fun b u e=>?_) I.bare
 ·have e:b=it:=by simpa using hb
  subst e;exact ⟨h1,hL,h2,h3⟩
 ·obtain ⟨o,es,ep,ho,r⟩:=hm;exact ⟨o,es,ep,k _ o (Ne.symm hL) ho,r⟩
 ·refine (I.hok b u e).stay (fun c v hc q=>k c v ?_ q) (fun _ q=>q) fun _ _ q=>q
  rcases hc with z | z
  ·rw [z]; exact nit b u e
  ·exact nit c _ z
theorem Jk.tok (I:Jk X pins σ H s) (t:Nat):Jk X pins σ H { s with toks:=t }:=I.un (h':=s.heap) (t':=t) Un.refl I.hok
theorem Jk.kept {t':Nat} (I:Jk X pins σ H s) (k:∀ b u,s.heap.get? b=some u→h'.get? b=some u):Jk X pins σ H { s with heap:=h',toks:=t' }:=I.un (Un.kept k) (I.hok.kept k)
theorem Jk.laid {a:Addr} {o:HO} {t':Nat} (I:Jk X pins σ H s) (k:∀ b u,s.heap.get? b=some u→h'.get? b=some u) (hp:s.heap.objs.size≤a) (new:Yd X.prog X.w (upd H a o) h' a o) :
  Jk X pins σ (upd H a o) { s with heap:=h',toks:=t' }:=I.un (Un.laid k hp (I.hok.fresh hp)) (I.hok.laid k hp new)
theorem Jk.write {x e:Addr} {o:HO} {t':Nat} (I:Jk X pins σ H s) (mu:Mut (H x)) (he:e=x∨H e=some (.own x)) (k:∀ b u,b≠e→s.heap.get? b=some u→h'.get? b=some u) (heo:∃ u,h'.get? e=some u)
  (new:Yd X.prog X.w (upd H x o) h' x o):Jk X pins σ (upd H x o) { s with heap:=h',toks:=t' }:=I.un (Un.write mu he k heo) (I.hok.write mu he k heo new)
theorem Jk.weak {σ':List (Option V)} (I:Jk X pins σ H s) (hl:σ'.length=σ.length) (w:∀ (i:Nat) v,σ'[i]?=some (some v)→σ[i]?=some (some v)):Jk X pins σ' H s :=
 ⟨I.ok,I.os,I.bare,I.base,let ⟨m,hn,hl'⟩:=I.loc; ⟨m,hn,fun i x v e1 e2 e3=>hl' i x v e1 (w i v e2) e3⟩,I.cell,I.free,I.freeC,I.pin,I.hok,hl.trans I.len⟩
theorem Jk.pins_of {pins':List (Addr×Obj)} (I:Jk X pins σ H s) (h:∀ p∈pins',s.heap.get? p.1=some p.2∧H p.1=none∧p.1≠X.env.locals∧p.1∉X.fs∧∀ v,p.2.data≠.cell v):Jk X pins' σ H s :=
 ⟨I.ok,I.os,I.bare,I.base,I.loc,I.cell,I.free,I.freeC,fun p hp=>(List.mem_append.mp hp).elim (fun z=>I.pin p (List.mem_append_left _ z)) (h p),I.hok,I.len⟩
theorem JiV {N:List Str} (hN:N.Nodup) {i j:Nat} {x:Str} (a:N[i]?=some x) (b:N[j]?=some x):i=j:=by
 obtain ⟨h1,e1⟩:=List.getElem?_eq_some_iff.mp a;obtain ⟨h2,e2⟩:=List.getElem?_eq_some_iff.mp b;exact (List.getElem_inj hN).mp (e1.trans e2.symm)
theorem Jhr {M:Model} {A:Around} {E:Value→Shared→Prop} {i:Nat} {x:Str} {v:V} {u:Value} {Q:Unit→Shared→Prop} (I:Jk X pins σ H s) (hN:X.N.Nodup) (hi:X.N[i]?=some x) (hx:Loc X.env.scope x) (r:JF v u)
  (h:∀ s',Jk X pins (σ.set i (some v)) H s'→(∃ a,Heap.SameBut a s.heap s'.heap∧(a=X.env.locals∨X.env.cells.lookup x=some a))→Q () s') (hf:X.fn x=true∨X.env.scope.names.lookup x=some .local:=by first | exact .inl rfl | exact .inr rfl | assumption):wpAny M A (storeName X.env x u) Q E s:=by
 obtain ⟨m,hn,hl⟩:=id I.loc;have hcls:(X.env.scope.kind == .class || (X.env.scope.kind == .module && X.env.locals != X.env.globals))=false:=by rw [I.ok.kind]; rfl
 have hiσ:i < σ.length:=by rw [I.len]; exact (List.getElem?_eq_some_iff.mp hi).1
 have cne:=I.cne;have tracked:∀ {a:Addr} {h':Heap},(∃ o,s.heap.get? a=some o∧H a=none)→Heap.SameBut a s.heap h'→Zn X.prog X.w H h':=fun {a h'} ha hs b ob e=>by
  obtain ⟨_,_,hfree⟩:=ha;refine (I.hok b ob e).stay (fun c w' hc q=>(hs.2 c ?_).trans q) (fun _ q=>q) fun _ _ q=>q
  rintro rfl;rcases hc with rfl | hc
  ·rw [hfree] at e; cases e
  ·rw [hfree] at hc; cases hc
 rcases hx with hk | hk
 ·refine wpAny_storeName_local hk hn (fun h' hn' hs=>?_) hcls;obtain ⟨oL,_,_,hoL,_⟩:=id hn;refine h _ ⟨I.ok,I.os,I.bare,⟨fun b o e n hb hx=>?_,fun b o e n hb hx=>?_,I.base.free,fun b o e hx=>?_,I.base.tups,I.base.frzs,I.base.tbls⟩,⟨_,hn',fun j y v' e1 e2 e3=>?_⟩,fun y c e=>?_,I.free,I.freeC,fun p hp=>?_,tracked ⟨oL,hoL,I.free⟩ hs,by simpa using I.len⟩ ⟨_,hs,.inl rfl⟩
  ·exact (hs.2 b (Nat.ne_of_lt (Nat.lt_of_lt_of_le (Heap.lt_size e) I.ok.above))).trans (I.base.keep b o e n hb hx)
  ·obtain ⟨sl,e1⟩:=I.base.slot b o e n hb hx;exact ⟨sl,(hs.2 b (Nat.ne_of_lt (Nat.lt_of_lt_of_le (Heap.lt_size e) I.ok.above))).trans e1⟩
  ·obtain ⟨o',e1⟩:=I.base.there b o e hx;exact ⟨o',(hs.2 b (Nat.ne_of_lt (Nat.lt_of_lt_of_le (Heap.lt_size e) I.ok.above))).trans e1⟩
  ·by_cases hj:j=i
   ·subst hj;rw [hi] at e1; cases e1;rw [List.getElem?_set_self hiσ] at e2;cases e2;exact ⟨u,r,.inl ⟨hk,by simp⟩⟩
   ·rw [List.getElem?_set_ne (Ne.symm hj)] at e2;obtain ⟨u',r',q⟩:=hl j y v' e1 e2 e3;refine ⟨u',r',?_⟩;rcases q with ⟨k,e⟩ | ⟨k,c,e,z⟩
    ·refine .inl ⟨k,?_⟩;have:y≠x:=fun e=>hj (JiV hN e1 (e ▸ hi))
     simp [this,e]
    ·exact .inr ⟨k,c,e,z.sameBut hs (cne y c e)⟩
  ·obtain ⟨w',z⟩:=I.cell y c e;exact ⟨w',z.sameBut hs (cne y c e)⟩
  ·obtain ⟨e,n,ne,nf,d⟩:=I.pin p hp;exact ⟨(hs.2 p.1 ne).trans e,n,ne,nf,d⟩
 ·have hfn:X.fn x=true:=by
   rcases hf with z | z
   ·exact z
   ·rw [z] at hk; cases hk
  obtain ⟨c,hc⟩:=I.ok.has x (.inl hk);obtain ⟨w',z⟩:=I.cell x c hc;refine wpAny_storeName_cell I.ok.kind hk hc z (fun h' hc' hs=>?_);obtain ⟨oc,hoc,hocd⟩:=id z;refine h { s with heap:=h' } ⟨I.ok,I.os,I.bare,⟨fun b o e n hb hx=>?_,fun b o e n hb hx=>?_,I.base.free,fun b o e hx=>?_,I.base.tups,I.base.frzs,I.base.tbls⟩,⟨m,hn.sameBut hs (Ne.symm (cne x c hc)),fun j y v' e1 e2 e3=>?_⟩,fun y c' e=>?_,I.free,I.freeC,fun p hp=>?_,tracked ⟨oc,hoc,I.freeC x c hc⟩ hs,by simpa using I.len⟩ ⟨c,hs,.inr hc⟩
  ·exact (hs.2 b (Nat.ne_of_lt (Nat.lt_of_lt_of_le (Heap.lt_size e) (I.ok.cab x c hfn hc)))).trans (I.base.keep b o e n hb hx)
  ·obtain ⟨sl,e1⟩:=I.base.slot b o e n hb hx;exact ⟨sl,(hs.2 b (Nat.ne_of_lt (Nat.lt_of_lt_of_le (Heap.lt_size e) (I.ok.cab x c hfn hc)))).trans e1⟩
  ·obtain ⟨o',e1⟩:=I.base.there b o e hx;exact ⟨o',(hs.2 b (Nat.ne_of_lt (Nat.lt_of_lt_of_le (Heap.lt_size e) (I.ok.cab x c hfn hc)))).trans e1⟩
  ·by_cases hj:j=i
   ·subst hj;rw [hi] at e1; cases e1;rw [List.getElem?_set_self hiσ] at e2;cases e2;exact ⟨u,r,.inr ⟨.inl hk,c,hc,hc'⟩⟩
   ·rw [List.getElem?_set_ne (Ne.symm hj)] at e2;obtain ⟨u',r',q⟩:=hl j y v' e1 e2 e3;refine ⟨u',r',?_⟩;rcases q with q | ⟨k,c',e,z'⟩
    ·exact .inl q
    ·refine .inr ⟨k,c',e,z'.sameBut hs ?_⟩;rintro rfl;exact hj (JiV hN e1 (I.ok.inj _ _ _ e hc ▸ hi))
  ·by_cases hcc:c'=c
   ·subst hcc; exact ⟨_,hc'⟩
   ·obtain ⟨w2,z2⟩:=I.cell y c' e;exact ⟨w2,z2.sameBut hs hcc⟩
  ·obtain ⟨e,n,ne,nf,d⟩:=I.pin p hp;refine ⟨(hs.2 p.1 ?_).trans e,n,ne,nf,d⟩;intro q;rw [q,hoc] at e;have q':oc=p.2:=Option.some.inj e;exact d w' (by rw [← q']; exact hocd)
theorem Jim {M:Model} {A:Around} {E:Value→Shared→Prop} {i:Nat} {x:Str} {v:V} {u:Value} {Q:Unit→Shared→Prop} (I:Jk X pins σ H s) (hN:X.N.Nodup) (hi:X.N[i]?=some x) (hx:Loc X.env.scope x) (r:JF v u)
  (h:∀ s',Jk X pins (σ.set i (some v)) H s'→Q () s') (hf:X.fn x=true∨X.env.scope.names.lookup x=some .local:=by first | exact .inl rfl | exact .inr rfl | assumption):wpAny M A (storeName X.env x u) Q E s :=
 Jhr I hN hi hx r (fun s' I' _=>h s' I') hf
theorem Jk.call' {s':Shared} {ch:List Addr} (I:Jk X pins σ H s) (ho:s'.os=s.os) (u:Un (Zm X.stack) ch H H' s.heap s'.heap) (hok:Zn X.prog X.w H' s'.heap) (hg:AllBare s'.gens)
  (hch:∀ b∈ch,(b∈X.ex∨X.s₀.heap.objs.size≤b)∧b≠X.env.locals∧(∀ x c,X.env.cells.lookup x=some c→c≠b)∧∀ p∈X.pn ++ pins,p.1≠b):Jk X pins σ H' s':=by
 obtain ⟨h',g',d',t',o'⟩:=s';have e:o'=s.os:=ho;subst e;exact I.call (g':=g') (t':=t') (d':=d') u hok hg hch
end
abbrev XK:=Value→Option Addr→Hp→Prop
abbrev St:=List (Option V)
abbrev VK:=V→Hp→Prop
abbrev TE:=St→Hp→VK→Prop
abbrev TT:=St→Hp→(Bool→Hp→Prop)→Prop
abbrev TA:=St→Hp→(List V→Hp→Prop)→Prop
structure JeM where
 nx:St→Hp→Prop
 rt:VK
 bk:St→Hp→Prop:=fun _ _=>False
 ct:St→Hp→Prop:=fun _ _=>False
abbrev TS:=JeM→St→Hp→Prop
def EP (X:Cx) (pins:List (Addr×Obj)) (σ:St) (Q:VK) (u:Value) (s':Shared):Prop:=∃ v H',Jk X pins σ H' s'∧JF v u∧Q v H'
def TP (X:Cx) (pins:List (Addr×Obj)) (σ:St) (Q:Bool→Hp→Prop) (b:Bool) (s':Shared):Prop:=∃ H',Jk X pins σ H' s'∧Q b H'
def AP (X:Cx) (pins:List (Addr×Obj)) (σ:St) (Q:List V→Hp→Prop) (us:List Value) (s':Shared):Prop:=∃ vs H',Jk X pins σ H' s'∧Jz vs us∧Q vs H'
def SP (X:Cx) (pins:List (Addr×Obj)) (D:JeM) (f:Flow) (s':Shared):Prop :=
 match f with
 | .next=>∃ σ' H',Jk X pins σ' H' s'∧D.nx σ' H'
 | .brk=>∃ σ' H',Jk X pins σ' H' s'∧D.bk σ' H'
 | .cont=>∃ σ' H',Jk X pins σ' H' s'∧D.ct σ' H'
 | .ret u=>∃ v σ' H',Jk X pins σ' H' s'∧JF v u∧D.rt v H'
def PE (X:Cx) (e:Expr) (t:TE):Prop :=
 ∀ (pins:List (Addr×Obj)) (s:Shared) (σ:St) (H:Hp) (Q:VK),Jk X pins σ H s→t σ H Q→wpAny (model X.prog X.w) X.A (eval e X.env) (EP X pins σ Q) X.xe s
def PT (X:Cx) (e:Expr) (t:TT):Prop :=
 ∀ (pins:List (Addr×Obj)) (s:Shared) (σ:St) (H:Hp) (Q:Bool→Hp→Prop),Jk X pins σ H s→t σ H Q→wpAny (model X.prog X.w) X.A (isTrue e X.env (eval e X.env)) (TP X pins σ Q) X.xe s
def PW (X:Cx) (e:Expr) (t:TT):Prop :=
 ∀ (whole:Sem Value) (pins:List (Addr×Obj)) (s:Shared) (σ:St) (H:Hp) (Q:Bool→Hp→Prop),Jk X pins σ H s→t σ H Q→wpAny (model X.prog X.w) X.A (isTrue e X.env whole) (TP X pins σ Q) X.xe s
theorem PW.pt {X:Cx} {e:Expr} {t:TT} (h:PW X e t):PT X e t:=h _
def PA (X:Cx) (es:List Expr) (t:TA):Prop :=
 ∀ (pos:Pos) (pins:List (Addr×Obj)) (s:Shared) (σ:St) (H:Hp) (Q:List V→Hp→Prop),Jk X pins σ H s→t σ H Q→wpAny (model X.prog X.w) X.A (spliced (backTo pos (starEach es X.env))) (AP X pins σ Q) X.xe s
def PS (X:Cx) (st:Stmt) (t:TS):Prop :=
 ∀ (pins:List (Addr×Obj)) (s:Shared) (σ:St) (H:Hp) (D:JeM),Jk X pins σ H s→t D σ H→wpAny (model X.prog X.w) X.A (exec st X.env) (SP X pins D) X.xe s
def PSs (X:Cx) (st:List Stmt) (t:TS):Prop :=
 ∀ (pins:List (Addr×Obj)) (s:Shared) (σ:St) (H:Hp) (D:JeM),Jk X pins σ H s→t D σ H→wpAny (model X.prog X.w) X.A (execs st X.env) (SP X pins D) X.xe s
theorem JH {α:Type} {t:Sem α} {Q Q':α→Shared→Prop} {M:Model} {A:Around} {E:Value→Shared→Prop} {s:Shared} (h:wpAny M A t Q E s) (hQ:∀ a s,Q a s→Q' a s):wpAny M A t Q' E s:=wpAny_mono h hQ fun _ _ x=>x
end L2
namespace L2
open PySem PySem.Spec PyProof.Rows
section
variable {X:Cx}
def Jkf (i:Nat):TE:=fun σ H Q=>∃ v,σ[i]?=some (some v)∧Q v H
def tC (v:V):TE:=fun _ H Q=>Q v H
theorem JiI {i:Nat} {x:Str} {pos:Pos} (hN:X.N[i]?=some x) (hv:Vis X.env.scope x) (hd:(x == ("__debug__" : Str))=false:=by decide) (hcd:(x == ("__classdict__" : Str))=false:=by decide):PE X (.Name x pos) (Jkf i):=by
 intro pins s σ H Q I h;obtain ⟨v,e,h⟩:=h;obtain ⟨m,hn,hl⟩:=I.loc;obtain ⟨u,r,l⟩:=hl i x v hN e hv;have fin:EP X pins σ Q u s:=⟨v,H,I,r,h⟩
 rcases l with ⟨hk,hm⟩ | ⟨hk,c,hc,hcell⟩
 ·exact wpAny_Name (wpAny_loadName_local I.ok.kind hk hn hm fin) hd
 ·rcases hk with hk | hk
  ·exact wpAny_Name (wpAny_loadName_cell I.ok.kind hk hc hcell fin) hd
  ·exact wpAny_Name (wpAny_loadName_free I.ok.kind hk hc hcell fin hcd) hd
theorem Jc {i j pos}:PE X (.Constant (.int i) j pos) (tC (.int i)):=fun _ _ _ H _ I h=>wpAny_Constant_int ⟨.int i,H,I.tok _,⟨_,rfl⟩,h⟩
theorem JdV {b j pos}:PE X (.Constant (.bool b) j pos) (tC (.bl b)):=fun _ _ _ H _ I h=>Constant_bool ⟨.bl b,H,I,rfl,h⟩
theorem Jb0 {j pos}:PE X (.Constant .none j pos) (tC .non):=fun _ _ _ H _ I h=>Constant_none ⟨.non,H,I,rfl,h⟩
theorem JR {x j pos}:PE X (.Constant (.str x) j pos) (tC (.str x)):=fun _ _ _ H _ I h=>Calls.Constant_str ⟨.str x,H,I.tok _,⟨_,rfl⟩,h⟩
def Gl (X:Cx) (x:Str):Prop:=X.env.kindOf x=some .globalImplicit
theorem Je3 {E:Value→Shared→Prop} {pins:List (Addr×Obj)} {s:Shared} {σ:St} {H:Hp} {x:Str} {u:Value} {pos:Pos} {Q:Value→Shared→Prop} (I:Jk X pins σ H s) (hg:Gl X x) (hm:X.mg x=some u) (h:Q u s)
  (hd:(x == ("__debug__" : Str))=false:=by decide):wpAny (model X.prog X.w) X.A (eval (.Name x pos) X.env) Q E s :=
 Calls.Name_function_global I.ok.kind hg (Calls.loadGlobal_global (by rw [I.ok.glob]; exact I.mod.glob.keeps I.bk) hm h) hd
theorem JcU {E:Value→Shared→Prop} {pins:List (Addr×Obj)} {s:Shared} {σ:St} {H:Hp} {x:Str} {u:Value} {pos:Pos} {Q:Value→Shared→Prop} (I:Jk X pins σ H s) (hg:Gl X x) (hm:X.mg x=none) (hv:bootBuiltins x=some u) (h:Q u s)
  (hn:x ≠ "__name__":=by decide) (hd:(x == ("__debug__" : Str))=false:=by decide):wpAny (model X.prog X.w) X.A (eval (.Name x pos) X.env) Q E s:=by
 obtain ⟨mb,h1,h2⟩:=I.mod.blt;exact Calls.Name_function_global I.ok.kind hg (Calls.loadGlobal_builtin (by rw [I.ok.glob]; exact I.mod.glob.keeps I.bk) hm (by rw [I.ok.blt]; exact h1.keeps I.bk) ((h2 x hn).trans hv) h) hd
theorem JaD {x:Str} {v:V} {u:Value} {pos:Pos} (hg:Gl X x) (hm:X.mg x=some u) (r:JF v u) (hd:(x == ("__debug__" : Str))=false:=by decide):PE X (.Name x pos) (tC v) :=
 fun _ _ _ H _ I h=>Je3 I hg hm ⟨v,H,I,r,h⟩ hd
theorem Jop {x:Str} {v:V} {u:Value} {pos:Pos} (hg:Gl X x) (hm:X.mg x=none) (hv:bootBuiltins x=some u) (r:JF v u) (hn:x ≠ "__name__":=by decide) (hd:(x == ("__debug__" : Str))=false:=by decide):PE X (.Name x pos) (tC v) :=
 fun _ _ _ H _ I h=>JcU I hg hm hv ⟨v,H,I,r,h⟩ hn hd
variable {a b:Expr} {ta tb:TE} {pos:Pos}
def PC (X:Cx) (op:CmpOp) (a b:Expr) (t:TE):Prop :=
 ∀ (pins:List (Addr×Obj)) (s:Shared) (σ:St) (H:Hp) (Q:VK),Jk X pins σ H s→t σ H Q →
  wpAny (model X.prog X.w) X.A (eval a X.env) (fun v s₁=>wpAny (model X.prog X.w) X.A (eval b X.env) (fun u s₂=>wpAny (model X.prog X.w) X.A (compareOp op v u) (EP X pins σ Q) X.xe s₂) X.xe s₁) X.xe s
theorem ZE (b:Expr) {op:CmpOp} (h:op≠.In) (h2:op≠.NotIn):behindInMarks op b=false:=by
 have e1:(op == CmpOp.In)=false:=by cases op <;> first | rfl | exact absurd rfl h
 have e2:(op == CmpOp.NotIn)=false:=by cases op <;> first | rfl | exact absurd rfl h2
 cases b <;> simp [behindInMarks,e1,e2]
def Jqz (ta:TE):TE:=fun σ H Q=>ta σ H fun x H1=>Q (.bl (decide (x=.non))) H1
def JpK (ta:TE):TE:=fun σ H Q=>ta σ H fun x H1=>Q (.bl (!decide (x=.non))) H1
theorem JF.none_iff {x:V} {v:Value} (r:JF x v):(v == Value.none)=decide (x=.non):=by
 cases x with
 | non=>cases r; rfl
 | bl _=>cases r; rfl
 | int _=>obtain ⟨t,rfl⟩:=r; rfl
 | str _=>obtain ⟨t,rfl⟩:=r; rfl
 | byt _=>obtain ⟨t,rfl⟩:=r; rfl
 | flt _=>obtain ⟨t,rfl⟩:=r; rfl
 | ref _=>cases r; rfl
 | ty _=>cases r; rfl
theorem Jlv {j pos'} (ha:PE X a ta):PC X .Is a (.Constant .none j pos') (Jqz ta):=by
 intro pins s σ H Q I h;refine JH (ha pins s σ H _ I h) fun v s1 ⟨x,H1,I1,r1,q1⟩=>?_
 exact Constant_none (is_none_gen ⟨.bl _,H1,I1,by rw [r1.none_iff]; rfl,q1⟩)
theorem JdD {j pos'} (ha:PE X a ta):PC X .IsNot a (.Constant .none j pos') (JpK ta):=by
 intro pins s σ H Q I h;refine JH (ha pins s σ H _ I h) fun v s1 ⟨x,H1,I1,r1,q1⟩=>?_
 exact Constant_none (isnot_none_gen ⟨.bl _,H1,I1,by rw [r1.none_iff]; rfl,q1⟩)
def tB (t:TE):TT:=fun σ H Q=>t σ H fun x H1=>∃ c,x=.bl c∧Q c H1
theorem Jlu {op:CmpOp} {t:TE} (h:PC X op a b t) (h1:behindInMarks op b=false:=by first | exact ZE _ (by decide) (by decide) | rfl):PE X (.Compare a [op] [b] pos) t:=fun pins s σ H Q I hw=>wpAny_Compare1 (h pins s σ H Q I hw) h1
theorem JdB {op:CmpOp} {t:TE} (h:PC X op a b t) (h1:behindInMarks op b=false:=by first | exact ZE _ (by decide) (by decide) | rfl):PT X (.Compare a [op] [b] pos) (tB t):=by
 intro pins s σ H Q I hw;refine wpAny_isTrue_Compare1 (JH (h pins s σ H _ I hw) fun v s1 h1=>JH h1 fun u s2 h2=>JH h2 fun c s3 ⟨x,H1,I1,r1,q1⟩=>?_) h1;obtain ⟨d,rfl,q⟩:=q1;cases r1;exact wpAny_truthy_bool ⟨H1,I1,q⟩
theorem JbZ {e:Expr} {t:TE} (h:PE X e t) (he:∀ whole,isTrue e X.env whole=(do let v ← whole; standAt e.pos; holding [v] (truthy v)):=by intro _; rfl):PT X e (tB t):=by
 intro pins s σ H Q I hw;refine isTrue_plain (JH (h pins s σ H _ I hw) fun v s1 ⟨x,H1,I1,r1,q1⟩=>?_) (he _);obtain ⟨d,rfl,q⟩:=q1;cases r1;exact wpAny_truthy_bool ⟨H1,I1,q⟩
variable {tA tB':TT} {rest:List Expr}
def JqD (t u:TT):TT:=fun σ H Q=>t σ H fun c H1=>if c=true then u σ H1 Q else Q false H1
def tOr (t u:TT):TT:=fun σ H Q=>t σ H fun c H1=>if c=true then Q true H1 else u σ H1 Q
def Jqv (t:TT):TT:=fun σ H Q=>t σ H fun c H1=>Q (!c) H1
theorem JjL (ha:PT X a tA):PW X (.BoolOp .And [a] pos) tA:=by
 intro wh pins s σ H Q I h;refine isTrue_and (JH (ha pins s σ H Q I h) fun c s1 e=>?_);cases c with
 | true=>exact isTrue_and_nil e
 | false=>exact e
theorem Jar (ha:PT X a tA):PW X (.BoolOp .Or [a] pos) tA:=by
 intro wh pins s σ H Q I h;refine isTrue_or (JH (ha pins s σ H Q I h) fun c s1 e=>?_);cases c with
 | false=>exact isTrue_or_nil e
 | true=>exact e
theorem Jlq (ha:PT X a tA) (hb:PW X (.BoolOp .And (b :: rest) pos) tB'):PW X (.BoolOp .And (a :: b :: rest) pos) (JqD tA tB'):=by
 intro wh pins s σ H Q I h;refine isTrue_and (JH (ha pins s σ H _ I h) fun c s1 ⟨H1,I1,q1⟩=>?_);cases c with
 | true=>exact hb wh pins s1 σ H1 Q I1 q1
 | false=>exact ⟨H1,I1,q1⟩
theorem ZQ (ha:PT X a tA) (hb:PW X (.BoolOp .Or (b :: rest) pos) tB'):PW X (.BoolOp .Or (a :: b :: rest) pos) (tOr tA tB'):=by
 intro wh pins s σ H Q I h;refine isTrue_or (JH (ha pins s σ H _ I h) fun c s1 ⟨H1,I1,q1⟩=>?_);cases c with
 | true=>exact ⟨H1,I1,q1⟩
 | false=>exact hb wh pins s1 σ H1 Q I1 q1
theorem JdA (ha:PT X a tA):PT X (.UnaryOp .Not a pos) (Jqv tA):=by
 intro pins s σ H Q I h;exact isTrue_not (ha pins s σ H (fun c H1=>Q (!c) H1) I h)
def JpT (ta tb:TE):TE:=fun σ H Q=>ta σ H fun x H1=>∃ c,x=.bl c∧if c=true then tb σ H1 Q else Q (.bl false) H1
def Jqu (ta tb:TE):TE:=fun σ H Q=>ta σ H fun x H1=>∃ c,x=.bl c∧if c=true then Q (.bl true) H1 else tb σ H1 Q
def JpJ (ta:TE):TE:=fun σ H Q=>ta σ H fun x H1=>∃ c,x=.bl c∧Q (.bl (!c)) H1
theorem JiK {op} {t:TE} (h:PE X a t):PE X (.BoolOp op [a] pos) t:=fun pins s σ H Q I hw=>BoolOp_one (h pins s σ H Q I hw)
theorem JiL (ha:PE X a ta) (hb:PE X (.BoolOp .And (b :: rest) pos) tb):PE X (.BoolOp .And (a :: b :: rest) pos) (JpT ta tb):=by
 intro pins s σ H Q I h;refine BoolOp_and (JH (ha pins s σ H _ I h) fun v s1 ⟨x,H1,I1,r1,q1⟩=>?_);obtain ⟨c,rfl,q1⟩:=q1;cases r1;refine wpAny_truthy_bool ?_;cases c with
 | true=>exact hb pins s1 σ H1 Q I1 q1
 | false=>exact ⟨.bl false,H1,I1,rfl,q1⟩
theorem Jp2 (ha:PE X a ta) (hb:PE X (.BoolOp .Or (b :: rest) pos) tb):PE X (.BoolOp .Or (a :: b :: rest) pos) (Jqu ta tb):=by
 intro pins s σ H Q I h;refine BoolOp_or (JH (ha pins s σ H _ I h) fun v s1 ⟨x,H1,I1,r1,q1⟩=>?_);obtain ⟨c,rfl,q1⟩:=q1;cases r1;refine wpAny_truthy_bool ?_;cases c with
 | false=>exact hb pins s1 σ H1 Q I1 q1
 | true=>exact ⟨.bl true,H1,I1,rfl,q1⟩
theorem Jpg (ha:PE X a ta):PE X (.UnaryOp .Not a pos) (JpJ ta):=by
 intro pins s σ H Q I h;refine UnaryOp_ (JH (ha pins s σ H _ I h) fun v s1 ⟨x,H1,I1,r1,q1⟩=>?_);obtain ⟨c,rfl,q1⟩:=q1;cases r1;exact not_of (wpAny_truthy_bool ⟨.bl (!c),H1,I1,rfl,q1⟩)
def tIf (t:TT) (ta tb:TE):TE:=fun σ H Q=>t σ H fun c H1=>if c=true then ta σ H1 Q else tb σ H1 Q
theorem JdU {c:Expr} (hc:PT X c tA) (ha:PE X a ta) (hb:PE X b tb):PE X (.IfExp c a b pos) (tIf tA ta tb):=by
 intro pins s σ H Q I h;refine wpAny_IfExp (JH (hc pins s σ H _ I h) fun d s1 ⟨H1,I1,q1⟩=>?_);cases d with
 | true=>exact ha pins s1 σ H1 Q I1 q1
 | false=>exact hb pins s1 σ H1 Q I1 q1
end
end L2
namespace L2
open PySem PySem.Spec PyProof.Rows
def Js (K:PySem.W.Frag) (H:Hp) (a:Addr) (xs:List V):Prop :=
 Rd H a (.lst xs) ∨
  ∃ (o:Obj) (its:Array Value) (n:Nat),K.lookup a=some o∧o.cls=.type "list"∧o.dict=none∧o.data=.seq its n∧its.size≤sizeLine∧Jz xs its.toList
def JK (K:PySem.W.Frag) (H:Hp) (a:Addr) (xs:List V):Prop :=
 Rd H a (.tup xs) ∨
  ∃ (o:Obj) (its:Array Value) (n:Nat),K.lookup a=some o∧o.cls=.type "tuple"∧o.data=.seq its n∧its.size≤sizeLine∧Jz xs its.toList
def JqN:Value→Option V
 | .none=>some .non
 | .bool b=>some (.bl b)
 | .int i _=>some (.int i)
 | .str x _=>some (.str x)
 | .bytes b _=>some (.byt b)
 | .float b _=>some (.flt b)
 | .ref a=>some (.ref a)
 | .type n=>some (.ty n)
 | _=>none
theorem JF.abs {x:V} {u:Value} (r:JF x u):JqN u=some x:=by
 cases x with
 | non=>cases r; rfl
 | bl _=>cases r; rfl
 | int _=>obtain ⟨t,rfl⟩:=r; rfl
 | str _=>obtain ⟨t,rfl⟩:=r; rfl
 | byt _=>obtain ⟨t,rfl⟩:=r; rfl
 | flt _=>obtain ⟨t,rfl⟩:=r; rfl
 | ref _=>cases r; rfl
 | ty _=>cases r; rfl
theorem JF.inj {x y:V} {u:Value} (r:JF x u) (q:JF y u):x=y:=Option.some.inj (r.abs.symm.trans q.abs)
theorem Jz.inj:∀ {xs ys:List V} {us:List Value},Jz xs us→Jz ys us→xs=ys
 | _,_,_,.nil,.nil=>rfl
 | _,_,_,.cons r t,.cons r' t'=>by rw [r.inj r',Jz.inj t t']
section
variable {X:Cx} {pins:List (Addr×Obj)} {σ:St} {H:Hp} {s:Shared} {a:Addr} {xs ys:List V}
theorem Js.of {K:PySem.W.Frag} (h:H a=some (.lst xs)):Js K H a xs:=.inl (.inl h)
theorem JK.of {K:PySem.W.Frag} (h:H a=some (.tup xs)):JK K H a xs:=.inl (.inl h)
theorem Jk.list (I:Jk X pins σ H s) (h:Js X.K H a xs):∃ its:List Value,Jz xs its∧PlainL s.heap a its.toArray∧xs.length≤sizeLine:=by
 rcases h with h | ⟨o,its,n,hk,hc,hd,hs,hz,r⟩
 ·obtain ⟨z,its,n,r,e⟩:=h.ok I.hok;exact ⟨its,r,⟨_,n,e,rfl,rfl,rfl⟩,z⟩
 ·refine ⟨its.toList,r,⟨o,n,I.kIn a o hk,hc,hd,by simpa using hs⟩,?_⟩;have e:=r.length;simp only [Array.length_toList] at e;omega
theorem Jk.tuple (I:Jk X pins σ H s) (h:JK X.K H a xs):∃ its:List Value,Jz xs its∧IsTup s.heap a its.toArray∧xs.length≤sizeLine:=by
 rcases h with h | ⟨o,its,n,hk,hc,hs,hz,r⟩
 ·obtain ⟨z,its,r,p⟩:=h.ok I.hok;exact ⟨its,r,p,z⟩
 ·refine ⟨its.toList,r,⟨o,I.kIn a o hk,hc,n,by simpa using hs⟩,?_⟩;have e:=r.length;simp only [Array.length_toList] at e;omega
theorem Jk.list_inj (I:Jk X pins σ H s) (h:Js X.K H a xs) (h':Js X.K H a ys):xs=ys:=by
 obtain ⟨its,r,⟨o,n,e,_,_,d⟩,_⟩:=I.list h;obtain ⟨its',r',⟨o',n',e',_,_,d'⟩,_⟩:=I.list h';rw [e] at e'; cases e';rw [d] at d';injection d' with d1 _;have:its=its':=by simpa using congrArg Array.toList d1
 subst this;exact r.inj r'
theorem Jk.tuple_inj (I:Jk X pins σ H s) (h:JK X.K H a xs) (h':JK X.K H a ys):xs=ys:=by
 obtain ⟨its,r,⟨o,e,_,n,d⟩,_⟩:=I.tuple h;obtain ⟨its',r',⟨o',e',_,n',d'⟩,_⟩:=I.tuple h';rw [e] at e'; cases e';rw [d] at d';injection d' with d1 _;have:its=its':=by simpa using congrArg Array.toList d1
 subst this;exact r.inj r'
end
abbrev Cx.wish (X:Cx) (E:Value→Shared→Prop):Cx:={ X with xe:=E }
abbrev Cx.nox (X:Cx):Cx:=X.wish fun _ _=>False
theorem Cx.Ok.wish {X:Cx} (ok:X.Ok) (E:Value→Shared→Prop):(X.wish E).Ok :=
 ⟨ok.mod,ok.kind,ok.glob,ok.blt,ok.above,ok.inj,ok.has,ok.cab,ok.hd,ok.frames,ok.stk,ok.exf,ok.bs,ok.bsz,ok.noex,ok.exfs,ok.funs,ok.frf⟩
theorem Cx.Ok.unwish {X:Cx} {E:Value→Shared→Prop} (ok:(X.wish E).Ok):X.Ok :=
 ⟨ok.mod,ok.kind,ok.glob,ok.blt,ok.above,ok.inj,ok.has,ok.cab,ok.hd,ok.frames,ok.stk,ok.exf,ok.bs,ok.bsz,ok.noex,ok.exfs,ok.funs,ok.frf⟩
section
variable {X:Cx} {pins:List (Addr×Obj)} {σ:St} {H:Hp} {s:Shared} {E:Value→Shared→Prop}
theorem Jk.wish (I:Jk X pins σ H s) (E:Value→Shared→Prop):Jk (X.wish E) pins σ H s:=⟨I.ok.wish E,I.os,I.bare,I.base,I.loc,I.cell,I.free,I.freeC,I.pin,I.hok,I.len⟩
theorem Jk.unwish (I:Jk (X.wish E) pins σ H s):Jk X pins σ H s:=⟨I.ok.unwish,I.os,I.bare,I.base,I.loc,I.cell,I.free,I.freeC,I.pin,I.hok,I.len⟩
theorem SP.unwish {D:JeM} {f:Flow} {s':Shared} (h:SP (X.wish E) pins D f s'):SP X pins D f s':=by
 cases f with
 | next=>obtain ⟨σ',H',I,q⟩:=h; exact ⟨σ',H',I.unwish,q⟩
 | brk=>obtain ⟨σ',H',I,q⟩:=h; exact ⟨σ',H',I.unwish,q⟩
 | cont=>obtain ⟨σ',H',I,q⟩:=h; exact ⟨σ',H',I.unwish,q⟩
 | ret u=>obtain ⟨v,σ',H',I,r,q⟩:=h; exact ⟨v,σ',H',I.unwish,r,q⟩
theorem PE.nox {e:Expr} {t:TE} (h:PE X.nox e t):PE X e t:=fun pins s σ H Q I hw =>
 wpAny_mono (h pins s σ H Q (I.wish _) hw) (fun _ _ ⟨v,H',I',r,q⟩=>⟨v,H',I'.unwish,r,q⟩) fun _ _ z=>False.elim z
theorem PT.nox {e:Expr} {t:TT} (h:PT X.nox e t):PT X e t:=fun pins s σ H Q I hw =>
 wpAny_mono (h pins s σ H Q (I.wish _) hw) (fun _ _ ⟨H',I',q⟩=>⟨H',I'.unwish,q⟩) fun _ _ z=>False.elim z
theorem PSs.nox {st:List Stmt} {t:TS} (h:PSs X.nox st t):PSs X st t:=fun pins s σ H D I hw =>
 wpAny_mono (h pins s σ H D (I.wish _) hw) (fun _ _ q=>q.unwish) fun _ _ z=>False.elim z
end
section
variable {X:Cx} {st:Stmt} {rest:List Stmt} {t u:TS} {e:Expr} {te:TE} {pos:Pos}
def JpL:TS:=fun D σ H=>D.nx σ H
def Jqs (t u:TS):TS:=fun D σ H=>@JeM.rec (fun _=>Prop) (fun nx rt bk ct=>t ⟨u ⟨nx,rt,bk,ct⟩,rt,bk,ct⟩ σ H) D
theorem Jw:PSs X [] JpL:=fun _ _ σ H _ I h=>wpAny_execs_nil ⟨σ,H,I,h⟩
theorem Jd (h1:PS X st t) (h2:PSs X rest u):PSs X (st :: rest) (Jqs t u):=by
 intro pins s σ H D I h;refine wpAny_execs_cons (JH (h1 pins s σ H { D with nx:=u D } I h) fun f s1 q=>?_);cases f with
 | next =>
  obtain ⟨σ',H',I',q⟩:=q;exact h2 pins s1 σ' H' D I' q
 | ret v=>exact q
 | brk=>exact q
 | cont=>exact q
theorem Jg (h1:PS X st t):PSs X [st] t:=by
 intro pins s σ H D I h;refine wpAny_execs_cons (JH (h1 pins s σ H D I h) fun f s1 q=>?_);cases f with
 | next=>exact wpAny_execs_nil q
 | ret v=>exact q
 | brk=>exact q
 | cont=>exact q
def JoW:TS:=fun D σ H=>D.bk σ H
theorem Jm4:PS X (.Break pos) JoW:=fun _ _ σ H _ I h=>wpAny_Break ⟨σ,H,I,h⟩
theorem Jk.quiet {pins:List (Addr×Obj)} {σ:St} {H:Hp} {s:Shared} (I:Jk X pins σ H s):interactive X.env=false:=by simp [interactive,I.ok.kind]
def JpP (te:TE):TS:=fun D σ H=>te σ H fun _ H1=>D.nx σ H1
theorem JG (he:PE X e te) (hs:swapsWith e none pos.line X.env=pure false:=by rfl):PS X (.Expr e pos) (JpP te):=by
 intro pins s σ H D I h;exact wpAny_Expr_any (JH (he pins s σ H _ I h) fun v s1 ⟨x,H1,I1,r1,q1⟩=>⟨σ,H1,I1,q1⟩) I.quiet hs
def Jqt (te:TE):TS:=fun D σ H=>te σ H D.rt
theorem Jt (he:PE X e te):PS X (.Return (some e) pos) (Jqt te):=by
 intro pins s σ H D I h;exact wpAny_Return_some (JH (he pins s σ H _ I h) fun v s1 ⟨x,H1,I1,r1,q1⟩=>⟨x,σ,H1,I1,r1,q1⟩)
def JqA (c:TT) (t u:TS):TS:=fun D σ H=>c σ H fun b H1=>if b=true then t D σ H1 else u D σ H1
theorem JL {c:Expr} {a b:List Stmt} {tc:TT} (hc:PT X c tc) (ha:PSs X a t) (hb:PSs X b u):PS X (.If c a b pos) (JqA tc t u):=by
 intro pins s σ H D I h;refine wpAny_If (JH (hc pins s σ H _ I h) fun d s1 ⟨H1,I1,q1⟩=>?_);cases d with
 | true=>exact ha pins s1 σ H1 D I1 q1
 | false=>exact hb pins s1 σ H1 D I1 q1
def JoS:TS:=fun _ _ _=>False
theorem JdT:PS X st JoS:=fun _ _ _ _ _ _ h=>h.elim
end
abbrev TG:=V→St→Hp→(St→Hp→Prop)→Prop
abbrev TGs:=List V→St→Hp→(St→Hp→Prop)→Prop
def PG (X:Cx) (target:Expr) (t:TG):Prop :=
 ∀ (pins:List (Addr×Obj)) (s:Shared) (σ:St) (H:Hp) (v:V) (u:Value) (Q:St→Hp→Prop),Jk X pins σ H s→JF v u→t v σ H Q →
  wpAny (model X.prog X.w) X.A (assign target X.env u) (fun _ s'=>∃ σ' H',Jk X pins σ' H' s'∧Q σ' H') X.xe s
def PGs (X:Cx) (ts:List Expr) (t:TGs):Prop :=
 ∀ (pins:List (Addr×Obj)) (s:Shared) (σ:St) (H:Hp) (vs:List V) (us:List Value) (Q:St→Hp→Prop),Jk X pins σ H s→Jz vs us→t vs σ H Q →
  wpAny (model X.prog X.w) X.A (assignInOrder ((assignEach ts X.env).map (·.2)) us) (fun _ s'=>∃ σ' H',Jk X pins σ' H' s'∧Q σ' H') X.xe s
abbrev Jnz:=V→V→V→Hp→(Hp→Prop)→Prop
def JpC (X:Cx) (t:Jnz):Prop :=
 ∀ (pins:List (Addr×Obj)) (s:Shared) (σ:St) (H:Hp) (o i v:V) (ov iv u:Value) (Q:Hp→Prop),Jk X pins σ H s→JF o ov→JF i iv→JF v u→t o i v H Q →
  wpAny (model X.prog X.w) X.A (setItem ov iv u) (fun _ s'=>∃ H',Jk X pins σ H' s'∧Q H') X.xe s
section
variable {X:Cx} {pos:Pos}
def Jaf (i:Nat):TG:=fun v σ H Q=>Q (σ.set i (some v)) H
theorem JV {i:Nat} {x:Str} (hN:X.N.Nodup) (hi:X.N[i]?=some x) (hx:Loc X.env.scope x) (hf:X.fn x=true∨X.env.scope.names.lookup x=some .local:=by first | exact .inl rfl | exact .inr rfl | assumption):PG X (.Name x pos) (Jaf i):=by
 intro pins s σ H v u Q I r h;exact wpAny_assign_Name (Jim I hN hi hx r (fun s' I'=>⟨_,H,I',h⟩) hf)
def Jpu:TGs:=fun vs σ H Q=>vs=[]∧Q σ H
def JkJ (t:TG) (u:TGs):TGs:=fun vs σ H Q=>∃ v r,vs=v :: r∧t v σ H fun σ' H'=>u r σ' H' Q
theorem Je0:PGs X [] Jpu:=by
 intro pins s σ H vs us Q I r h;obtain ⟨e,h⟩:=h;subst e;cases r;exact assignInOrder_nil ⟨σ,H,I,h⟩
theorem Y5 {e:Expr} {es:List Expr} {t:TG} {u:TGs} (h1:PG X e t) (h2:PGs X es u)
  (hs:(assignEach (e :: es) X.env).map (·.2)=assign e X.env :: (assignEach es X.env).map (·.2):=by rfl):PGs X (e :: es) (JkJ t u):=by
 intro pins s σ H vs us Q I r h;obtain ⟨v,vr,e1,h⟩:=h;subst e1;cases r with
 | cons r rr =>
  rw [hs];refine assignInOrder_cons (JH (h1 pins s σ H _ _ _ I r h) fun _ s1 ⟨σ1,H1,I1,q1⟩=>?_);exact h2 pins s1 σ1 H1 _ _ Q I1 rr q1
def JkI (K:PySem.W.Frag) (n:Nat) (t:TGs):TG:=fun v σ H Q=>∃ a xs,v=.ref a∧JK K H a xs∧xs.length=n∧t xs σ H Q
theorem Jgb {es:List Expr} {k:Nat} {t:TGs} {n:Nat} (hc:X.calm=true) (h:PGs X es t)
  (hn:(assignEach es X.env).length=n:=by rfl) (hst:(assignEach es X.env).findIdx? (·.1)=none:=by rfl):PG X (.Tuple es k pos) (JkI X.K n t):=by
 intro pins s σ H v u Q I r hw;obtain ⟨a,xs,e1,hq,hl,hw⟩:=hw;subst e1;cases r;obtain ⟨its,rv,ht,hz⟩:=I.tuple hq;refine assign_Tuple_tuple (I.ok.hd hc) ht (by simp [hn,← hl,rv.length]) hst fun h' hx=>?_
 have I1:Jk X pins σ H { s with heap:=h' }:=I.kept (t':=s.toks) fun b o e=>hx b o (Nat.ne_of_lt (Heap.lt_size e)) e
 exact h pins _ σ H xs _ Q I1 (by simpa using rv) hw
def JqM (to ti:TE) (t:Jnz):TG:=fun v σ H Q=>to σ H fun o H1=>ti σ H1 fun i H2=>t o i v H2 fun H3=>Q σ H3
theorem Jpf {o i:Expr} {to ti:TE} {t:Jnz} (ho:PE X o to) (hi:PE X i ti) (hs:JpC X t)
  (ha:∀ v,assign (.Subscript o i pos) X.env v=(do
   let ov ← holding [v] (eval o X.env);let iv ← holding [v,ov] (eval i X.env)
   standAt pos
   holding [v,ov,iv] (setItem ov iv v)
   release [v,ov,iv] []):=by intro _; rfl):PG X (.Subscript o i pos) (JqM to ti t):=by
 intro pins s σ H v u Q I r h;rw [ha];refine wpAny_bind (wpAny_holding (JH (ho pins s σ H _ I h) fun ov s1 ⟨x,H1,I1,r1,q1⟩=>?_));refine wpAny_bind (wpAny_holding (JH (hi pins s1 σ H1 _ I1 q1) fun iv s2 ⟨y,H2,I2,r2,q2⟩=>?_));refine wpAny_bind (wpAny_standAt (wpAny_bind (wpAny_holding (JH (hs pins s2 σ H2 x y v ov iv u _ I2 r1 r2 r q2) fun _ s3 ⟨H3,I3,q3⟩=>?_))));exact wpAny_release ⟨σ,H3,I3,q3⟩
def Jmz (te:TE) (g:TG):TS:=fun D σ H=>te σ H fun x H1=>g x σ H1 D.nx
theorem JiG {tg e:Expr} {te:TE} {g:TG} (he:PE X e te) (hg:PG X tg g) (hs:swapsWithSole [tg] e pos.line X.env=pure false:=by rfl) (hw:swappedStores [tg] e X.env=pure none:=by rfl)
  (h1:(assignEach [tg] X.env).map (·.2)=[assign tg X.env]:=by rfl):PS X (.Assign [tg] e pos) (Jmz te g):=by
 intro pins s σ H D I h;refine wpAny_Assign_stores (JH (he pins s σ H _ I h) fun v s1 ⟨x,H1,I1,r1,q1⟩=>?_) hs hw;rw [h1];exact JH (hg pins s1 σ H1 x v _ I1 r1 q1) fun _ s2 q=>q
theorem Jr {i:Nat} {x:Str} {e:Expr} {te:TE} {pos':Pos} (hN:X.N.Nodup) (hi:X.N[i]?=some x) (hx:Loc X.env.scope x) (he:PE X e te) (hs:swapsWith e (some (.Name x pos')) pos.line X.env=pure false:=by rfl) (hf:X.fn x=true∨X.env.scope.names.lookup x=some .local:=by first | exact .inl rfl | exact .inr rfl | assumption) :
  PS X (.Assign [.Name x pos'] e pos) (Jmz te (Jaf i)):=by
 intro pins s σ H D I h;refine wpAny_Assign_Name (JH (he pins s σ H _ I h) fun v s1 ⟨y,H1,I1,r1,q1⟩=>?_) hs;exact Jim I1 hN hi hx r1 (fun s2 I2=>⟨_,H1,I2,q1⟩) hf
end
structure It where
 go:Nat→Hp→Prop
 yld:Nat→Hp→V→Hp→Prop
 stop:Nat→Hp→Prop
def Jc6 (X:Cx) (pins:List (Addr×Obj)) (H:Hp) (b:Addr):Prop :=
 H b=none∧b≠X.env.locals∧b∉X.fs∧(b∈X.ex∨X.s₀.heap.objs.size≤b)∧(∀ x c,X.env.cells.lookup x=some c→c≠b)∧∀ p∈X.pn ++ pins,p.1≠b
theorem Jk.fpOk {X:Cx} {pins:List (Addr×Obj)} {σ:St} {H H':Hp} {s:Shared} {b:Addr} (I:Jk X pins σ H s) (hb:s.heap.objs.size≤b) (hn:H' b=none):Jc6 X pins H' b:=by
 refine ⟨hn,Nat.ne_of_gt (Nat.lt_of_lt_of_le I.lt hb),I.nofs hb,.inr (Nat.le_trans I.sz hb),fun x c e z=>?_,fun p hp z=>?_⟩
 ·obtain ⟨v,q⟩:=I.cell x c e;exact absurd (Nat.lt_of_lt_of_le q.lt (by rw [z]; exact hb)) (Nat.lt_irrefl _)
 ·exact absurd (Nat.lt_of_lt_of_le (Heap.lt_size (I.pin p hp).1) (by rw [z]; exact hb)) (Nat.lt_irrefl _)
structure Jhh (P:Program) (w:World) (K:PySem.W.Frag) (tg:Expr) (J:It) (fp:List Addr) (it:Addr) (tn:Nat→Heap→Prop):Prop where
 mem:it∈fp
 obj:∀ i h,tn i h→∀ b∈fp,∃ o,h.get? b=some o∧∀ v,o.data≠.cell v
 keep:∀ i h h',tn i h→(∀ b∈fp,∀ o,h.get? b=some o→h'.get? b=some o)→tn i h'
 item:∀ (X:Cx),X.prog=P→X.w=w→X.K=K→X.calm=true→∀ (i:Nat) (pins:List (Addr×Obj)) (s:Shared) (σ:St) (H:Hp) (E:Value→Shared→Prop),Jk X pins σ H s→(∀ b∈fp,Jc6 X pins H b)→tn i s.heap→J.go i H →
  wpAny (model P w) X.A (pyNext (.ref it)) (fun r s1=>∃ u,r=some u ∧
   wpAny (model P w) X.A (letOwnedTupleGo tg (.ref it) u) (fun _ s2=>∃ x H',Jk X pins σ H' s2∧JF x u∧J.yld i H x H'∧tn (i + 1) s2.heap∧∀ b∈fp,H' b=none) E s1) E s
 done:∀ (X:Cx),X.prog=P→X.w=w→X.K=K→X.calm=true→∀ (i:Nat) (pins:List (Addr×Obj)) (s:Shared) (σ:St) (H:Hp) (E:Value→Shared→Prop),Jk X pins σ H s→(∀ b∈fp,Jc6 X pins H b)→tn i s.heap→J.stop i H →
  wpAny (model P w) X.A (pyNext (.ref it)) (fun r s1=>r=none∧Jk X pins σ H s1) E s
 self:∀ (A:Around) (i:Nat) (s:Shared) (Q:Value→Shared→Prop) (E:Value→Shared→Prop),tn i s.heap→Q (.ref it) s→wpAny (model P w) A (pyIter (.ref it)) Q E s
abbrev TI:=St→Hp→(It→Hp→Prop)→Prop
def PIE (X:Cx) (pins:List (Addr×Obj)) (σ:St) (tg:Expr) (R:It→Hp→Prop) (itv:Value) (s2:Shared):Prop :=
 ∃ (it:Addr) (fp:List Addr) (tn:Nat→Heap→Prop) (J:It) (H':Hp),itv=.ref it∧Jk X pins σ H' s2∧Jhh X.prog X.w X.K tg J fp it tn∧tn 0 s2.heap∧(∀ b∈fp,Jc6 X pins H' b)∧R J H'
def PI (X:Cx) (tg iter:Expr) (wi:TI):Prop :=
 ∀ (pins:List (Addr×Obj)) (s:Shared) (σ:St) (H:Hp) (R:It→Hp→Prop),Jk X pins σ H s→wi σ H R →
  wpAny (model X.prog X.w) X.A (eval iter X.env) (fun v s1=>wpAny (model X.prog X.w) X.A (pyIter v) (PIE X pins σ tg R) X.xe s1) X.xe s
theorem Jib {M:Model} {A:Around} {E:Value→Shared→Prop} {s:Shared} {tg:Expr} {it:Addr} {u:Value} {o:Obj} {n:String} {vs:Array Value} {Q:Unit→Shared→Prop} (ho:s.heap.get? it=some o) (hc:o.cls=.type n) (hd:o.data=.fields vs)
    (hn:["enumerate", "zip", "dict_itemiterator", "dict_reverseitemiterator", "odict_iterator", "itertools.zip_longest", "itertools.pairwise"].contains n=false) (hQ:Q () s):wpAny M A (letOwnedTupleGo tg (.ref it) u) Q E s:=by
  unfold letOwnedTupleGo;cases tg <;> first
    | exact wpAny_pure hQ
    | (cases u <;> first
        | exact wpAny_pure hQ
        | (refine wpAny_bind (wpAny_load ho ?_)
           rw [hc,hd];show wpAny M A (if (["enumerate", "zip", "dict_itemiterator", "dict_reverseitemiterator", "odict_iterator", "itertools.zip_longest", "itertools.pairwise"].contains n && vs[0]? == some (rawInt _))=true then _ else _) Q E s;rw [if_neg (by intro h; rw [hn,Bool.false_and] at h; cases h)];exact wpAny_pure hQ))
def Itl (K:PySem.W.Frag) (a:Addr):It :=
 ⟨fun i H=>∃ xs x,Js K H a xs∧xs[i]?=some x,fun i H x H'=>H'=H∧∀ xs,Js K H a xs→xs[i]?=some x,fun i H=>∃ xs,Js K H a xs∧xs.length≤i⟩
def Itt (K:PySem.W.Frag) (a:Addr):It :=
 ⟨fun i H=>∃ xs x,JK K H a xs∧xs[i]?=some x,fun i H x H'=>H'=H∧∀ xs,JK K H a xs→xs[i]?=some x,fun i H=>∃ xs,JK K H a xs∧xs.length≤i⟩
def Itr (lo:Int) (n:Nat):It:=⟨fun i _=>i < n,fun i H x H'=>H'=H∧x=.int (lo + i),fun i _=>n≤i⟩
theorem Jk5 {P:Program} {w:World} {K:PySem.W.Frag} {tg:Expr} (a it:Addr):Jhh P w K tg (Itl K a) [it] it (fun i h=>h.IsListIter it a i) where
 mem:=by simp
 obj:=fun i h st b hb=>by
  have e:b=it:=by simpa using hb
  subst e;obtain ⟨o,e,c,d⟩:=st;exact ⟨o,e,fun v z=>by rw [d] at z; cases z⟩
 keep:=fun i h h' st k=>st.at fun o e=>k it (by simp) o e
 item:=by
  intro X hP hw hK hc i pins s σ H E I hf st hg;subst hP hw hK;obtain ⟨xs,x,hq,hx⟩:=hg;obtain ⟨its,rv,p,hz⟩:=I.list hq;obtain ⟨u,hu,ru⟩:=rv.get hx;obtain ⟨f0,f1,f2,f3,f4,f5⟩:=hf it (by simp);refine wpAny_pyNext_list_item st p.isList (x:=u) (by simpa using hu) fun h' st' sb=>?_
  have I1:Jk X pins σ H { s with heap:=h' }:=I.turned (t':=s.toks) (fun b o hb e=>(sb.2 b hb).trans e) f0 f1 f3 f4 f5;obtain ⟨o,e,c,d⟩:=id st';exact ⟨u,rfl,Jib (s:={ s with heap:=h' }) e c d (by decide) ⟨x,H,I1,ru,⟨rfl,fun ys hy=>by rw [I.list_inj hy hq]; exact hx⟩,st',fun b hb=>(hf b hb).1⟩⟩
 done:=by
  intro X hP hw hK hc i pins s σ H E I hf st hg;subst hP hw hK;obtain ⟨xs,hq,hx⟩:=hg;obtain ⟨its,rv,p,hz⟩:=I.list hq;obtain ⟨f0,f1,f2,f3,f4,f5⟩:=hf it (by simp);have hl:=rv.length;exact wpAny_pyNext_list_end (I.ok.hd hc) st p.isList (by simp; omega) fun h' eb=>⟨rfl,I.turned (t':=s.toks) (fun b o hb e=>eb b o hb e) f0 f1 f3 f4 f5⟩
 self:=fun _ _ _ _ _ st h=>wpAny_pyIter_listiter st h
theorem Jkb {P:Program} {w:World} {K:PySem.W.Frag} {tg:Expr} (a it:Addr):Jhh P w K tg (Itt K a) [it] it (fun i h=>h.IsTupleIter it a i) where
 mem:=by simp
 obj:=fun i h st b hb=>by
  have e:b=it:=by simpa using hb
  subst e;obtain ⟨o,e,c,d⟩:=st;exact ⟨o,e,fun v z=>by rw [d] at z; cases z⟩
 keep:=fun i h h' st k=>st.at fun o e=>k it (by simp) o e
 item:=by
  intro X hP hw hK hc i pins s σ H E I hf st hg;subst hP hw hK;obtain ⟨xs,x,hq,hx⟩:=hg;obtain ⟨its,rv,p,hz⟩:=I.tuple hq;obtain ⟨u,hu,ru⟩:=rv.get hx;obtain ⟨f0,f1,f2,f3,f4,f5⟩:=hf it (by simp);refine wpAny_pyNext_tuple_item st (show s.heap.IsTuple a its.toArray from p) (x:=u) (by simpa using hu) fun h' st' sb=>?_
  have I1:Jk X pins σ H { s with heap:=h' }:=I.turned (t':=s.toks) (fun b o hb e=>(sb.2 b hb).trans e) f0 f1 f3 f4 f5;obtain ⟨o,e,c,d⟩:=id st';exact ⟨u,rfl,Jib (s:={ s with heap:=h' }) e c d (by decide) ⟨x,H,I1,ru,⟨rfl,fun ys hy=>by rw [I.tuple_inj hy hq]; exact hx⟩,st',fun b hb=>(hf b hb).1⟩⟩
 done:=by
  intro X hP hw hK hc i pins s σ H E I hf st hg;subst hP hw hK;obtain ⟨xs,hq,hx⟩:=hg;obtain ⟨its,rv,p,hz⟩:=I.tuple hq;obtain ⟨f0,f1,f2,f3,f4,f5⟩:=hf it (by simp);have hl:=rv.length;exact wpAny_pyNext_tuple_end (I.ok.hd hc) st (show s.heap.IsTuple a its.toArray from p) (by simp; omega) fun h' eb=>⟨rfl,I.turned (t':=s.toks) (fun b o hb e=>eb b o hb e) f0 f1 f3 f4 f5⟩
 self:=fun _ _ _ _ _ st h=>wpAny_pyIter_tupleiter st h
theorem Jkc {P:Program} {w:World} {K:PySem.W.Frag} {tg:Expr} (it:Addr) (lo:Int) (n:Nat):Jhh P w K tg (Itr lo n) [it] it (fun i h=>IsRangeIter h it (lo + (i:Nat) * 1) ((n:Int) - (i:Nat)) 1) where
 mem:=by simp
 obj:=fun i h st b hb=>by
  have e:b=it:=by simpa using hb
  subst e;exact ⟨_,st,fun v z=>by
   have z':Data.fields _=Data.cell v:=z;cases z'⟩
 keep:=fun i h h' st k=>k it (by simp) _ st
 item:=by
  intro X hP hw hK hc i pins s σ H E I hf st hg;subst hP hw hK;obtain ⟨f0,f1,f2,f3,f4,f5⟩:=hf it (by simp);have W:=Walks.range (prog:=X.prog) (w:=X.w) (I.ok.hd hc) it lo 1 n;refine W.item i s _ _ hg st fun v h' tk hv st' kk=>?_
  obtain ⟨t,rfl⟩:=hv;have I1:Jk X pins σ H { s with heap:=h',toks:=tk }:=I.turned (fun b o hb e=>kk b o (by simpa using hb) e) f0 f1 f3 f4 f5;refine ⟨_,rfl,Jib (s:={ s with heap:=h',toks:=tk }) (n := "range_iterator") st' rfl rfl (by decide) ⟨.int (lo + i),H,I1,⟨t,?_⟩,⟨rfl,rfl⟩,st',fun b hb=>(hf b hb).1⟩⟩;rw [Int.mul_one]
 done:=by
  intro X hP hw hK hc i pins s σ H E I hf st hg;subst hP hw hK;obtain ⟨f0,f1,f2,f3,f4,f5⟩:=hf it (by simp);exact wpAny_pyNext_range_end (I.ok.hd hc) st (by have:n≤i:=hg; omega) fun h' eb=>⟨rfl,I.turned (t':=s.toks) (fun b o hb e=>eb b o hb e) f0 f1 f3 f4 f5⟩
 self:=fun _ _ _ _ _ st h=>wpAny_pyIter_rangeiter st h
end L2
namespace L2
open PySem PySem.Spec PyProof.Rows
section
variable {X:Cx} {tg:Expr}
def Jp9 (K:PySem.W.Frag) (tl:TE):TI:=fun σ H R=>tl σ H fun x H1=>∃ a,x=.ref a∧(∃ xs,Js K H1 a xs)∧R (Itl K a) H1
def JqK (K:PySem.W.Frag) (tl:TE):TI:=fun σ H R=>tl σ H fun x H1=>∃ a,x=.ref a∧(∃ xs,JK K H1 a xs)∧R (Itt K a) H1
theorem Zt {l:Expr} {tl:TE} (hl:PE X l tl):PI X tg l (Jp9 X.K tl):=by
 intro pins s σ H R I h;refine JH (hl pins s σ H _ I h) fun v s1 ⟨x,H1,I1,r1,q1⟩=>?_
 obtain ⟨a,e,⟨xs,hq⟩,q⟩:=q1;subst e;cases r1;obtain ⟨its,rv,p,hz⟩:=I1.list hq;refine wpAny_pyIter_list p.isList ?_;refine ⟨s1.heap.objs.size,[s1.heap.objs.size],_,_,H1,rfl,I1.kept (t':=s1.toks) fun b o e=>Heap.get?_push_of_some _ e,Jk5 a _,⟨_,Heap.get?_push_size _ rfl,rfl,rfl⟩,fun b hb=>?_,q⟩;have e:b=s1.heap.objs.size:=by simpa using hb
 subst e;exact I1.fpOk (Nat.le_refl _) (I1.hok.fresh (Nat.le_refl _))
theorem JcP {l:Expr} {tl:TE} (hl:PE X l tl):PI X tg l (JqK X.K tl):=by
 intro pins s σ H R I h;refine JH (hl pins s σ H _ I h) fun v s1 ⟨x,H1,I1,r1,q1⟩=>?_
 obtain ⟨a,e,⟨xs,hq⟩,q⟩:=q1;subst e;cases r1;obtain ⟨its,rv,p,hz⟩:=I1.tuple hq;refine wpAny_pyIter_tuple (show s1.heap.IsTuple a its.toArray from p) ?_;refine ⟨s1.heap.objs.size,[s1.heap.objs.size],_,_,H1,rfl,I1.kept (t':=s1.toks) fun b o e=>Heap.get?_push_of_some _ e,Jkb a _,⟨_,Heap.get?_push_size _ rfl,rfl,rfl⟩,fun b hb=>?_,q⟩;have e:b=s1.heap.objs.size:=by simpa using hb
 subst e;exact I1.fpOk (Nat.le_refl _) (I1.hok.fresh (Nat.le_refl _))
theorem JiE {pins:List (Addr×Obj)} {σ:St} {H:Hp} {s:Shared} {R:It→Hp→Prop} {E:Value→Shared→Prop} {lo hi:Int} {t u v:Tok} {tk:Nat} (I:Jk X pins σ H s) (h1:-(2 ^ 62)≤lo) (h2:lo < 2 ^ 62) (h3:-(2 ^ 62)≤hi) (h4:hi < 2 ^ 62)
  (q:R (Itr lo (hi - lo).toNat) H):wpAny (model X.prog X.w) X.A (pyIter (.ref s.heap.objs.size)) (PIE X pins σ tg R) E { s with heap:=s.heap.push { cls:=.type "range",data:=.fields #[.int lo t,.int hi u,.int 1 v] },toks:=tk }:=by
 refine wpAny_pyIter_range (IsRange.new ..) (small_one h1 h2 h3 h4) ?_;have I1:Jk X pins σ H { s with heap:=s.heap.push { cls:=.type "range",data:=.fields #[.int lo t,.int hi u,.int 1 v] },toks:=tk }:=I.kept fun b o e=>Heap.get?_push_of_some _ e
 refine ⟨(s.heap.push { cls:=.type "range",data:=.fields #[.int lo t,.int hi u,.int 1 v] }).objs.size,[(s.heap.push { cls:=.type "range",data:=.fields #[.int lo t,.int hi u,.int 1 v] }).objs.size],_,_,H,rfl,
  I1.kept (t':=tk) fun b o e=>Heap.get?_push_of_some _ e,Jkc _ lo (hi - lo).toNat,?_,fun b hb=>?_,q⟩
 ·have e1:lo + ((0:Nat):Int) * 1=lo:=by simp
  have e2:(((hi - lo).toNat:Nat):Int) - ((0:Nat):Int)=Builtin.Range.rangeSize lo hi 1:=by rw [rangeSize_one]; split <;> omega
  show IsRangeIter _ _ (lo + ((0:Nat):Int) * 1) ((((hi - lo).toNat:Nat):Int) - ((0:Nat):Int)) 1;rw [e1,e2];exact Heap.get?_push_size _ rfl
 ·have e:b=(s.heap.push { cls:=.type "range",data:=.fields #[.int lo t,.int hi u,.int 1 v] }).objs.size:=by simpa using hb
  subst e;exact I1.fpOk (Nat.le_refl _) (I1.hok.fresh (Nat.le_refl _))
def Jp8 (ta:TA):TI:=fun σ H R=>ta σ H fun vs H1=>∃ j:Int,vs=[.int j]∧-(2 ^ 62)≤j∧j < 2 ^ 62∧R (Itr 0 j.toNat) H1
def Jp7 (ta:TA):TI:=fun σ H R=>ta σ H fun vs H1=>∃ i j:Int,vs=[.int i,.int j]∧(-(2 ^ 62)≤i∧i < 2 ^ 62∧-(2 ^ 62)≤j∧j < 2 ^ 62)∧R (Itr i (j - i).toNat) H1
theorem Za {a:Expr} {ta:TA} {p pos:Pos} (hg:Gl X "range") (hm:X.mg "range" = none) (ha:PA X [a] ta) (hs:starEach [a] X.env=[(false,eval a X.env)]:=by rfl):PI X tg (.Call (.Name "range" p) [a] [] pos) (Jp8 ta):=by
 intro pins s σ H R I h;refine Call_ (JcU I hg hm boot_range (PyProof.Rows.callWith_type1 (JH (ha pos pins s σ H _ I h) fun us s1 ⟨vs,H1,I1,r1,q1⟩=>?_) hs rfl));obtain ⟨j,e,q1,q2,q⟩:=q1;subst e;cases r1 with
 | cons r rr =>
  cases rr;obtain ⟨t,rfl⟩:=r;exact call_range_1 (JiE I1 (by omega) (by omega) q1 q2 (by simpa using q))
theorem Jlt {a b:Expr} {ta:TA} {p pos:Pos} (hg:Gl X "range") (hm:X.mg "range" = none) (ha:PA X [a,b] ta) (hs:starEach [a,b] X.env=[(false,eval a X.env),(false,eval b X.env)]:=by rfl) (hs2:starEach [b] X.env=[(false,eval b X.env)]:=by rfl) :
  PI X tg (.Call (.Name "range" p) [a,b] [] pos) (Jp7 ta):=by
 intro pins s σ H R I h;refine Call_ (JcU I hg hm boot_range (PyProof.Rows.callWith_type1 (JH (ha pos pins s σ H _ I h) fun us s1 ⟨vs,H1,I1,r1,q1⟩=>?_) (by rw [hs,hs2]) (by rw [hs2]; rfl)));obtain ⟨i,j,e,⟨q1,q2,q3,q4⟩,q⟩:=q1;subst e;cases r1 with
 | cons r rr =>
  cases rr with
  | cons r' rr =>
   cases rr;obtain ⟨t,rfl⟩:=r;obtain ⟨t',rfl⟩:=r';exact call_range_2 (JiE I1 q1 q2 q3 q4 q)
def JqB (wi:TI) (g:TG) (tb:TS):TS:=fun D σ H=>@JeM.rec (fun _=>Prop) (fun dn dr _ _=>wi σ H fun J H1=>∃ W:Nat→Nat→St→Hp→Prop,(∃ m,W 0 m σ H1)∧∀ i m σ H,W i m σ H →
 (J.stop i H∧dn σ H)∨(J.go i H∧∃ N:St→Hp→Prop,(∀ σ' H',N σ' H'→∃ m',m' < m∧W (i + 1) m' σ' H')∧∀ x H',J.yld i H x H'→g x σ H' fun σ2 H2=>tb ⟨N,dr,dn,N⟩ σ2 H2)) D
def Jeh (fp:List Addr) (h:Heap):List (Addr×Obj):=fp.filterMap fun b=>(h.get? b).map fun o=>(b,o)
theorem Jcx {fp:List Addr} {h:Heap} {b:Addr} {o:Obj} (hb:b∈fp) (e:h.get? b=some o):(b,o)∈Jeh fp h:=List.mem_filterMap.mpr ⟨b,hb,by rw [e]; rfl⟩
theorem JlE {fp:List Addr} {h:Heap} {p:Addr×Obj} (hp:p∈Jeh fp h):p.1∈fp∧h.get? p.1=some p.2:=by
 obtain ⟨b,hb,e⟩:=List.mem_filterMap.mp hp;cases q:h.get? b with
 | none=>rw [q] at e; cases e
 | some o =>
  rw [q] at e;have e':(b,o)=p:=Option.some.inj e;subst e';exact ⟨hb,q⟩
theorem Jk.pinned {pins:List (Addr×Obj)} {σ:St} {H:Hp} {s:Shared} {fp:List Addr} (I:Jk X pins σ H s) (hf:∀ b∈fp,Jc6 X pins H b) (ho:∀ b∈fp,∃ o,s.heap.get? b=some o∧∀ v,o.data≠.cell v):Jk X (pins ++ Jeh fp s.heap) σ H s :=
 I.pins_of fun p hp=>(List.mem_append.mp hp).elim (fun z=>I.pin p (List.mem_append_right _ z)) fun z=>by
  obtain ⟨hb,e⟩:=JlE z;obtain ⟨f0,f1,f2,_⟩:=hf p.1 hb;obtain ⟨o,e',d⟩:=ho p.1 hb;rw [e] at e'; cases e';exact ⟨e,f0,f1,f2,d⟩
theorem Jk.unpinned {pins pl:List (Addr×Obj)} {σ:St} {H:Hp} {s:Shared} (I:Jk X (pins ++ pl) σ H s):Jk X pins σ H s:=I.pins_of fun p hp=>I.pin p (List.mem_append_right _ (List.mem_append_left _ hp))
theorem Yv {iter:Expr} {body:List Stmt} {wi:TI} {g:TG} {tb:TS} {pos:Pos} (hp:PassesOwn (model X.prog X.w) X.A X.env X.xe) (hc:X.calm=true) (hi:PI X tg iter wi) (hg:PG X tg g) (hb:PSs X body tb)
  (hs:∀ x,foldedSetIterable iter X.env x=pure x:=by intro _; rfl):PS X (.For tg iter body [] pos) (JqB wi g tb):=by
 intro pins s σ H D I h;refine wpAny_For (JH (hi pins s σ H _ I h) fun v s1 h1=>JH h1 fun itv s2 h2=>?_) hs;obtain ⟨it,fp,tn,J,H2,e,I2,T,st2,f2,W,⟨m0,w0⟩,turn⟩:=h2;subst e;have stat:∀ {H':Hp},(∀ b∈fp,H' b=none)→∀ b∈fp,Jc6 X pins H' b:=fun hn b hb=>⟨hn b hb,(f2 b hb).2⟩
 refine codeAny_forLoop_any (fun n s'=>∃ i σ' H',Jk X pins σ' H' s'∧tn i s'.heap∧(∀ b∈fp,H' b=none)∧W i n σ' H') ?_ m0 ⟨0,σ,H2,I2,st2,fun b hb=>(f2 b hb).1,w0⟩;rintro n s3 ⟨i,σ3,H3,I3,st3,fr3,w3⟩;rcases turn i n σ3 H3 w3 with ⟨stop,qn⟩ | ⟨go,N,hN,step⟩
 ·refine wpAny_passesOwn hp (JH (T.done X rfl rfl rfl hc i pins s3 σ3 H3 X.xe I3 (stat fr3) st3 stop) fun r s4 ⟨hr,I4⟩=>?_);subst hr;exact wpAny_execs_nil ⟨σ3,H3,I4,qn⟩
 ·refine wpAny_passesOwn hp (JH (T.item X rfl rfl rfl hc i pins s3 σ3 H3 X.xe I3 (stat fr3) st3 go) fun r s4 ⟨u,hr,h4⟩=>?_);subst hr;refine wpAny_passesOwn hp (JH h4 fun _ s5 ⟨x,H5,I5,r5,y5,st5,fr5⟩=>?_);have I5':=I5.pinned (stat fr5) (T.obj _ _ st5);refine wpAny_passesOwn hp (JH (hg _ s5 σ3 H5 x u _ I5' r5 (step x H5 y5)) fun _ s6 ⟨σ6,H6,I6,q6⟩=>?_);refine wpAny_passesOwn hp (JH (hb _ s6 σ6 H6 _ I6 q6) fun f s7 q7=>?_);have again:∀ {σ7:St} {H7:Hp},Jk X (pins ++ Jeh fp s5.heap) σ7 H7 s7→N σ7 H7→∃ m,m < n∧∃ i σ' H',Jk X pins σ' H' s7∧tn i s7.heap∧(∀ b∈fp,H' b=none)∧W i m σ' H':=fun {σ7 H7} I7 n7=>by
   obtain ⟨m',hm,w7⟩:=hN σ7 H7 n7;refine ⟨m',hm,i + 1,σ7,H7,I7.unpinned,T.keep _ _ _ st5 fun b hb o e=>(I7.pin (b,o) (List.mem_append_right _ (List.mem_append_right _ (Jcx hb e)))).1,fun b hb=>?_,w7⟩;obtain ⟨o,e,d⟩:=T.obj _ _ st5 b hb;exact (I7.pin (b,o) (List.mem_append_right _ (List.mem_append_right _ (Jcx hb e)))).2.1
  cases f with
  | next=>obtain ⟨σ7,H7,I7,n7⟩:=q7; exact again I7 n7
  | cont=>obtain ⟨σ7,H7,I7,n7⟩:=q7; exact again I7 n7
  | brk=>obtain ⟨σ7,H7,I7,q7⟩:=q7; exact ⟨σ7,H7,I7.unpinned,q7⟩
  | ret v=>obtain ⟨x7,σ7,H7,I7,r7,q7⟩:=q7; exact ⟨x7,σ7,H7,I7.unpinned,r7,q7⟩
end
theorem Ja4 {K:PySem.W.Frag} {a:Addr} {xs:List V} {g:TG} {tb:TS} {dn:St→Hp→Prop} {dr:VK} {σ:St} {H:Hp} (Pv:Nat→St→Hp→Prop) (h0:Pv 0 σ H) (hl:∀ i σ H,i≤xs.length→Pv i σ H→Js K H a xs)
  (hs:∀ i x σ H,xs[i]?=some x→Pv i σ H→g x σ H fun σ2 H2=>tb ⟨Pv (i + 1),dr,dn,Pv (i + 1)⟩ σ2 H2) (hd:∀ σ H,Pv xs.length σ H→dn σ H) :
  ∃ W:Nat→Nat→St→Hp→Prop,(∃ m,W 0 m σ H)∧∀ i m σ H,W i m σ H →
   ((Itl K a).stop i H∧dn σ H)∨((Itl K a).go i H∧∃ N:St→Hp→Prop,(∀ σ' H',N σ' H'→∃ m',m' < m∧W (i + 1) m' σ' H')∧∀ x H',(Itl K a).yld i H x H'→g x σ H' fun σ2 H2=>tb ⟨N,dr,dn,N⟩ σ2 H2):=by
 refine ⟨fun i m σ H=>m=xs.length - i∧i≤xs.length∧Pv i σ H,⟨xs.length,by simp,Nat.zero_le _,h0⟩,?_⟩;rintro i m σ H ⟨rfl,hi,p⟩;have q:=hl i σ H hi p;by_cases hlt:i < xs.length
 ·refine .inr ⟨⟨xs,xs[i],q,by simp [hlt]⟩,Pv (i + 1),fun σ' H' p'=>⟨xs.length - (i + 1),by omega,rfl,hlt,p'⟩,fun x H' y=>?_⟩;obtain ⟨e,y⟩:=y;subst e;exact hs i x σ _ (y xs q) p
 ·have e:i=xs.length:=by omega
  subst e;exact .inl ⟨⟨xs,q,Nat.le_refl _⟩,hd σ H p⟩
theorem Je7 {K:PySem.W.Frag} {a:Addr} {xs:List V} {g:TG} {tb:TS} {dn:St→Hp→Prop} {dr:VK} {σ:St} {H:Hp} (Pv:Nat→St→Hp→Prop) (h0:Pv 0 σ H) (hl:∀ i σ H,i≤xs.length→Pv i σ H→JK K H a xs)
  (hs:∀ i x σ H,xs[i]?=some x→Pv i σ H→g x σ H fun σ2 H2=>tb ⟨Pv (i + 1),dr,dn,Pv (i + 1)⟩ σ2 H2) (hd:∀ σ H,Pv xs.length σ H→dn σ H) :
  ∃ W:Nat→Nat→St→Hp→Prop,(∃ m,W 0 m σ H)∧∀ i m σ H,W i m σ H →
   ((Itt K a).stop i H∧dn σ H)∨((Itt K a).go i H∧∃ N:St→Hp→Prop,(∀ σ' H',N σ' H'→∃ m',m' < m∧W (i + 1) m' σ' H')∧∀ x H',(Itt K a).yld i H x H'→g x σ H' fun σ2 H2=>tb ⟨N,dr,dn,N⟩ σ2 H2):=by
 refine ⟨fun i m σ H=>m=xs.length - i∧i≤xs.length∧Pv i σ H,⟨xs.length,by simp,Nat.zero_le _,h0⟩,?_⟩;rintro i m σ H ⟨rfl,hi,p⟩;have q:=hl i σ H hi p;by_cases hlt:i < xs.length
 ·refine .inr ⟨⟨xs,xs[i],q,by simp [hlt]⟩,Pv (i + 1),fun σ' H' p'=>⟨xs.length - (i + 1),by omega,rfl,hlt,p'⟩,fun x H' y=>?_⟩;obtain ⟨e,y⟩:=y;subst e;exact hs i x σ _ (y xs q) p
 ·have e:i=xs.length:=by omega
  subst e;exact .inl ⟨⟨xs,q,Nat.le_refl _⟩,hd σ H p⟩
theorem Zc {lo:Int} {n:Nat} {g:TG} {tb:TS} {dn:St→Hp→Prop} {dr:VK} {σ:St} {H:Hp} (Pv:Nat→St→Hp→Prop) (h0:Pv 0 σ H)
  (hs:∀ i σ H,i < n→Pv i σ H→g (.int (lo + i)) σ H fun σ2 H2=>tb ⟨Pv (i + 1),dr,dn,Pv (i + 1)⟩ σ2 H2) (hd:∀ σ H,Pv n σ H→dn σ H) :
  ∃ W:Nat→Nat→St→Hp→Prop,(∃ m,W 0 m σ H)∧∀ i m σ H,W i m σ H →
   ((Itr lo n).stop i H∧dn σ H)∨((Itr lo n).go i H∧∃ N:St→Hp→Prop,(∀ σ' H',N σ' H'→∃ m',m' < m∧W (i + 1) m' σ' H')∧∀ x H',(Itr lo n).yld i H x H'→g x σ H' fun σ2 H2=>tb ⟨N,dr,dn,N⟩ σ2 H2):=by
 refine ⟨fun i m σ H=>m=n - i∧i≤n∧Pv i σ H,⟨n,by simp,Nat.zero_le _,h0⟩,?_⟩;rintro i m σ H ⟨rfl,hi,p⟩;by_cases hlt:i < n
 ·refine .inr ⟨hlt,Pv (i + 1),fun σ' H' p'=>⟨n - (i + 1),by omega,rfl,hlt,p'⟩,fun x H' y=>?_⟩;obtain ⟨e,y⟩:=y;subst e y;exact hs i σ _ hlt p
 ·have e:i=n:=by omega
  subst e;exact .inl ⟨Nat.le_refl _,hd σ H p⟩
end L2
namespace L2
open PySem PySem.Spec PyProof.Rows
abbrev R2:=V→V→Hp→VK→Prop
def ZP (X:Cx) (f:Value→Value→Sem Value) (r:R2):Prop :=
 ∀ (pins:List (Addr×Obj)) (s:Shared) (σ:St) (H:Hp) (x y:V) (v u:Value) (Q:VK),Jk X pins σ H s→JF x v→JF y u→r x y H Q →
  wpAny (model X.prog X.w) X.A (f v u) (EP X pins σ Q) X.xe s
def Y9 (X:Cx) (f:Value) (r:List V→Hp→VK→Prop):Prop :=
 ∀ (pins:List (Addr×Obj)) (s:Shared) (σ:St) (H:Hp) (xs:List V) (us:List Value) (Q:VK),Jk X pins σ H s→Jz xs us→r xs H Q →
  wpAny (model X.prog X.w) X.A (call f us) (EP X pins σ Q) X.xe s
def tOp (r:R2) (ta tb:TE):TE:=fun σ H Q=>ta σ H fun x H1=>tb σ H1 fun y H2=>r x y H2 Q
def rI (C:Int→Int→Prop) (g:Int→Int→V):R2:=fun x y H Q=>∃ i j,x=.int i∧y=.int j∧C i j∧Q (g i j) H
def rI0 (g:Int→Int→V):R2:=fun x y H Q=>∃ i j,x=.int i∧y=.int j∧Q (g i j) H
section
variable {X:Cx} {a b c:Expr} {ta tb tc:TE} {pos:Pos}
theorem Jnu (ha:PE X a ta) (hb:PE X b tb) {pins:List (Addr×Obj)} {s:Shared} {σ:St} {H:Hp} {R:V→V→Hp→Prop} (I:Jk X pins σ H s)
  (h:ta σ H fun x H1=>tb σ H1 fun y H2=>R x y H2) {Q:Value→Shared→Prop} {f:Value→Value→Sem Value}
  (hf:∀ v u s2 x y H2,Jk X pins σ H2 s2→JF x v→JF y u→R x y H2→wpAny (model X.prog X.w) X.A (f v u) Q X.xe s2) :
  wpAny (model X.prog X.w) X.A (eval a X.env) (fun v s₁=>wpAny (model X.prog X.w) X.A (eval b X.env) (fun u s₂=>wpAny (model X.prog X.w) X.A (f v u) Q X.xe s₂) X.xe s₁) X.xe s:=by
 refine JH (ha pins s σ H _ I h) fun v s1 ⟨x,H1,I1,r1,q1⟩=>?_
 refine JH (hb pins s1 σ H1 _ I1 q1) fun u s2 ⟨y,H2,I2,r2,q2⟩=>?_
 exact hf v u s2 x y H2 I2 r1 r2 q2
theorem Jl {op:Operator} {r:R2} (ho:ZP X (binaryOp op) r) (ha:PE X a ta) (hb:PE X b tb):PE X (.BinOp a op b pos) (tOp r ta tb):=by
 intro pins s σ H Q I h;exact wpAny_BinOp (Jnu ha hb I h fun v u s2 x y H2 I2 rx ry q=>ho pins s2 σ H2 x y v u Q I2 rx ry q)
theorem opI {f:Value→Value→Sem Value} {C:Int→Int→Prop} {g:Int→Int→Int}
  (rule:∀ (i j:Int) (t u:Tok) (s:Shared) (Q:Value→Shared→Prop) (E:Value→Shared→Prop),C i j→Q (.int (g i j) s.toks) { s with toks:=s.toks + 1 }→wpAny (model X.prog X.w) X.A (f (.int i t) (.int j u)) Q E s) :
  ZP X f (rI C fun i j=>.int (g i j)):=by
 intro pins s σ H x y v u Q I rx ry h;obtain ⟨i,j,rfl,rfl,hc,q⟩:=h;obtain ⟨t,rfl⟩:=rx;obtain ⟨t',rfl⟩:=ry;exact rule i j t t' s _ _ hc ⟨.int (g i j),H,I.tok _,⟨_,rfl⟩,q⟩
theorem Jpi {f:Value→Value→Sem Value} {g:Int→Int→Int}
  (rule:∀ (i j:Int) (t u:Tok) (s:Shared) (Q:Value→Shared→Prop) (E:Value→Shared→Prop),Q (.int (g i j) s.toks) { s with toks:=s.toks + 1 }→wpAny (model X.prog X.w) X.A (f (.int i t) (.int j u)) Q E s) :
  ZP X f (rI0 fun i j=>.int (g i j)):=by
 intro pins s σ H x y v u Q I rx ry h;obtain ⟨i,j,rfl,rfl,q⟩:=h;obtain ⟨t,rfl⟩:=rx;obtain ⟨t',rfl⟩:=ry;exact rule i j t t' s _ _ ⟨.int (g i j),H,I.tok _,⟨_,rfl⟩,q⟩
theorem Jkx {f:Value→Value→Sem Value} {g:Int→Int→Bool}
  (rule:∀ (i j:Int) (t u:Tok) (s:Shared) (Q:Value→Shared→Prop) (E:Value→Shared→Prop),Q (.bool (g i j)) s→wpAny (model X.prog X.w) X.A (f (.int i t) (.int j u)) Q E s) :
  ZP X f (rI0 fun i j=>.bl (g i j)):=by
 intro pins s σ H x y v u Q I rx ry h;obtain ⟨i,j,rfl,rfl,q⟩:=h;obtain ⟨t,rfl⟩:=rx;obtain ⟨t',rfl⟩:=ry;exact rule i j t t' s _ _ ⟨.bl (g i j),H,I,rfl,q⟩
def JqP (i j:Int):Prop:=0 < j∧j < 1073741824
def JnC (i j:Int):Prop:=(-(2 ^ 64) < i∧i < 2 ^ 64)∨(-(2 ^ 64) < j∧j < 2 ^ 64)
theorem JnC.ok {i j:Int} (h:JnC i j):IntMulOk i j:=by
 rcases h with ⟨h1,h2⟩ | ⟨h1,h2⟩
 ·exact .of_left (intBits_le_64 h1 h2)
 ·exact .of_right (intBits_le_64 h1 h2)
theorem JP:ZP X (binaryOp .Add) (rI0 fun i j=>.int (i + j)):=Jpi fun _ _ _ _ _ _ _ q=>add_int q
theorem Yq:ZP X (binaryOp .Sub) (rI0 fun i j=>.int (i - j)):=Jpi fun _ _ _ _ _ _ _ q=>sub_int q
theorem ZX:ZP X (binaryOp .Mult) (rI JnC fun i j=>.int (i * j)):=opI fun _ _ _ _ _ _ _ hc q=>mul_int q hc.ok
theorem ZJ:ZP X (binaryOp .FloorDiv) (rI JqP fun i j=>.int (i / j)):=opI fun i j _ _ _ _ _ hc q=>by
 have h1:(0:Int) < j:=hc.1;have h2:j < 1073741824:=hc.2;exact floordiv_int (by omega) (by rw [Int.fdiv_eq_ediv_of_nonneg i (by omega)]; exact q) (.inl (PyProof.noPylong_small (by omega)))
theorem JZ:ZP X (binaryOp .Mod) (rI (fun _ j=>0 < j) fun i j=>.int (i % j)):=opI fun i j _ _ _ _ _ hc q=>by
 have h1:(0:Int) < j:=hc;exact mod_int' (by omega) (by rw [Int.fmod_eq_emod_of_nonneg i (by omega)]; exact q)
end
def Jo4:V→V→Bool
 | .non,.non=>true | .non,.int _=>true | .int _,.non=>true | .non,.bl _=>true | .bl _,.non=>true | .non,.str _=>true | .str _,.non=>true
 | .int _,.int _=>true | .bl _,.bl _=>true | .str _,.str _=>true | .byt _,.byt _=>true
 | .int _,.str _=>true | .str _,.int _=>true | .bl _,.str _=>true | .str _,.bl _=>true
 | _,_=>false
def rEq:R2:=fun x y H Q=>Jo4 x y=true∧Q (.bl (decide (x=y))) H
def rNe:R2:=fun x y H Q=>Jo4 x y=true∧Q (.bl (!decide (x=y))) H
theorem Jj3 {i j:Int}:decide (V.int i=V.int j)=(i == j):=by
 rw [Bool.eq_iff_iff];simp
theorem Jl7 {i j:Bool}:decide (V.bl i=V.bl j)=(i == j):=by
 rw [Bool.eq_iff_iff];simp
theorem Jj2 {i j:Str}:decide (V.str i=V.str j)=(i == j):=by
 rw [Bool.eq_iff_iff];simp
theorem Jj4 {i j:Array UInt8}:decide (V.byt i=V.byt j)=(i.toList == j.toList):=by
 rw [Bool.eq_iff_iff];cases i;cases j;simp
section
variable {X:Cx} {a b c:Expr} {ta tb tc:TE} {pos:Pos}
theorem J6 {pins:List (Addr×Obj)} {σ:St} {H:Hp} {s:Shared} {Q:VK} {k k':Bool} (I:Jk X pins σ H s) (q:Q (.bl k) H) (e:k=k'):EP X pins σ Q (.bool k') s:=by
 subst e;exact ⟨.bl k,H,I,rfl,q⟩
theorem J2:ZP X (compareOp .Eq) rEq:=by
 intro pins s σ H x y v u Q I rx ry h;obtain ⟨hs,q⟩:=h;cases x with
 | non =>
  cases rx;cases y with
  | non=>cases ry; exact PySem.EqNone.eq_none_none (J6 I q (by simp))
  | bl j=>cases ry; exact PySem.EqNone.eq_none_bool (J6 I q (by simp))
  | int j=>obtain ⟨t',rfl⟩:=ry; exact PySem.EqNone.eq_none_int (J6 I q (by simp))
  | str j=>obtain ⟨t',rfl⟩:=ry; exact PySem.EqNone.eq_none_str (J6 I q (by simp))
  | _=>exact absurd (show false=true from hs) Bool.false_ne_true
 | bl i =>
  cases rx;cases y with
  | non=>cases ry; exact PySem.EqNone.eq_bool_none (J6 I q (by simp))
  | bl j=>cases ry; exact eq_bool (J6 I q Jl7)
  | str j=>obtain ⟨t',rfl⟩:=ry; exact PySem.EqMixed.eq_bool_str (J6 I q (by simp))
  | _=>exact absurd (show false=true from hs) Bool.false_ne_true
 | int i =>
  obtain ⟨t,rfl⟩:=rx;cases y with
  | non=>cases ry; exact PySem.EqNone.eq_int_none (J6 I q (by simp))
  | int j=>obtain ⟨t',rfl⟩:=ry; exact eq_int (J6 I q Jj3)
  | str j=>obtain ⟨t',rfl⟩:=ry; exact PySem.EqMixed.eq_int_str (J6 I q (by simp))
  | _=>exact absurd (show false=true from hs) Bool.false_ne_true
 | str i =>
  obtain ⟨t,rfl⟩:=rx;cases y with
  | non=>cases ry; exact PySem.EqNone.eq_str_none (J6 I q (by simp))
  | bl j=>cases ry; exact PySem.EqMixed.eq_str_bool (J6 I q (by simp))
  | int j=>obtain ⟨t',rfl⟩:=ry; exact PySem.EqMixed.eq_str_int (J6 I q (by simp))
  | str j=>obtain ⟨t',rfl⟩:=ry; exact eq_str (J6 I q Jj2)
  | _=>exact absurd (show false=true from hs) Bool.false_ne_true
 | byt i =>
  obtain ⟨t,rfl⟩:=rx;cases y with
  | byt j=>obtain ⟨t',rfl⟩:=ry; exact PySem.W.eq_bytes (J6 I q Jj4)
  | _=>exact absurd (show false=true from hs) Bool.false_ne_true
 | _=>cases y <;> exact absurd (show false=true from hs) Bool.false_ne_true
theorem Jp3:ZP X (compareOp .NotEq) rNe:=by
 intro pins s σ H x y v u Q I rx ry h;obtain ⟨hs,q⟩:=h;cases x with
 | non =>
  cases rx;cases y with
  | non=>cases ry; exact PySem.EqNone.ne_none_none (J6 I q (by simp))
  | bl j=>cases ry; exact PySem.EqNone.ne_none_bool (J6 I q (by simp))
  | int j=>obtain ⟨t',rfl⟩:=ry; exact PySem.EqNone.ne_none_int (J6 I q (by simp))
  | str j=>obtain ⟨t',rfl⟩:=ry; exact PySem.EqNone.ne_none_str (J6 I q (by simp))
  | _=>exact absurd (show false=true from hs) Bool.false_ne_true
 | bl i =>
  cases rx;cases y with
  | non=>cases ry; exact PySem.EqNone.ne_bool_none (J6 I q (by simp))
  | bl j=>cases ry; exact ne_bool (J6 I q (congrArg not Jl7))
  | str j=>obtain ⟨t',rfl⟩:=ry; exact PySem.EqMixed.ne_bool_str (J6 I q (by simp))
  | _=>exact absurd (show false=true from hs) Bool.false_ne_true
 | int i =>
  obtain ⟨t,rfl⟩:=rx;cases y with
  | non=>cases ry; exact PySem.EqNone.ne_int_none (J6 I q (by simp))
  | int j=>obtain ⟨t',rfl⟩:=ry; exact ne_int (J6 I q (congrArg not Jj3))
  | str j=>obtain ⟨t',rfl⟩:=ry; exact PySem.EqMixed.ne_int_str (J6 I q (by simp))
  | _=>exact absurd (show false=true from hs) Bool.false_ne_true
 | str i =>
  obtain ⟨t,rfl⟩:=rx;cases y with
  | non=>cases ry; exact PySem.EqNone.ne_str_none (J6 I q (by simp))
  | bl j=>cases ry; exact PySem.EqMixed.ne_str_bool (J6 I q (by simp))
  | int j=>obtain ⟨t',rfl⟩:=ry; exact PySem.EqMixed.ne_str_int (J6 I q (by simp))
  | str j=>obtain ⟨t',rfl⟩:=ry; exact ne_str (J6 I q (congrArg not Jj2))
  | _=>exact absurd (show false=true from hs) Bool.false_ne_true
 | byt i =>
  obtain ⟨t,rfl⟩:=rx;cases y with
  | byt j=>obtain ⟨t',rfl⟩:=ry; exact PySem.W.ne_bytes (J6 I q (congrArg not Jj4))
  | _=>exact absurd (show false=true from hs) Bool.false_ne_true
 | _=>cases y <;> exact absurd (show false=true from hs) Bool.false_ne_true
theorem Jbe:ZP X (compareOp .Lt) (rI0 fun i j=>.bl (decide (i < j))):=Jkx fun _ _ _ _ _ _ _ q=>lt_int q
theorem Jp4:ZP X (compareOp .LtE) (rI0 fun i j=>.bl (decide (i≤j))):=Jkx fun _ _ _ _ _ _ _ q=>le_int q
theorem Jbf:ZP X (compareOp .Gt) (rI0 fun i j=>.bl (decide (j < i))):=Jkx fun _ _ _ _ _ _ _ q=>gt_int q
theorem Jp5:ZP X (compareOp .GtE) (rI0 fun i j=>.bl (decide (j≤i))):=Jkx fun _ _ _ _ _ _ _ q=>ge_int q
theorem Ju (b:Expr) {op:CmpOp} (h:op≠.In:=by decide) (h2:op≠.NotIn:=by decide):behindInMarks op b=false:=by
 have e1:(op == CmpOp.In)=false:=by cases op <;> first | rfl | exact absurd rfl h
 have e2:(op == CmpOp.NotIn)=false:=by cases op <;> first | rfl | exact absurd rfl h2
 cases b <;> simp [behindInMarks,e1,e2]
theorem Jbw {op:CmpOp} {r:R2} (ho:ZP X (compareOp op) r) (ha:PE X a ta) (hb:PE X b tb) (hm:behindInMarks op b=false):PE X (.Compare a [op] [b] pos) (tOp r ta tb):=by
 intro pins s σ H Q I h;exact wpAny_Compare1 (Jnu ha hb I h fun v u s2 x y H2 I2 rx ry q=>ho pins s2 σ H2 x y v u Q I2 rx ry q) hm
def JpH (t:TE):TT:=fun σ H Q=>t σ H fun x H'=>∃ k,x=.bl k∧Q k H'
theorem Jp {op:CmpOp} {r:R2} (ho:ZP X (compareOp op) r) (ha:PE X a ta) (hb:PE X b tb) (hm:behindInMarks op b=false):PT X (.Compare a [op] [b] pos) (JpH (tOp r ta tb)):=by
 intro pins s σ H Q I h;refine wpAny_isTrue_Compare1 (JH (ha pins s σ H _ I h) fun v s1 ⟨x,H1,I1,r1,q1⟩=>JH (hb pins s1 σ H1 _ I1 q1) fun u s2 ⟨y,H2,I2,r2,q2⟩ =>
  JH (ho pins s2 σ H2 x y v u _ I2 r1 r2 q2) fun c s3 ⟨z,H3,I3,r3,k,e,q3⟩=>?_) hm
 subst e;cases r3;exact wpAny_truthy_bool ⟨H3,I3,q3⟩
def JoV (r r':R2) (ta tb tc:TE):TE:=fun σ H Q=>ta σ H fun x H1=>tb σ H1 fun y H2=>r x y H2 fun z H3=>∃ k,z=.bl k ∧
 (if k=true then tc σ H3 fun w' H4=>r' y w' H4 Q else Q (.bl false) H3)
theorem Jm8 {op op':CmpOp} {r r':R2} (ho:ZP X (compareOp op) r) (ho':ZP X (compareOp op') r') (ha:PE X a ta) (hb:PE X b tb) (hc:PE X c tc)
  (hm:lastMarks [op,op'] [b,c]=false:=by with_unfolding_all rfl):PE X (.Compare a [op,op'] [b,c] pos) (JoV r r' ta tb tc):=by
 intro pins s σ H Q I h;refine Compare_chain (JH (ha pins s σ H _ I h) fun v s1 ⟨x,H1,I1,r1,q1⟩=>chain_link (JH (hb pins s1 σ H1 _ I1 q1) fun u s2 ⟨y,H2,I2,r2,q2⟩ =>
  JH (ho pins s2 σ H2 x y v u _ I2 r1 r2 q2) fun d s3 ⟨z,H3,I3,r3,k,e,q3⟩=>?_)) hm
 subst e;cases r3;refine wpAny_truthy_bool ?_;cases k with
 | false=>exact ite_ff ⟨.bl false,H3,I3,rfl,q3⟩
 | true=>exact ite_tt (chain_last (JH (hc pins s3 σ H3 _ I3 q3) fun w' s4 ⟨z',H4,I4,r4,q4⟩=>ho' pins s4 σ H4 y z' u w' Q I4 r2 r4 q4))
theorem JdH:(sizeLine:Nat) < 2 ^ 63:=by rw [sizeLine_eq]; decide
theorem Jkw:ZP X (binaryOp .Add) (fun x y H Q=>∃ i j,x=.str i∧y=.str j∧i.length + j.length≤sizeLine∧Q (.str (i ++ j)) H):=by
 intro pins s σ H x y v u Q I rx ry h;obtain ⟨i,j,rfl,rfl,hz,q⟩:=h;obtain ⟨t,rfl⟩:=rx;obtain ⟨t',rfl⟩:=ry;exact add_str (fun t' tk=>⟨.str (i ++ j),H,I.tok _,⟨_,rfl⟩,q⟩) hz
theorem JeQ {x:V} {us:List Value} (r:Jz [x] us):∃ u,us=[u]∧JF x u:=by
 cases r with
 | cons r1 r2=>cases r2; exact ⟨_,rfl,r1⟩
theorem JnD {x y:V} {us:List Value} (r:Jz [x,y] us):∃ u w',us=[u,w']∧JF x u∧JF y w':=by
 cases r with
 | cons r1 r2 =>
  cases r2 with
  | cons r3 r4=>cases r4; exact ⟨_,_,rfl,r1,r3⟩
theorem Jb4 (hc:X.calm=true):Y9 X (.builtin "max") (fun xs H Q=>∃ i j,xs=[.int i,.int j]∧Q (.int (if j > i then j else i)) H):=by
 intro pins s σ H xs us Q I r h;obtain ⟨i,j,rfl,q⟩:=h;obtain ⟨u,w',rfl,⟨t,rfl⟩,⟨t',rfl⟩⟩:=JnD r;refine max_two_ints (I.ok.hd hc) fun h' tk k=>⟨_,H,I.kept k,?_,q⟩
 by_cases hj:j > i
 ·rw [if_pos hj,if_pos hj]; exact ⟨_,rfl⟩
 ·rw [if_neg hj,if_neg hj]; exact ⟨_,rfl⟩
theorem Jmg (hc:X.calm=true):Y9 X (.builtin "min") (fun xs H Q=>∃ i j,xs=[.int i,.int j]∧Q (.int (if j < i then j else i)) H):=by
 intro pins s σ H xs us Q I r h;obtain ⟨i,j,rfl,q⟩:=h;obtain ⟨u,w',rfl,⟨t,rfl⟩,⟨t',rfl⟩⟩:=JnD r;refine min_two_ints (I.ok.hd hc) fun h' tk k=>⟨_,H,I.kept k,?_,q⟩
 by_cases hj:j < i
 ·rw [if_pos hj,if_pos hj]; exact ⟨_,rfl⟩
 ·rw [if_neg hj,if_neg hj]; exact ⟨_,rfl⟩
theorem JhN:Y9 X (.type "int") (fun xs H Q=>(∃ i,xs=[.int i]∧Q (.int i) H)∨∃ k,xs=[.bl k]∧Q (.int (if k then 1 else 0)) H):=by
 intro pins s σ H xs us Q I r h;rcases h with ⟨i,rfl,q⟩ | ⟨k,rfl,q⟩
 ·obtain ⟨u,rfl,t,rfl⟩:=JeQ r;exact call_int_int ⟨.int i,H,I,⟨_,rfl⟩,q⟩
 ·obtain ⟨u,rfl,r1⟩:=JeQ r;cases r1;exact call_int_bool ⟨.int (if k then 1 else 0),H,I.tok _,⟨_,rfl⟩,q⟩
end
end L2
namespace L2
open PySem PySem.Spec PyProof.Rows
structure JfU (h:Heap) (x dx C:Addr) (mA:Str→Option Value):Prop where
 obj:h.get? x=some (PySem.W.instObj C dx)
 ns:h.Ns1 dx mA
 ne:dx≠x
theorem JlL {h:Heap} {dx:Addr} {mA:Str→Option Value} (n:h.Ns1 dx mA):∃ od,h.get? dx=some od∧∀ name,PySem.W.lookIn name od=some (mA name):=by
 obtain ⟨o,es,ep,ho,hd,hk,_,hm⟩:=n;refine ⟨o,ho,fun name=>?_⟩;have e:=hm name;unfold nsFind findBy at e;rw [← Array.find?_toList] at e;unfold PySem.W.lookIn;rw [hd];dsimp only;split
 ·rename_i y q;rw [q] at e;exact congrArg some e
 ·rename_i q;rw [q] at e;have a:es.toList.any (·.refKey)=false:=by
   rw [List.any_eq_false];intro y hy;obtain ⟨z,t,hkey⟩:=hk y (Array.mem_toList_iff.mp hy);simp [DictEntry.refKey,hkey]
  have a':¬ es.toList.any (·.refKey)=true:=by rw [a]; exact Bool.false_ne_true
  rw [if_neg a'];exact congrArg some e
theorem JfU.look {h:Heap} {x dx C:Addr} {mA:Str→Option Value} (I:JfU h x dx C mA):∃ od,PySem.W.InstAt h x (PySem.W.instObj C dx) C (some od)∧∀ name,PySem.W.lookIn name od=some (mA name) :=
 let ⟨od,ho,hl⟩:=JlL I.ns
 ⟨od,⟨I.obj,rfl,rfl,ho⟩,hl⟩
section
variable {prog:Program} {w:World} {A:Around} {E:Value→Shared→Prop} {s:Shared} {K:PySem.W.Frag} {x dx C f:Addr} {mA:Str→Option Value} {name:Str} {v:Value}
theorem JoF {expr:Bool} {Q:Value→Shared→Prop} (X:K.In s.heap) (I:JfU s.heap x dx C mA) (hg:PySem.W.plainGet K C name=true) (hh:PySem.W.hasDictIn K C=true)
  (ha:PySem.W.findIn K (.ref C) name=some none) (hv:mA name=some v) (hv':PySem.W.handedIn v=true) (h:Q v { s with toks:=s.toks + 1 }) :
  wpAny (model prog w) A (getAttr (.ref x) name expr) Q E s:=by
 obtain ⟨od,J,hl⟩:=I.look;exact PySem.W.get_value X J (PySem.W.plainGet_of hg).1 (PySem.W.findObj_own hh ha rfl (by rw [hl,hv])) hv' h
theorem Jnn {pl:Sem Bool} {Q:Value×List Value→Shared→Prop} (X:K.In s.heap) (I:JfU s.heap x dx C mA) (hg:PySem.W.plainGet K C name=true)
  (hf:PySem.W.findIn K (.ref C) name=some (some (.ref f))) (ht:PySem.W.isFn K (.ref f)=true) (hv:mA name=none) (h:Q (.ref f,[.ref x]) s) :
  wpAny (model prog w) A (getMethod (.ref x) name pl) Q E s:=by
 obtain ⟨od,J,hl⟩:=I.look;exact PySem.W.method_fn X J (PySem.W.plainGet_of hg).1 (PySem.W.plainGet_of hg).2 hf (beq_iff_eq.mp ht) (by show (PySem.W.lookIn name od).map (·.isSome)=some false; rw [hl,hv]; rfl) h
theorem Jof {ns:List Str} {Q:Unit→Shared→Prop} (X:K.In s.heap) (I:JfU s.heap x dx C mA)
  (hs:PySem.W.findIn K (.ref C) "__setattr__" = some (some (.builtin "object.__setattr__"))) (hp:PySem.W.plainOver K C=true) (ht:PySem.W.takerIn K C name=some none) (hh:PySem.W.hasDictIn K C=true)
  (hw:PySem.Within mA ns) (hsz:ns.length≤sizeLine)
  (h:∀ h',JfU h' x dx C (fun y=>if y=name then some v else mA y)→Heap.SameBut dx s.heap h'→Q () { s with heap:=h',toks:=s.toks + 2 }) :
  wpAny (model prog w) A (setAttr (.ref x) name v) Q E s:=by
 obtain ⟨od,J,hl⟩:=I.look;refine PySem.W.set_plain X J hs (PySem.W.osa_open (s:={ s with toks:=s.toks + 1 }) (r:=none) X J hp ht fun b=>?_);obtain ⟨cd,hc,hd'⟩:=PySem.W.any_some hh;have hx:s.heap.get? x=some ⟨.ref C,some dx,.plain,#[]⟩:=I.obj;refine wpAny_bind (wpAny_pure (wpAny_bind (wpAny_bind (wpAny_loadPart hx (wpAny_bind (PySem.W.Looks.here (s:={ s with toks:=s.toks + 1 }) (PySem.W.looks_clsIn X hc) ?_))))));rw [hd'];refine wpAny_pure (a:=some dx) (wpAny_bind (wpAny_pure (wpAny_bind ?_)));refine wpAny_nsSet1 (s:={ s with toks:=s.toks + 1 }) I.ns fun h' hn2 hs2=>?_
 obtain ⟨oD,esD,epD,hoD,hdD,hcD⟩:=hn2.count (PySem.Within.cons name v hw);refine wpAny_bind (wpAny_lookBehind hoD (by rw [hdD]; exact pastItsLine_dict (Nat.le_trans hcD (by rw [List.length_cons]; omega))) ?_);exact wpAny_pure (h _ ⟨(hs2.2 _ (Ne.symm I.ne)).trans I.obj,hn2,I.ne⟩ hs2)
theorem Jnj {R:Result→Shared→Prop} {vs:List Value} {kw:List (Str×Value)} (X:K.In s.heap) (hm:PySem.W.makesIn K C=true)
  (hi:PySem.W.findIn K (.ref C) "__init__" = some (some (.ref f))) (hf:PySem.W.typeIn K (.ref f)=some (.type "function"))
  (h:codeAny (model prog w) (A.under (.builtin "type.__call__" ⟨.ref C :: vs,kw⟩)) (.call (.ref f) ⟨.ref (s.heap.objs.size + 1) :: vs,kw⟩) (PySem.W.InitBack (s.heap.objs.size + 1) R)
   { s with heap:=(s.heap.push PySem.W.emptyDict).push (PySem.W.instObj C s.heap.objs.size) }) :
  codeAny (model prog w) A (.call (.ref C) ⟨vs,kw⟩) R s:=by
 obtain ⟨hh,g,d,t,os⟩:=s;exact PySem.W.make_core (PySem.W.makes_of X hm) (PySem.W.looks_findIn X hi) (fun self=>PySem.W.bind_fn X self hf) (.inl rfl) h
end
def Yi (f:Str) (v:V):List (Str×V)→List (Str×V)
 | []=>[(f,v)]
 | (g,x) :: r=>if g=f then (g,v) :: r else (g,x) :: Yi f v r
theorem Jfj (f g:Str) (v:V):∀ fs:List (Str×V),(Yi f v fs).lookup g=if g=f then some v else fs.lookup g
 | []=>by
  show List.lookup g [(f,v)]=_;by_cases h:g=f
  ·have hb:(g == f)=true:=beq_iff_eq.mpr h;simp only [List.lookup,hb,if_pos h]
  ·have hb:(g == f)=false:=beq_eq_false_iff_ne.mpr h;simp only [List.lookup,hb,if_neg h]
 | (k,x) :: r=>by
  have ih:=Jfj f g v r;rw [show Yi f v ((k,x) :: r)=(if k=f then (k,v) :: r else (k,x) :: Yi f v r) from rfl];by_cases hk:k=f
  ·rw [if_pos hk];by_cases h:g=k
   ·have hb:(g == k)=true:=beq_iff_eq.mpr h;simp only [List.lookup,hb,if_pos (h.trans hk)]
   ·have hb:(g == k)=false:=beq_eq_false_iff_ne.mpr h;simp only [List.lookup,hb,if_neg (fun e:g=f=>h (e.trans hk.symm))]
  ·rw [if_neg hk];by_cases h:g=k
   ·have hb:(g == k)=true:=beq_iff_eq.mpr h;simp only [List.lookup,hb,if_neg (fun e:g=f=>hk (h.symm.trans e))]
   ·have hb:(g == k)=false:=beq_eq_false_iff_ne.mpr h;simp only [List.lookup,hb];exact ih
theorem Jer (f:Str) (v:V):∀ fs:List (Str×V),f∈(Yi f v fs).map (·.1)∧∀ g,g∈fs.map (·.1)→g∈(Yi f v fs).map (·.1)
 | []=>⟨by simp [Yi],fun g h=>by simp at h⟩
 | (k,x) :: r=>by
  obtain ⟨i1,i2⟩:=Jer f v r;rw [show Yi f v ((k,x) :: r)=(if k=f then (k,v) :: r else (k,x) :: Yi f v r) from rfl];by_cases hk:k=f
  ·rw [if_pos hk];subst hk;exact ⟨by simp,fun g h=>by simpa using h⟩
  ·rw [if_neg hk];refine ⟨?_,fun g h=>?_⟩
   ·rw [List.map_cons];exact List.mem_cons_of_mem _ i1
   ·rw [List.map_cons] at h ⊢;rcases List.mem_cons.mp h with e | e
    ·exact List.mem_cons.mpr (.inl e)
    ·exact List.mem_cons_of_mem _ (i2 g e)
theorem Jfk (f:Str) (v:V):∀ fs:List (Str×V),(Yi f v fs).length≤fs.length + 1
 | []=>by simp [Yi]
 | (k,x) :: r=>by
  have ih:=Jfk f v r;rw [show Yi f v ((k,x) :: r)=(if k=f then (k,v) :: r else (k,x) :: Yi f v r) from rfl];by_cases hk:k=f
  ·rw [if_pos hk,List.length_cons,List.length_cons]; omega
  ·rw [if_neg hk,List.length_cons,List.length_cons]; omega
theorem Jaa.some_of {v:V} {o:Option Value} (r:Jaa (some v) o):∃ u,o=some u∧JF v u:=by
 cases o with
 | none=>exact (show False from r).elim
 | some u=>exact ⟨u,rfl,r⟩
theorem Jaa.none_of {o:Option Value} (r:Jaa none o):o=none:=by
 cases o with
 | none=>rfl
 | some u=>exact (show False from r).elim
theorem Jl0 {v:V} {u:Value} (r:JF v u):PySem.W.handedIn u=true:=by
 cases v with
 | non=>cases (show u=Value.none from r); rfl
 | bl b=>cases (show u=Value.bool b from r); rfl
 | int i=>obtain ⟨t,e⟩:=(show ∃ t,u=Value.int i t from r); cases e; rfl
 | str x=>obtain ⟨t,e⟩:=(show ∃ t,u=Value.str x t from r); cases e; rfl
 | byt b=>obtain ⟨t,e⟩:=(show ∃ t,u=Value.bytes b t from r); cases e; rfl
 | flt b=>obtain ⟨t,e⟩:=(show ∃ t,u=Value.float b t from r); cases e; rfl
 | ref a=>cases (show u=Value.ref a from r); rfl
 | ty n=>cases (show u=Value.type n from r); rfl
section
variable {P:Program} {w:World} {H H':Hp} {h h':Heap} {a C dx:Addr} {fs fs':List (Str×V)}
theorem Je6 (hok:Zn P w H h) (e:H a=some (.ins C dx fs)):∃ mA,JfU h a dx C mA∧(∀ f,Jaa (fs.lookup f) (mA f))∧PySem.Within mA (fs.map (·.1))∧fs.length≤1000∧H dx=some (.own a):=by
 obtain ⟨d,z,ne,ob,mA,n,r,q⟩:=(show Yd P w H h a (.ins C dx fs) from hok a _ e)
 exact ⟨mA,⟨ob,n,ne⟩,r,q,z,d⟩
end
structure Cls (K:PySem.W.Frag) (C:Addr):Prop where
 pg:PySem.W.plainGet K C Str.empty=true
 hd:PySem.W.hasDictIn K C=true
 po:PySem.W.plainOver K C=true
 sa:PySem.W.findIn K (.ref C) "__setattr__" = some (some (.builtin "object.__setattr__"))
theorem Cls.get {K:PySem.W.Frag} {C:Addr} (c:Cls K C) (f:Str):PySem.W.plainGet K C f=true:=c.pg
def ZN (K:PySem.W.Frag) (C:Addr) (f:Str):Prop:=PySem.W.findIn K (.ref C) f=some none
theorem ZN.taker {K:PySem.W.Frag} {C:Addr} {f:Str} (n:ZN K C f):PySem.W.takerIn K C f=some none:=by
 unfold PySem.W.takerIn;rw [show PySem.W.findIn K (.ref C) f=some none from n];rfl
structure JnB (K:PySem.W.Frag) (C:Addr) (m:Str) (f:Addr):Prop where
 at_:PySem.W.findIn K (.ref C) m=some (some (.ref f))
 fn:PySem.W.isFn K (.ref f)=true
 kp:PySem.W.keepIn K (.ref f)=true
section
variable {X:Cx} {pins:List (Addr×Obj)} {σ:St} {H:Hp} {s:Shared} {a C dx:Addr} {fs:List (Str×V)} {f:Str} {v:V} {A:Around} {E:Value→Shared→Prop}
theorem JkH {b:Bool} {Q:Value→Shared→Prop} (I:Jk X pins σ H s) (e:H a=some (.ins C dx fs)) (c:Cls X.K C) (n:ZN X.K C f) (l:fs.lookup f=some v)
  (h:∀ u s',Jk X pins σ H s'→JF v u→Q u s'):wpAny (model X.prog X.w) A (getAttr (.ref a) f b) Q E s:=by
 obtain ⟨mA,O,r,_,_,_⟩:=Je6 I.hok e;obtain ⟨u,hu,ru⟩:=Jaa.some_of (v:=v) (o:=mA f) (by rw [← l]; exact r f);exact JoF I.kIn O (c.get f) c.hd n hu (Jl0 ru) (h u _ (I.tok _) ru)
theorem JkG {m:Str} {g:Addr} {pl:Sem Bool} {Q:Value×List Value→Shared→Prop} (I:Jk X pins σ H s) (e:H a=some (.ins C dx fs)) (c:Cls X.K C) (k:JnB X.K C m g) (l:fs.lookup m=none)
  (h:Q (.ref g,[.ref a]) s):wpAny (model X.prog X.w) A (getMethod (.ref a) m pl) Q E s:=by
 obtain ⟨mA,O,r,_,_,_⟩:=Je6 I.hok e;have hn:mA m=none:=Jaa.none_of (by rw [← l]; exact r m);exact Jnn I.kIn O (c.get m) k.at_ k.fn hn h
theorem Jkm {y:V} {u:Value} {Q:Unit→Shared→Prop} (I:Jk X pins σ H s) (e:H a=some (.ins C dx fs)) (c:Cls X.K C) (n:ZN X.K C f) (hl:fs.length < 1000) (ry:JF y u)
  (h:∀ s',Jk X pins σ (upd H a (.ins C dx (Yi f y fs))) s'→Q () s'):wpAny (model X.prog X.w) A (setAttr (.ref a) f u) Q E s:=by
 obtain ⟨mA,O,r,wi,_,ho⟩:=Je6 I.hok e;have hz:(fs.map (·.1)).length≤sizeLine:=by rw [List.length_map,sizeLine_eq]; omega
 refine Jof I.kIn O c.sa c.po n.taker c.hd wi hz fun h' O' sb=>h _ ?_
 have hd:∃ o,h'.get? dx=some o:=let ⟨o,_,_,e',_⟩:=O'.ns; ⟨o,e'⟩;refine I.write (x:=a) (e:=dx) (by rw [e]; exact True.intro) (.inr ho) (fun b q hb z=>(sb.2 b hb).trans z) hd ?_;refine ⟨by rw [Jq O.ne]; exact ho,?_,O.ne,O'.obj,_,O'.ns,fun g=>?_,fun g hg=>?_⟩
 ·have:=Jfk f y fs; omega
 ·show Jaa ((Yi f y fs).lookup g) (if g=f then some u else mA g);rw [Jfj];by_cases q:g=f
  ·rw [if_pos q,if_pos q]; exact ry
  ·rw [if_neg q,if_neg q]; exact r g
 ·by_cases q:g=f
  ·rw [q]; exact (Jer f y fs).1
  ·refine (Jer f y fs).2 g (wi g fun z=>hg ?_);show (if g=f then some u else mA g)=none;rw [if_neg q]; exact z
theorem Jk.made (I:Jk X pins σ H s):Jk X pins σ (upd (upd H s.heap.objs.size (.own (s.heap.objs.size + 1))) (s.heap.objs.size + 1) (.ins C s.heap.objs.size []))
  { s with heap:=(s.heap.push PySem.W.emptyDict).push (PySem.W.instObj C s.heap.objs.size) }:=by
 have e1:(s.heap.push PySem.W.emptyDict).get? s.heap.objs.size=some PySem.W.emptyDict:=Heap.get?_push_size s.heap rfl;have e2:((s.heap.push PySem.W.emptyDict).push (PySem.W.instObj C s.heap.objs.size)).get? (s.heap.objs.size + 1)=some (PySem.W.instObj C s.heap.objs.size):=by
  have:=Heap.get?_push_size (s.heap.push PySem.W.emptyDict) (o:=PySem.W.instObj C s.heap.objs.size) rfl;rwa [Heap.size_push] at this
 have e3:(s.heap.push PySem.W.emptyDict).Ns s.heap.objs.size (fun _=>none):=⟨PySem.W.emptyDict,#[],_,e1,rfl,(fun e he=>absurd he (by simp)),fun _=>rfl⟩
 have I1:=I.laid (a:=s.heap.objs.size) (o:=.own (s.heap.objs.size + 1)) (h':=s.heap.push PySem.W.emptyDict) (t':=s.toks) (fun b u q=>Heap.get?_push_of_some _ q) (Nat.le_refl _) ⟨_,e1⟩;refine I1.laid (a:=s.heap.objs.size + 1) (o:=.ins C s.heap.objs.size []) (t':=s.toks) (fun b u q=>Heap.get?_push_of_some _ q) (Nat.le_of_eq (Heap.size_push _ _)) ?_;have ne:s.heap.objs.size≠s.heap.objs.size + 1:=Nat.ne_of_lt (Nat.lt_succ_self _);refine ⟨by rw [Jq ne,Jh],Nat.zero_le _,ne,e2,fun _=>none,(Heap.Ns1.of_empty e3).at fun o q=>Heap.get?_push_of_some _ q,fun _=>True.intro,fun y hy=>absurd rfl hy⟩
theorem JoK {prog:Program} {w:World} {env:Env} {e:Expr} {f:Str} {pos:Pos} {s:Shared} {Q:Value→Shared→Prop} (hb:attributeBase e f env (eval e env)=eval e env)
  (h:wpAny (model prog w) A (eval e env) (fun o s₁=>wpAny (model prog w) A (getAttr o f true) Q E s₁) E s):wpAny (model prog w) A (eval (.Attribute e f pos) env) Q E s :=
 Attribute_any_ h (by rw [arm_eval_Attribute,hb])
end
def JqC (K:PySem.W.Frag) (ta:TE) (f:Str):TE:=fun σ H Q=>ta σ H fun x H1=>∃ a C dx fs v,x=.ref a∧H1 a=some (.ins C dx fs)∧Cls K C∧ZN K C f∧fs.lookup f=some v∧Q v H1
def JqE (K:PySem.W.Frag) (ta tv:TE) (f:Str):TS:=fun D σ H=>tv σ H fun y H1=>ta σ H1 fun x H2=>∃ a C dx fs,x=.ref a∧H2 a=some (.ins C dx fs)∧Cls K C∧ZN K C f∧fs.length < 1000 ∧
 D.nx σ (upd H2 a (.ins C dx (Yi f y fs)))
section
variable {X:Cx} {o e value:Expr} {f:Str} {pos pos' tpos:Pos} {ta tv:TE}
theorem Yw (he:PE X e ta) (hb:attributeBase e f X.env (eval e X.env)=eval e X.env):PE X (.Attribute e f pos) (JqC X.K ta f):=by
 intro pins s σ H Q I h;refine JoK hb (JH (he pins s σ H _ I h) fun u s1 ⟨x,H1,I1,rx,a,C,dx,fs,v,ex,ea,c,n,l,q⟩=>?_);subst ex;obtain rfl:u=Value.ref a:=rx;exact JkH I1 ea c n l fun u' s2 I2 ru=>⟨v,H1,I2,ru,q⟩
theorem JcO (ha:PE X o ta) (hv:PE X value tv) (hs:swapsWith value (some (.Attribute o f pos')) pos.line X.env=pure false):PS X (.Assign [.Attribute o f pos'] value pos) (JqE X.K ta tv f):=by
 intro pins s σ H D I h;refine plainObj_wpAny_Assign_Attribute (JH (hv pins s σ H _ I h) fun u s1 ⟨y,H1,I1,ry,q⟩=>JH (ha pins s1 σ H1 _ I1 q) fun ov s2 ⟨x,H2,I2,rx,a,C,dx,fs,ex,ea,c,n,l,q2⟩=>?_) hs;subst ex;obtain rfl:ov=Value.ref a:=rx;exact Jkm I2 ea c n l ry fun s3 I3=>⟨σ,_,I3,q2⟩
end
section
variable {X:Cx} {pins:List (Addr×Obj)} {σ:St} {H:Hp} {s:Shared} {A:Around} {E:Value→Shared→Prop} {Q:Value→Shared→Prop} {c:Value} {b:Bool}
inductive JbO (K:PySem.W.Frag) (H:Hp):V→Value→Prop where
 | non:JbO K H .non (.type "NoneType")
 | bl (x:Bool):JbO K H (.bl x) (.type "bool")
 | int (i:Int):JbO K H (.int i) (.type "int")
 | str (x:Str):JbO K H (.str x) (.type "str")
 | flt (x:UInt64):JbO K H (.flt x) (.type "float")
 | lst {a:Addr} {xs:List V} (e:H a=some (.lst xs)):JbO K H (.ref a) (.type "list")
 | frz {a:Addr} {o:Obj} {xs:List V} (e:H a=some (.frz o (.lst xs))):JbO K H (.ref a) (.type "list")
 | tup {a:Addr} {xs:List V} (e:H a=some (.tup xs)):JbO K H (.ref a) (.type "tuple")
 | dK {a:Addr} {kvs:List (JI×V)} (e:H a=some (.dK kvs)):JbO K H (.ref a) (.type "dict")
 | dT {a:Addr} {kvs:List (List JI×V)} (e:H a=some (.dT kvs)):JbO K H (.ref a) (.type "dict")
 | ins {a C dx:Addr} {fs:List (Str×V)} (e:H a=some (.ins C dx fs)) (cl:Cls K C) (ha:PySem.W.findIn K (.ref C) "__class__" = some (some (.builtin "object.__class__")))
   (hn:PySem.W.specialIn K (.builtin "object.__class__") "__get__" = some (some (.builtin "getset_descriptor.__get__"))) (htk:PySem.W.takesIn K (.builtin "object.__class__")=some true)
   (hm:PySem.W.mroIn K C (.type "object")=some true):JbO K H (.ref a) (.ref C)
theorem JlU {x:V} {u t:Value} (I:Jk X pins σ H s) (rx:JF x u) (ty:JbO X.K H x t) (e:PySem.W.kitOne X.K t c=some b) (h:∀ tk,Q (.bool b) { s with toks:=tk }) :
  wpAny (model X.prog X.w) A (call (.builtin "isinstance") [u,c]) Q E s:=by
 cases ty with
 | non=>cases (show u=Value.none from rx); exact PySem.W.kia_one PySem.W.kitx_none I.kIn True.intro e (fun z=>nomatch z) h
 | bl y=>cases (show u=Value.bool y from rx); exact PySem.W.kia_one PySem.W.kitx_bool I.kIn True.intro e (fun z=>nomatch z) h
 | int i=>obtain ⟨t,q⟩:=(show ∃ t,u=Value.int i t from rx); cases q; exact PySem.W.kia_one PySem.W.kitx_int I.kIn True.intro e (fun z=>nomatch z) h
 | str y=>obtain ⟨t,q⟩:=(show ∃ t,u=Value.str y t from rx); cases q; exact PySem.W.kia_one PySem.W.kitx_str I.kIn True.intro e (fun z=>nomatch z) h
 | flt y=>obtain ⟨t,q⟩:=(show ∃ t,u=Value.float y t from rx); cases q; exact PySem.W.kia_one PySem.W.kitx_float I.kIn True.intro e (fun z=>nomatch z) h
 | @lst a xs ea =>
  cases (show u=Value.ref a from rx);obtain ⟨_,_,n,_,h1⟩:=(show Yd X.prog X.w H s.heap a (.lst xs) from I.hok a _ ea)
  exact PySem.W.kia_one PySem.W.kitx_list I.kIn ⟨_,h1,rfl⟩ e (fun z=>nomatch z) h
 | @frz a ob xs ea =>
  cases (show u=Value.ref a from rx);obtain ⟨_,_,_,n,_,h1⟩:=(show Yd X.prog X.w H s.heap a (.frz ob (.lst xs)) from I.hok a _ ea)
  exact PySem.W.kia_one PySem.W.kitx_list I.kIn ⟨_,h1,rfl⟩ e (fun z=>nomatch z) h
 | @tup a xs ea =>
  cases (show u=Value.ref a from rx);obtain ⟨_,_,_,p⟩:=(show Yd X.prog X.w H s.heap a (.tup xs) from I.hok a _ ea)
  obtain ⟨o,h1,h2,_⟩:=p;exact PySem.W.kia_one PySem.W.kitx_tuple I.kIn ⟨o,h1,h2⟩ e (fun z=>nomatch z) h
 | @dK a kvs ea =>
  cases (show u=Value.ref a from rx);obtain ⟨_,_,vs,_,p⟩:=(show Yd X.prog X.w H s.heap a (.dK kvs) from I.hok a _ ea)
  obtain ⟨o,es,ep,h1,h2,_⟩:=p;exact PySem.W.kia_one PySem.W.kitx_dict I.kIn ⟨o,h1,h2.1⟩ e (fun z=>nomatch z) h
 | @dT a kvs ea =>
  cases (show u=Value.ref a from rx);obtain ⟨_,_,xs,_,o,es,ep,h1,h2,_⟩:=(show Yd X.prog X.w H s.heap a (.dT kvs) from I.hok a _ ea)
  exact PySem.W.kia_one PySem.W.kitx_dict I.kIn ⟨o,h1,h2.1⟩ e (fun z=>nomatch z) h
 | @ins a C dx fs ea cl ha hn htk hm =>
  cases (show u=Value.ref a from rx);obtain ⟨mA,O,_⟩:=Je6 I.hok ea;obtain ⟨od,J,_⟩:=O.look;exact PySem.W.kia_one (PySem.W.kitx_own (cl.get _) cl.hd ha hn htk hm) I.kIn J e (fun z=>nomatch z) h
end
end L2
namespace L2
open PySem PySem.Spec PyProof.Rows
structure YA (k:Nat) (A:Around):Prop where
 hd:A.handled=none
 dp:A.depth + 3 * k + 5 < recursionLimit
 un:A.units + 16 * k + 200 < cLine
theorem YA.mono {j k:Nat} {A:Around} (r:YA k A) (h:j≤k):YA j A:=⟨r.hd,by have:=r.dp; omega,by have:=r.un; omega⟩
theorem YA.deeper {k:Nat} {A:Around} (r:YA (k + 1) A) (env:Env):YA k (A.deeper env) :=
 ⟨r.hd,by have:=r.dp; show A.depth + 1 + 3 * k + 5 < _; omega,by have:=r.un; show A.units + 3 + 16 * k + 200 < _; omega⟩
theorem YA.in1 {k:Nat} {A:Around} (r:YA (k + 1) A):YA k A.in1 :=
 ⟨r.hd,by have:=r.dp; show A.depth + 3 * k + 5 < _; omega,by have:=r.un; show A.units + 1 + 16 * k + 200 < _; omega⟩
theorem JkE {A:Around} {C:Addr} {us:List Value} {kw:List (Str×Value)}:(A.under (.builtin "type.__call__" ⟨.ref C :: us,kw⟩)).depth=A.depth + 1:=by
 first | rfl | simp [Around.under,Code.weight,Code.isCreation,Code.isGuard,Code.isCaller,Code.frames,Code.isFrame,guardIds]
theorem JkD {A:Around} {C:Addr} {us:List Value} {kw:List (Str×Value)}:(A.under (.builtin "type.__call__" ⟨.ref C :: us,kw⟩)).units=A.units + 1:=by
 first | rfl | simp [Around.under,Code.cUnits,Code.frames,Code.isFrame]
theorem YA.make {k:Nat} {A:Around} (r:YA (k + 1) A) (C:Addr) (us:List Value) (kw:List (Str×Value)):YA k (A.under (.builtin "type.__call__" ⟨.ref C :: us,kw⟩)) :=
 ⟨r.hd,by have:=r.dp; rw [JkE]; omega,by have:=r.un; rw [JkD]; omega⟩
theorem YA.depth {k:Nat} {A:Around} (r:YA k A):A.depth < recursionLimit:=by have:=r.dp; omega
theorem YA.units {k:Nat} {A:Around} (r:YA k A):A.units + 64 < cLine:=by have:=r.un; omega
theorem YA.units0 {k:Nat} {A:Around} (r:YA k A):A.units < cLine:=by have:=r.un; omega
def Jqw:TA:=fun _ H Q=>Q [] H
def JpS (ta:TE) (tr:TA):TA:=fun σ H Q=>ta σ H fun x H1=>tr σ H1 fun xs H2=>Q (x :: xs) H2
section
variable {X:Cx} {e:Expr} {es:List Expr} {te:TE} {t:TA} {pos:Pos}
theorem Jb:PA X [] Jqw:=fun _ _ _ _ H Q I h=>Calls.spliced_nil ⟨[],H,I,.nil,h⟩
theorem Ja (ha:PE X e te) (hr:PA X es t) (hs:starEach (e :: es) X.env=(false,eval e X.env) :: starEach es X.env:=by rfl):PA X (e :: es) (JpS te t):=by
 intro pos pins s σ H Q I h;rw [hs];show wpAny _ _ (spliced ((false,eval e X.env) :: backTo pos (starEach es X.env))) _ _ s;refine Calls.spliced_cons (JH (ha pins s σ H _ I h) fun u s1 ⟨x,H1,I1,r1,q1⟩=>?_);exact JH (hr pos pins s1 σ H1 _ I1 q1) fun us s2 ⟨xs,H2,I2,r2,q2⟩=>⟨x :: xs,H2,I2,.cons r1 r2,q2⟩
def Jqr (t:TA):TE:=fun σ H Q=>t σ H fun xs H1=>xs.length≤sizeLine∧∀ p,H1 p=none→Q (.ref p) (upd H1 p (.tup xs))
def Jqy (t:TA):TE:=fun σ H Q=>t σ H fun xs H1=>xs.length≤sizeLine∧∀ p,H1 p=none→Q (.ref p) (upd H1 p (.lst xs))
theorem YG {x1} (h:PA X es t):PE X (.Tuple es x1 pos) (Jqr t):=by
 intro pins s σ H Q I hq;refine wpAny_Tuple_spliced (JH (h pos pins s σ H _ I hq) fun us s1 ⟨xs,H1,I1,r,z,q⟩=>⟨by rw [← r.length]; exact z,?_⟩);have hf:H1 s1.heap.objs.size=none:=I1.hok.fresh (Nat.le_refl _);refine ⟨.ref s1.heap.objs.size,upd H1 s1.heap.objs.size (.tup xs),I1.laid (t':=s1.toks) (fun b u e=>Heap.get?_push_of_some _ e) (Nat.le_refl _) ?_,rfl,q _ hf⟩;exact ⟨z,us,r,⟨_,Heap.get?_push_size _ rfl,rfl,_,rfl⟩⟩
theorem Yj (h:PA X es t):PE X (.List es pos) (Jqy t):=by
 intro pins s σ H Q I hq;refine wpAny_List_spliced (JH (h pos pins s σ H _ I hq) fun us s1 ⟨xs,H1,I1,r,z,q⟩=>⟨by rw [← r.length]; exact z,?_⟩);have hf:H1 s1.heap.objs.size=none:=I1.hok.fresh (Nat.le_refl _);refine ⟨.ref s1.heap.objs.size,upd H1 s1.heap.objs.size (.lst xs),I1.laid (t':=s1.toks) (fun b u e=>Heap.get?_push_of_some _ e) (Nat.le_refl _) ?_,rfl,q _ hf⟩;exact ⟨z,us,0,r,Heap.get?_push_size _ rfl⟩
end
abbrev Sp:=List V→Hp→VK→XK→Prop
abbrev CXT:=List Env→Hp→Shared→XK→Value→Shared→Prop
structure Jdp (P:Program) (w:World) (K:PySem.W.Frag) (mg:Str→Option Value) (base:Heap) (A:Around) (outer:List Env) (s:Shared) (H:Hp):Prop where
 frames:A.frames=some outer
 mod:Mod K mg base
 bs:∀ b o,base.get? b=some o→s.heap.get? b=some o∧H b=none
 bsz:base.objs.size≤s.heap.objs.size
 funs:s.heap.FunFrames base outer
 frf:∀ b∈Zm outer,H b=none
 hok:Zn P w H s.heap
 bare:AllBare s.gens
def CE (outer:List Env) (P:Program) (w:World) (H:Hp) (s:Shared) (Q:VK) (u:Value) (s':Shared):Prop :=
 ∃ v H',s'.os=s.os∧AllBare s'.gens∧Un (Zm outer) [] H H' s.heap s'.heap∧Zn P w H' s'.heap∧JF v u∧Q v H'
def CR (CX:CXT) (outer:List Env) (P:Program) (w:World) (H:Hp) (s:Shared) (Q:VK) (E:XK) (r:Result) (s':Shared):Prop :=
 match r with
 | .ok (.ret u)=>CE outer P w H s Q u s'
 | .ok _=>False
 | .error e=>CX outer H s E e s'
structure JN (P:Program) (w:World) (K:PySem.W.Frag) (mg:Str→Option Value) (base:Heap) (CX:CXT) (k:Nat) (f:Addr) (fd:FuncData) (ps:List Str) (sp:Sp):Prop where
 len:∀ vs H Q E,sp vs H Q E→vs.length=ps.length
 run:∀ (A:Around) (outer:List Env) (s:Shared) (H:Hp) (args:Args) (us:List Value) (vs:List V) (Q:VK) (E:XK),YA k A→Jdp P w K mg base A outer s H→BindsTo s fd args (ps.zip us)→Jz vs us→sp vs H Q E →
  codeAny (model P w) A (.call (.ref f) args) (CR CX outer P w H s Q E) s
theorem JN.mono {P:Program} {w:World} {K:PySem.W.Frag} {mg:Str→Option Value} {base:Heap} {CX:CXT} {j k:Nat} {f:Addr} {fd:FuncData} {ps:List Str} {sp:Sp} (F:JN P w K mg base CX j f fd ps sp) (h:j≤k) :
  JN P w K mg base CX k f fd ps sp:=⟨F.len,fun A outer s H args us vs Q E hr=>F.run A outer s H args us vs Q E (hr.mono h)⟩
theorem JN.imp {P:Program} {w:World} {K:PySem.W.Frag} {mg:Str→Option Value} {base:Heap} {CX:CXT} {k:Nat} {f:Addr} {fd:FuncData} {ps:List Str} {sp sp':Sp} (F:JN P w K mg base CX k f fd ps sp)
  (h:∀ vs H Q E,sp' vs H Q E→sp vs H Q E):JN P w K mg base CX k f fd ps sp' :=
 ⟨fun vs H Q E q=>F.len vs H Q E (h _ _ _ _ q),fun A outer s H args us vs Q E hr he hb hv hs=>F.run A outer s H args us vs Q E hr he hb hv (h _ _ _ _ hs)⟩
theorem Jdp.make {P:Program} {w:World} {K:PySem.W.Frag} {mg:Str→Option Value} {base:Heap} {A:Around} {outer:List Env} {s:Shared} {H:Hp} (e:Jdp P w K mg base A outer s H) (C:Addr) (us:List Value) (kw:List (Str×Value)) :
  Jdp P w K mg base (A.under (.builtin "type.__call__" ⟨.ref C :: us,kw⟩)) outer s H:=⟨by first | exact e.frames | (simpa [Around.under,Code.envs,Code.isFrame,pushEnvs] using e.frames),e.mod,e.bs,e.bsz,e.funs,e.frf,e.hok,e.bare⟩
theorem Jdp.in1 {P:Program} {w:World} {K:PySem.W.Frag} {mg:Str→Option Value} {base:Heap} {A:Around} {outer:List Env} {s:Shared} {H:Hp} (e:Jdp P w K mg base A outer s H) :
  Jdp P w K mg base A.in1 outer s H:=⟨e.frames,e.mod,e.bs,e.bsz,e.funs,e.frf,e.hok,e.bare⟩
section
variable {X:Cx} {pins:List (Addr×Obj)} {σ:St} {H:Hp} {s s':Shared}
theorem Jk.env0 (I:Jk X pins σ H s):Jdp X.prog X.w X.K X.mg X.base X.A X.stack s H :=
 ⟨I.ok.frames,I.ok.mod,I.bs,Nat.le_trans I.ok.bsz I.sz,I.stack,I.stkFree,I.hok,I.bare⟩
theorem Jk.after {Q:VK} {u:Value} (I:Jk X pins σ H s) (h:CE X.stack X.prog X.w H s Q u s'):EP X pins σ Q u s':=by
 obtain ⟨v,H',os,bare,un,hok,r,q⟩:=h;obtain ⟨hh,g,d,t,os'⟩:=s';obtain rfl:os'=s.os:=os;exact ⟨v,H',I.call (h':=hh) (g':=g) (d':=d) (t':=t) (ch:=[]) un hok bare (fun b z=>absurd z (by simp)),r,q⟩
end
def JnH (sp:Sp) (dvs:List V) (E:XK) (t:TA):TE:=fun σ H Q=>t σ H fun vs H1=>sp (vs ++ dvs) H1 Q E
def JpM (C:Addr) (m:Str) (sp:Sp) (dvs:List V) (E:XK) (ta:TE) (t:TA):TE:=fun σ H Q=>ta σ H fun x H1=>∃ a dx fs,x=.ref a∧H1 a=some (.ins C dx fs)∧fs.lookup m=none ∧
 t σ H1 fun vs H2=>sp (x :: (vs ++ dvs)) H2 Q E
def JpN (C:Addr) (sp:Sp) (dvs:List V) (E:XK) (t:TA):TE:=fun σ H Q=>t σ H fun vs H1=>∀ x dx,H1 x=none→H1 dx=none→dx≠x →
 sp (.ref x :: (vs ++ dvs)) (upd (upd H1 dx (.own x)) x (.ins C dx [])) (fun v H2=>v=.non∧Q (.ref x) H2) E
def JbW (K:PySem.W.Frag) (fd:FuncData) (ps:List Str) (ds:List Value):Prop :=
 ∀ (s:Shared) (us:List Value),K.In s.heap→(us ++ ds).length=ps.length→BindsTo s fd ⟨us,[]⟩ (ps.zip (us ++ ds))
theorem JbW.all {K:PySem.W.Frag} {fd:FuncData} {ps:List Str} (h:∀ us:List Value,us.length=ps.length→bindArgs fd ⟨us,[]⟩=pure (ps.zip us)):JbW K fd ps []:=fun s us _ hl=>by
 rw [List.append_nil] at hl ⊢;exact .of_eq (h us hl)
def Jbp (CX:CXT) (X:Cx) (E:XK):Prop:=∀ (pins:List (Addr×Obj)) (σ:St) (H:Hp) (s:Shared) (e:Value) (s':Shared),Jk X pins σ H s→CX X.stack H s E e s'→X.xe e s'
section
variable {X:Cx} {CX:CXT} {k:Nat} {f C:Addr} {fd:FuncData} {ps:List Str} {sp:Sp} {dvs:List V} {ds:List Value} {E:XK} {x m:Str} {p pos apos:Pos} {e o:Expr} {es:List Expr} {ta:TE} {t:TA}
theorem Jlp {pins:List (Addr×Obj)} {σ:St} {H:Hp} {s:Shared} {Q:VK} {us:List Value} {vs:List V} (F:JN X.prog X.w X.K X.mg X.base CX k f fd ps sp) (hr:YA k X.A) (hb:JbW X.K fd ps ds) (hd:Jz dvs ds) (hx:Jbp CX X E)
  (I:Jk X pins σ H s) (r:Jz vs us) (h:sp (vs ++ dvs) H Q E):wpAny (model X.prog X.w) X.A (call (.ref f) us) (EP X pins σ Q) X.xe s:=by
 have r2:Jz (vs ++ dvs) (us ++ ds):=r.append hd;have hl:(us ++ ds).length=ps.length:=by rw [← r2.length]; exact F.len _ _ _ _ h
 refine wpAny_call (codeAny_mono (F.run X.A X.stack s H ⟨us,[]⟩ (us ++ ds) (vs ++ dvs) Q E hr I.env0 (hb s us I.kIn hl) r2 h) fun r s' hq=>?_);cases r with
 | error e=>exact hx pins σ H s e s' I hq
 | ok fl =>
  cases fl with
  | ret u=>exact I.after hq
  | next=>exact False.elim hq
  | brk=>exact False.elim hq
  | cont=>exact False.elim hq
theorem Joo (F:JN X.prog X.w X.K X.mg X.base CX k f fd ps sp) (hr:YA k X.A) (hg:Gl X x) (hm:X.mg x=some (.ref f)) (hk:PySem.W.keepIn X.K (.ref f)=true) (hb:JbW X.K fd ps ds) (hd:Jz dvs ds) (hx:Jbp CX X E)
  (ha:PA X (e :: es) t) (hdb:(x == ("__debug__" : Str))=false:=by decide) (he:starEach (e :: es) X.env=(false,eval e X.env) :: starEach es X.env:=by rfl) (hpl:(backTo pos (starEach es X.env)).any (·.1)=false:=by rfl) :
  PE X (.Call (.Name x p) (e :: es) [] pos) (JnH sp dvs E t):=by
 intro pins s σ H Q I h;refine wpAny_Call_Name_kw (Je3 I hg hm ?_ hdb);refine PySem.W.callWith_K (h₀:=X.base) I.ok.mod.kin hk (JH (ha pos pins s σ H _ I h) fun us s1 ⟨vs,H1,I1,r,q⟩=>⟨I1.kIn,?_⟩) he hpl;exact Jlp F hr hb hd hx I1 r q
theorem J0 {pl:Sem Bool} (he:PE X o ta) (c:Cls X.K C) (hm:JnB X.K C m f) (F:JN X.prog X.w X.K X.mg X.base CX k f fd ps sp) (hr:YA k X.A) (hb:JbW X.K fd ps ds) (hd:Jz dvs ds) (hx:Jbp CX X E) (ha:PA X (e :: es) t)
  (hst:starEach (e :: es) X.env=(false,eval e X.env) :: starEach es X.env:=by rfl) (hpl:(backTo pos (starEach es X.env)).any (·.1)=false:=by rfl)
  (ht:eval (.Call (.Attribute o m apos) (e :: es) [] pos) X.env=(do
   let ov ← eval o X.env
   standAt apos.atName
   let (f,first) ← holding [ov] (getMethod ov m pl)
   callWith pos f first (backTo pos (starEach (e :: es) X.env)) (backToKw pos (keywordEach [] X.env))):=by rfl) :
  PE X (.Call (.Attribute o m apos) (e :: es) [] pos) (JpM C m sp dvs E ta t):=by
 intro pins s σ H Q I h;refine PySem.W.methodCall_KW (pl:=pl) (JH (he pins s σ H _ I h) fun u s1 ⟨x,H1,I1,rx,a,dx,fs,ex,ea,l,q⟩=>?_) ht;subst ex;obtain rfl:u=Value.ref a:=rx;refine JkG I1 ea c hm l ?_;refine PySem.W.callWith_K (first:=[.ref a]) (h₀:=X.base) I.ok.mod.kin hm.kp (JH (ha pos pins s1 σ H1 _ I1 q) fun us s2 ⟨vs,H2,I2,r,q2⟩=>⟨I2.kIn,?_⟩) hst hpl;exact Jlp (us:=.ref a :: us) (vs:=.ref a :: vs) F hr hb hd hx I2 (.cons rfl r) q2
structure Mk (K:PySem.W.Frag) (C f:Addr):Prop where
 makes:PySem.W.makesIn K C=true
 init:PySem.W.findIn K (.ref C) "__init__" = some (some (.ref f))
 fn:PySem.W.isFn K (.ref f)=true
 kp:PySem.W.keepIn K (.ref C)=true
theorem Jm1 {pins:List (Addr×Obj)} {σ:St} {H:Hp} {s:Shared} {Q:VK} {us:List Value} {vs:List V} (M:Mk X.K C f) (F:JN X.prog X.w X.K X.mg X.base CX k f fd ps sp) (hr:YA (k + 1) X.A) (hb:JbW X.K fd ps ds) (hd:Jz dvs ds)
  (hx:Jbp CX X E) (I:Jk X pins σ H s) (r:Jz vs us)
  (h:∀ x dx,H x=none→H dx=none→dx≠x→sp (.ref x :: (vs ++ dvs)) (upd (upd H dx (.own x)) x (.ins C dx [])) (fun v H2=>v=.non∧Q (.ref x) H2) E) :
  wpAny (model X.prog X.w) X.A (call (.ref C) us) (EP X pins σ Q) X.xe s:=by
 have hq:=h (s.heap.objs.size + 1) s.heap.objs.size (I.hok.fresh (Nat.le_succ _)) (I.hok.fresh (Nat.le_refl _)) (Nat.ne_of_lt (Nat.lt_succ_self _));have I2:=Jk.made (C:=C) I;have r2:Jz (V.ref (s.heap.objs.size + 1) :: (vs ++ dvs)) (Value.ref (s.heap.objs.size + 1) :: (us ++ ds)):=.cons rfl (r.append hd);have hl:(Value.ref (s.heap.objs.size + 1) :: us ++ ds).length=ps.length:=by
  have e:=r2.length;rw [F.len _ _ _ _ hq] at e;exact e.symm
 refine wpAny_call (Jnj (f:=f) I.kIn M.makes M.init (beq_iff_eq.mp M.fn) (codeAny_mono (F.run _ X.stack _ _ ⟨Value.ref (s.heap.objs.size + 1) :: us,[]⟩ (Value.ref (s.heap.objs.size + 1) :: (us ++ ds)) _ _ E (hr.make C us [])
  (I2.env0.make C us []) (hb _ (Value.ref (s.heap.objs.size + 1) :: us) I2.kIn hl) r2 hq) fun r s' hq'=>?_))
 cases r with
 | error e=>exact hx pins σ _ _ e s' I2 hq'
 | ok fl =>
  cases fl with
  | ret u =>
   obtain ⟨v,H',I3,rv,ev,q3⟩:=I2.after hq';subst ev;exact ⟨rv,⟨V.ref (s.heap.objs.size + 1),H',I3,rfl,q3⟩⟩
  | next=>exact False.elim hq'
  | brk=>exact False.elim hq'
  | cont=>exact False.elim hq'
theorem JjP (M:Mk X.K C f) (F:JN X.prog X.w X.K X.mg X.base CX k f fd ps sp) (hr:YA (k + 1) X.A) (hg:Gl X x) (hm:X.mg x=some (.ref C)) (hb:JbW X.K fd ps ds) (hd:Jz dvs ds) (hx:Jbp CX X E)
  (ha:PA X (e :: es) t) (hdb:(x == ("__debug__" : Str))=false:=by decide) (he:starEach (e :: es) X.env=(false,eval e X.env) :: starEach es X.env:=by rfl) (hpl:(backTo pos (starEach es X.env)).any (·.1)=false:=by rfl) :
  PE X (.Call (.Name x p) (e :: es) [] pos) (JpN C sp dvs E t):=by
 intro pins s σ H Q I h;refine wpAny_Call_Name_kw (Je3 I hg hm ?_ hdb);refine PySem.W.callWith_K (h₀:=X.base) I.ok.mod.kin M.kp (JH (ha pos pins s σ H _ I h) fun us s1 ⟨vs,H1,I1,r,q⟩=>⟨I1.kIn,?_⟩) he hpl;exact Jm1 M F hr hb hd hx I1 r q
end
structure Jx (N P:List Str) (sc:Scope):Prop where
 kind:sc.kind=.function
 co:sc.isCoroutine=false
 gen:sc.isGenerator=false
 nd:N.Nodup
 pre:N.take P.length=P
 par:∀ x∈P,sc.names.lookup x=some .local∨sc.names.lookup x=some .cell
 nofree:∀ y∈sc.names,y.2≠.free
theorem JhQ {kindOf:Str→Option NameKind} {x:Str}:∀ {binds:List (Str×Value)} {m:Str→Option Value},(∀ v,(x,v)∉binds)→bindL kindOf binds m x=m x
 | [],_,_=>rfl
 | (n,v) :: r,m,h=>by
  unfold bindL;rw [JhQ fun w hw=>h w (List.mem_cons_of_mem _ hw)];split
  ·have:x≠n:=by rintro rfl; exact h v List.mem_cons_self
   simp [this]
  ·rfl
theorem JhS {kindOf:Str→Option NameKind} {x:Str}:∀ {binds:List (Str×Value)} {m:Str→Option Value},(∀ v,(x,v)∉binds)→bindC kindOf binds m x=m x
 | [],_,_=>rfl
 | (n,v) :: r,m,h=>by
  unfold bindC;rw [JhS fun w hw=>h w (List.mem_cons_of_mem _ hw)];split
  ·rfl
  ·have:x≠n:=by rintro rfl; exact h v List.mem_cons_self
   simp [this]
theorem JhR {kindOf:Str→Option NameKind} {x:Str} {v:Value}:∀ {P:List Str} {vs:List Value} {i:Nat} {m:Str→Option Value},P.Nodup→P[i]?=some x→vs[i]?=some v→kindOf x=some .local →
  bindL kindOf (P.zip vs) m x=some v
 | [],_,_,_,_,h,_,_=>by simp at h
 | _ :: _,[],_,_,_,_,h,_=>by simp at h
 | p :: P,w :: vs,0,m,nd,h1,h2,hk=>by
  simp at h1 h2; subst h1; subst h2;show bindL kindOf ((p,w) :: P.zip vs) m p=_;unfold bindL;rw [JhQ fun v hv=>(List.nodup_cons.mp nd).1 (List.of_mem_zip hv).1,if_pos hk];simp
 | p :: P,w :: vs,i + 1,m,nd,h1,h2,hk=>by
  show bindL kindOf ((p,w) :: P.zip vs) m x=_;unfold bindL;exact JhR (i:=i) (List.nodup_cons.mp nd).2 (by simpa using h1) (by simpa using h2) hk
theorem JhT {kindOf:Str→Option NameKind} {x:Str} {v:Value}:∀ {P:List Str} {vs:List Value} {i:Nat} {m:Str→Option Value},P.Nodup→P[i]?=some x→vs[i]?=some v→kindOf x≠some .local →
  bindC kindOf (P.zip vs) m x=some v
 | [],_,_,_,_,h,_,_=>by simp at h
 | _ :: _,[],_,_,_,_,h,_=>by simp at h
 | p :: P,w :: vs,0,m,nd,h1,h2,hk=>by
  simp at h1 h2; subst h1; subst h2;show bindC kindOf ((p,w) :: P.zip vs) m p=_;unfold bindC;rw [JhS fun v hv=>(List.nodup_cons.mp nd).1 (List.of_mem_zip hv).1,if_neg hk];simp
 | p :: P,w :: vs,i + 1,m,nd,h1,h2,hk=>by
  show bindC kindOf ((p,w) :: P.zip vs) m x=_;unfold bindC;exact JhT (i:=i) (List.nodup_cons.mp nd).2 (by simpa using h1) (by simpa using h2) hk
def Ym (N:List Str) (vs:List V):St:=vs.map some ++ List.replicate (N.length - vs.length) none
def Zs (CX:CXT) (P:Program) (w:World) (K:PySem.W.Frag) (mg:Str→Option Value) (base:Heap) (N:List Str) (qual:Str) (scope:Scope) (f:Addr) (cd:Value) (A:Around) (outer:List Env) (s:Shared) (H:Hp) (E:XK):Cx where
 prog:=P
 w:=w
 K:=K
 mg:=mg
 base:=base
 A:=A.deeper (envOfC qual scope s.heap.objs.size f cd)
 N:=N
 s₀:=s
 H₀:=H
 env:=envOfC qual scope s.heap.objs.size f cd
 outer:=outer
 stack:=envOfC qual scope s.heap.objs.size f cd :: outer
 ex:=[]
 calm:=true
 fn:=fun _=>true
 pn:=[]
 xe:=fun e s'=>wpAny (model P w) (A.deeper (envOfC qual scope s.heap.objs.size f cd)) (leaving (envOfC qual scope s.heap.objs.size f cd) e) (fun _ s''=>CX outer H s E e s'') (fun e' s''=>CX outer H s E e' s'') s'
theorem Jjh {sc:Scope} {n:Nat} {x:Str} (h:sc.names.lookup x=some .cell):∃ c,(cellsFrom n sc.names []).lookup x=some c:=by
 have q:=PySem.W.cellsFrom_some sc.names n [] (.inl h);exact Option.isSome_iff_exists.mp q
theorem JlV {CX:CXT} {P:Program} {w:World} {K:PySem.W.Frag} {mg:Str→Option Value} {base:Heap} {N ps:List Str} {qual:Str} {scope:Scope} {f:Addr} {cd:Value} {A:Around} {outer:List Env} {s s1:Shared} {H:Hp} {E:XK} {us:List Value} {vs:List V}
  (S:Jx N ps scope) (hd:A.handled=none) (e0:Jdp P w K mg base A outer s H) (hl:vs.length=ps.length) (r:Jz vs us)
  (x:InCallC s s.heap.objs.size (bindL (envOfC qual scope s.heap.objs.size f cd).kindOf (ps.zip us) fun _=>none) (cellsFrom (s.heap.objs.size + 1) scope.names []) (bindC (envOfC qual scope s.heap.objs.size f cd).kindOf (ps.zip us) fun _=>none) s1) :
  Jk (Zs CX P w K mg base N qual scope f cd A outer s H E) [] (Ym N vs) H s1:=by
 have hpl:ps.length≤N.length:=by have:=congrArg List.length S.pre; rw [List.length_take] at this; omega
 obtain ⟨h1,tk,rfl,hk⟩:=x.done;have noA:∀ b:Addr,b∉(Zs CX P w K mg base N qual scope f cd A outer s H E).ex:=fun b z=>absurd (show b∈([]:List Addr) from z) (by simp)
 refine ⟨⟨e0.mod,S.kind,rfl,rfl,Nat.le_refl _,fun y z c h1 h2=>?_,fun y hy=>?_,fun y c _ h=>?_,fun _=>hd,Around.frames_deeper e0.frames,.inr ⟨rfl,rfl⟩,fun b z=>absurd z (noA b),e0.bs,e0.bsz,fun b _ _=>noA b,fun b z=>absurd z (noA b),e0.funs,e0.frf⟩,
  rfl,e0.bare,Un.kept hk,⟨_,x.toInCall.ns,fun i y v h1 h2 h3=>?_⟩,fun y c h=>⟨_,x.cell y c h⟩,e0.hok.fresh (Nat.le_refl _),fun y c h=>?_,fun p hp=>absurd (show p∈([]:List (Addr×Obj)) from hp) (by simp),e0.hok.kept hk,?_⟩
 ·exact name_of_addr x.apart (PySem.mem_of_lookup h1) (PySem.mem_of_lookup h2)
 ·have hy:scope.names.lookup y=some .cell∨scope.names.lookup y=some .free:=hy;rcases hy with hy | hy
  ·exact Jjh hy
  ·exact absurd rfl (S.nofree _ (PySem.mem_of_lookup hy))
 ·exact Nat.le_of_lt (x.above y c (PySem.mem_of_lookup h))
 ·have hi:i < vs.length:=by
   unfold Ym at h2;by_cases hi:i < vs.length
   ·exact hi
   ·rw [List.getElem?_append_right (by simpa using hi)] at h2;rw [List.getElem?_replicate] at h2;split at h2 <;> cases h2
  have ha:vs[i]?=some v:=by
   unfold Ym at h2;rw [List.getElem?_append_left (by simpa using hi),List.getElem?_map] at h2;cases e:vs[i]? with
   | none=>rw [e] at h2; cases h2
   | some a=>rw [e] at h2; cases h2; rfl
  obtain ⟨u,hu,rv⟩:=r.get ha;have hp:ps[i]?=some y:=by
   rw [← S.pre,List.getElem?_take_of_lt (by omega)]; exact h1
  have ndP:ps.Nodup:=by rw [← S.pre]; exact S.nd.sublist (List.take_sublist _ _)
  refine ⟨u,rv,?_⟩;rcases S.par y (List.mem_of_getElem? hp) with k | k
  ·exact .inl ⟨k,JhR ndP hp hu k⟩
  ·obtain ⟨c,e⟩:=Jjh (n:=s.heap.objs.size + 1) k;refine .inr ⟨.inl k,c,e,?_⟩;have q:=x.cell y c e;rw [JhT ndP hp hu (by show scope.names.lookup y≠_; rw [k]; decide)] at q;exact q
 ·exact e0.hok.fresh (Nat.le_of_lt (x.above y c (PySem.mem_of_lookup h)))
 ·unfold Ym;show _=N.length;rw [List.length_append,List.length_map,List.length_replicate];omega
theorem JnQ {CX:CXT} {P:Program} {w:World} {K:PySem.W.Frag} {mg:Str→Option Value} {base:Heap} {k:Nat} {f:Addr} {name qual:Str} {params:Arguments} {body:List Stmt} {scope:Scope} {dV kV doc pm cdv ct oc:Value} {an od:Option Addr}
  {osl:Array (Option Value)} {N ps:List Str} {sp:Sp} (lk:K.lookup f=some ⟨oc,od,.func (PySem.W.fnOf name qual params body scope dV kV doc pm an cdv ct),osl⟩) (hcd:PySem.W.codeIn K cdv qual=true) (S:Jx N ps scope)
  (len:∀ vs H Q E,sp vs H Q E→vs.length=ps.length)
  (hbody:∀ (A:Around) (outer:List Env) (s:Shared) (H:Hp) (vs:List V) (Q:VK) (E:XK),YA k (A.deeper (envOfC qual scope s.heap.objs.size f cdv))→sp vs H Q E →
   ∃ t,PSs (Zs CX P w K mg base N qual scope f cdv A outer s H E) body t∧t { nx:=fun _ H'=>Q .non H',rt:=Q } (Ym N vs) H) :
  JN P w K mg base CX (k + 1) f (PySem.W.fnOf name qual params body scope dV kV doc pm an cdv ct) ps sp:=by
 refine ⟨len,fun A outer s H args us vs Q E hr e0 hb r hsp=>?_⟩;have hl:=len _ _ _ _ hsp;have KX:K.In s.heap:=e0.mod.kin.keeps fun b o e=>(e0.bs b o e).1
 have lim:s.heap.NoLimit:=e0.mod.nolimit.keeps fun b o e=>(e0.bs b o e).1
 have hkind:∀ y∈ps.zip us,scope.names.lookup y.1=some .local∨(scope.names.lookup y.1=some .cell∧((cellsFrom (s.heap.objs.size + 1) scope.names []).lookup y.1).isSome=true):=fun ⟨n,v⟩ hy=>by
  rcases S.par n (List.of_mem_zip hy).1 with q | q
  ·exact .inl q
  ·exact .inr ⟨q,PySem.W.cellsFrom_some _ _ _ (.inl q)⟩
 refine codeAny_call_function hr.depth (KX _ _ lk) rfl S.co S.gen rfl (PySem.W.codeRec_of KX hcd) (hb _ _ _ _ ?_);refine wpAny_newFunctionEnv_cells S.kind hkind fun env he s1 x=>?_
 subst he;refine ⟨lim.keeps x.toInCall.keep,codeAny_func ?_⟩;obtain ⟨t,ht,hq⟩:=hbody A outer s H vs Q E (hr.deeper _) hsp;have I:Jk (Zs CX P w K mg base N qual scope f cdv A outer s H E) [] (Ym N vs) H s1:=JlV S hr.hd e0 hl r x;refine wpAny_mono (ht [] s1 (Ym N vs) H _ I hq) (fun fl s' hs=>?_) fun e s' hs=>hs
 have fin:∀ {σ':St} {H':Hp} {v:V} {u:Value},Jk (Zs CX P w K mg base N qual scope f cdv A outer s H E) [] σ' H' s'→JF v u→Q v H'→CE outer P w H s Q u s' :=
  fun {σ' H' v u} J rv q=>⟨v,H',J.os,J.bare,J.base,J.hok,rv,q⟩
 cases fl with
 | ret u =>
  obtain ⟨v,σ',H',J,rv,q⟩:=hs;exact fin J rv q
 | next =>
  obtain ⟨σ',H',J,q⟩:=hs;exact fin (v:=V.non) (u:=Value.none) J rfl q
 | brk =>
  obtain ⟨_,_,_,q⟩:=hs;exact False.elim q
 | cont =>
  obtain ⟨_,_,_,q⟩:=hs;exact False.elim q
end L2
namespace L2
open PySem PySem.Spec PyProof.Rows
section
variable {X:Cx} {x:Str} {p pos:Pos} {e:Expr} {es:List Expr} {t:TA} {id T:String} {r:List V→Hp→VK→Prop}
def tCB (r:List V→Hp→VK→Prop) (t:TA):TE:=fun σ H Q=>t σ H fun vs H1=>r vs H1 Q
theorem JS (hc:Y9 X (.builtin id) r) (hg:Gl X x) (hm:X.mg x=none) (hv:bootBuiltins x=some (.builtin id)) (ha:PA X (e :: es) t) (hn:x ≠ "__name__":=by decide) (hdb:(x == ("__debug__" : Str))=false:=by decide)
  (he:starEach (e :: es) X.env=(false,eval e X.env) :: starEach es X.env:=by rfl) (hpl:(backTo pos (starEach es X.env)).any (·.1)=false:=by rfl):PE X (.Call (.Name x p) (e :: es) [] pos) (tCB r t):=by
 intro pins s σ H Q I h;refine wpAny_Call_Name_kw (JcU I hg hm hv ?_ hn hdb);exact PyProof.Rows.callWith_builtin1 (JH (ha pos pins s σ H _ I h) fun us s1 ⟨vs,H1,I1,r1,q1⟩=>hc pins s1 σ H1 vs us Q I1 r1 q1) he hpl
theorem Zb (hc:Y9 X (.type T) r) (hg:Gl X x) (hm:X.mg x=none) (hv:bootBuiltins x=some (.type T)) (ha:PA X (e :: es) t) (hn:x ≠ "__name__":=by decide) (hdb:(x == ("__debug__" : Str))=false:=by decide)
  (he:starEach (e :: es) X.env=(false,eval e X.env) :: starEach es X.env:=by rfl) (hpl:(backTo pos (starEach es X.env)).any (·.1)=false:=by rfl):PE X (.Call (.Name x p) (e :: es) [] pos) (tCB r t):=by
 intro pins s σ H Q I h;refine wpAny_Call_Name_kw (JcU I hg hm hv ?_ hn hdb);exact PyProof.Rows.callWith_type1 (JH (ha pos pins s σ H _ I h) fun us s1 ⟨vs,H1,I1,r1,q1⟩=>hc pins s1 σ H1 vs us Q I1 r1 q1) he hpl
end
end L2
namespace HT
open PySem PyProof.Rows
section
variable {prog:Program} {w:World} {A:Around} {E:Value→Shared→Prop} {s:Shared}
def sIx (n d:Nat):Option Int→Nat
 | none=>d
 | some v=>if v < 0 then (v + (n:Int)).toNat else min v.toNat n
theorem Jm0 (n d:Nat):sIx n d none=d:=rfl
theorem JjI (n d k:Nat):sIx n d (some (k:Int))=min k n:=by
 show (if (k:Int) < 0 then ((k:Int) + (n:Int)).toNat else min (k:Int).toNat n)=min k n;rw [if_neg (by omega),Int.toNat_natCast]
end
end HT
namespace L2
open PySem PySem.Spec PyProof.Rows
abbrev TO:=St→Hp→(Option Int→Hp→Prop)→Prop
def PO (X:Cx) (e:Option Expr) (t:TO):Prop :=
 ∀ (pins:List (Addr×Obj)) (s:Shared) (σ:St) (H:Hp) (Q:Option Int→Hp→Prop),Jk X pins σ H s→t σ H Q →
  wpAny (model X.prog X.w) X.A (evalPart e X.env) (fun u s'=>∃ o H',Jk X pins σ H' s'∧IsPart u o∧Q o H') X.xe s
def Jn2:TO:=fun _ H Q=>Q none H
def JpI (t:TE):TO:=fun σ H Q=>t σ H fun x H1=>∃ i,x=.int i∧Q (some i) H1
section
variable {X:Cx} {e:Expr} {te:TE} {lo hi:Option Expr} {tl th:TO} {pos p2:Pos}
theorem JjN:PO X none Jn2:=by
 intro pins s σ H Q I h;rw [evalPart_none];exact wpAny_pure ⟨none,H,I,.none,h⟩
theorem JeZ (h:PE X e te):PO X (some e) (JpI te):=by
 intro pins s σ H Q I hw;rw [evalPart_some];refine JH (h pins s σ H _ I hw) fun u s1 ⟨x,H1,I1,r1,q1⟩=>?_
 obtain ⟨i,rfl,q⟩:=q1;obtain ⟨t,rfl⟩:=r1;exact ⟨some i,H1,I1,.int i t,q⟩
def SlR (X:Cx) (r:V→Option Int→Option Int→Hp→VK→Prop):Prop :=
 ∀ (pins:List (Addr×Obj)) (s:Shared) (σ:St) (H:Hp) (x:V) (v vl vu:Value) (lo hi:Option Int) (sl:Addr) (Q:VK),Jk X pins σ H s→JF x v→s.heap.IsSliceOf sl vl vu .none→IsPart vl lo→IsPart vu hi→r x lo hi H Q →
  ∃ T id,typeLookup (.type T) "__getitem__" = pure (some (.builtin id))∧s.TypeIs v T∧wpAny (model X.prog X.w) X.A (getItem v (.ref sl)) (EP X pins σ Q) X.xe s
def tSl (r:V→Option Int→Option Int→Hp→VK→Prop) (te:TE) (tl th:TO):TE:=fun σ H Q=>te σ H fun x H1=>tl σ H1 fun l H2=>th σ H2 fun u H3=>r x l u H3 Q
theorem Jfy {r:V→Option Int→Option Int→Hp→VK→Prop} (hr:SlR X r) (he:PE X e te) (hl:PO X lo tl) (hu:PO X hi th):PE X (.Subscript e (.Slice lo hi none p2) pos) (tSl r te tl th):=by
 intro pins s σ H Q I h;refine Subscript_ (JH (he pins s σ H _ I h) fun v s1 ⟨x,H1,I1,r1,q1⟩=>?_);refine wpAny_Slice (JH (hl pins s1 σ H1 _ I1 q1) fun vl s2 ⟨l,H2,I2,pl,q2⟩=>JH (hu pins s2 σ H2 _ I2 q2) fun vu s3 ⟨u,H3,I3,pu,q3⟩=>?_);rw [evalPart_none];refine wpAny_pure ?_;have I4:Jk X pins σ H3 { s3 with heap:=s3.heap.push { cls:=.type "slice",data:=.fields #[vl,vu,.none] } }:=I3.kept (t':=s3.toks) fun b ob q=>Heap.get?_push_of_some _ q
 obtain ⟨T,id,hT,ht,hg⟩:=hr pins { s3 with heap:=s3.heap.push { cls:=.type "slice",data:=.fields #[vl,vu,.none] } } σ H3 x v vl vu l u s3.heap.objs.size Q I4 r1 (Heap.IsSliceOf.new ..) pl pu q3;show wpAny (model X.prog X.w) X.A (subscriptTail e (.Slice lo hi none p2) v (.ref s3.heap.objs.size)) (EP X pins σ Q) X.xe { s3 with heap:=s3.heap.push { cls:=.type "slice",data:=.fields #[vl,vu,.none] } };exact tail_any (ops:=[.ref s3.heap.objs.size,v]) ht hT hg (by with_unfolding_all rfl)
def JaT (xs:List V) (lo hi:Option Int):List V:=(xs.drop (HT.sIx xs.length 0 lo)).take (HT.sIx xs.length xs.length hi - HT.sIx xs.length 0 lo)
theorem JjC (xs:List V) (lo hi:Option Int):(JaT xs lo hi).length≤xs.length:=by
 unfold JaT;rw [List.length_take,List.length_drop];omega
end
end L2
namespace L2
open PySem PySem.Spec PyProof.Rows
def ixN (n:Nat) (i:Int):Option Nat:=if 0≤i then (if i < n then some i.toNat else none) else if -(n:Int)≤i then some (i + n).toNat else none
def atI {α:Type} (xs:List α) (i:Int):Option α:=(ixN xs.length i).bind fun j=>xs[j]?
theorem JjV {n:Nat} {i:Int} {j:Nat} (h:ixN n i=some j):seqIndex? i n=some j∧j < n∧-(n:Int)≤i∧i < n:=by
 unfold ixN at h;by_cases h0:0≤i
 ·rw [if_pos h0] at h;by_cases h1:i < n
  ·rw [if_pos h1] at h;have e:i.toNat=j:=Option.some.inj h;exact ⟨by rw [seqIndex_of h0 h1,e],by omega,by omega,h1⟩
  ·rw [if_neg h1] at h; cases h
 ·rw [if_neg h0] at h;by_cases h1:-(n:Int)≤i
  ·rw [if_pos h1] at h;have e:(i + n).toNat=j:=Option.some.inj h;exact ⟨by rw [seqIndex_neg (by omega) h1,e],by omega,h1,by omega⟩
  ·rw [if_neg h1] at h; cases h
theorem Jhg {α:Type} {xs:List α} {i:Int} {v:α} (h:atI xs i=some v):∃ j,seqIndex? i xs.length=some j∧xs[j]?=some v∧j < xs.length∧-(xs.length:Int)≤i∧i < xs.length:=by
 unfold atI at h;cases e:ixN xs.length i with
 | none=>rw [e] at h; cases h
 | some j =>
  rw [e] at h;obtain ⟨h1,h2,h3,h4⟩:=JjV e;exact ⟨j,h1,h,h2,h3,h4⟩
theorem JbN {α:Type} {xs:List α} {j:Nat} {v:α} (h:xs[j]?=some v):atI xs (j:Int)=some v:=by
 have hj:j < xs.length:=(List.getElem?_eq_some_iff.mp h).1;have e:ixN xs.length (j:Int)=some j:=by
  unfold ixN;rw [if_pos (by omega),if_pos (by omega)]; simp
 unfold atI; rw [e]; exact h
def JoN (b:Expr):Prop:=∀ o i,subscripted b false o i=operate [o,i] (getItem o i)
def IxR (X:Cx) (r:R2):Prop :=
 ∀ (value slice:Expr) (pins:List (Addr×Obj)) (s:Shared) (σ:St) (H:Hp) (x y:V) (v u:Value) (Q:VK),Jk X pins σ H s→JF x v→JF y u→r x y H Q →
  subscripted slice false v u=operate [v,u] (getItem v u)→wpAny (model X.prog X.w) X.A (subscriptTail value slice v u) (EP X pins σ Q) X.xe s
def MtR (X:Cx) (id:String) (r:V→List V→Hp→VK→Prop):Prop :=
 ∀ (pins:List (Addr×Obj)) (s:Shared) (σ:St) (H:Hp) (x:V) (xs:List V) (v:Value) (us:List Value) (Q:VK),Jk X pins σ H s→JF x v→Jz xs us→r x xs H Q →
  wpAny (model X.prog X.w) X.A (call (.builtin id) (v :: us)) (EP X pins σ Q) X.xe s
section
variable {X:Cx} {a b:Expr} {ta tb:TE} {pos:Pos}
theorem JA {r:R2} (hr:IxR X r) (ha:PE X a ta) (hb:PE X b tb) (hs:JoN b):PE X (.Subscript a b pos) (tOp r ta tb):=by
 intro pins s σ H Q I h;exact Subscript_ (Jnu ha hb I h fun v u s2 x y H2 I2 rx ry q=>hr a b pins s2 σ H2 x y v u Q I2 rx ry q (hs _ _))
def JiF (K:PySem.W.Frag):R2:=fun x y H Q=>∃ p xs i v,x=.ref p∧y=.int i∧Js K H p xs∧atI xs i=some v∧Q v H
def Jm2 (K:PySem.W.Frag):R2:=fun x y H Q=>∃ p xs i v,x=.ref p∧y=.int i∧JK K H p xs∧atI xs i=some v∧Q v H
def JqH:R2:=fun x y H Q=>∃ z i c,x=.str z∧y=.int i∧z.length≤sizeLine∧atI z.cps.toList i=some c∧Q (.str ⟨#[c]⟩) H
theorem J4:IxR X (JiF X.K):=by
 intro value slice pins s σ H x y v u Q I rx ry h hs;obtain ⟨p,xs,i,z,rfl,rfl,hq,he,q⟩:=h;cases rx;obtain ⟨t,rfl⟩:=ry;obtain ⟨its,r,pl,hz⟩:=I.list hq;obtain ⟨j,h1,h2,h3,h4,h5⟩:=Jhg he;obtain ⟨w,ew,rw'⟩:=r.get h2;have hl:=r.length;have hn:=JdH;have fin:EP X pins σ Q w s:=⟨z,H,I,rw',q⟩
 by_cases h0:0≤i
 ·have hj:i.toNat=j:=by
   rw [seqIndex_of h0 h5] at h1;exact Option.some.inj h1
  exact item_listR pl.isList h0 (by omega) (by rw [hj]; simpa using ew) fin hs
 ·have hj:(i + (its.toArray.size:Int)).toNat=j:=by
   rw [seqIndex_neg (by omega) h4] at h1;rw [List.size_toArray,← hl];exact Option.some.inj h1
  exact subscriptTail_builtinR (x:=w) pl.isList.typeIs slot_list_getitem.lookup
   (wpAny_getItem_list_neg (Q:=fun r s'=>r=w∧EP X pins σ Q r s') pl.isList (by omega) (by rw [List.size_toArray] <;> omega) (by omega) (by rw [hj]; simpa using ew) ⟨rfl,fin⟩) hs
theorem JM:IxR X (Jm2 X.K):=by
 intro value slice pins s σ H x y v u Q I rx ry h hs;obtain ⟨p,xs,i,z,rfl,rfl,hq,he,q⟩:=h;cases rx;obtain ⟨t,rfl⟩:=ry;obtain ⟨its,r,pl,hz⟩:=I.tuple hq;obtain ⟨j,h1,h2,h3,h4,h5⟩:=Jhg he;obtain ⟨w,ew,rw'⟩:=r.get h2;have hl:=r.length;have hn:=JdH;have fin:EP X pins σ Q w s:=⟨z,H,I,rw',q⟩
 exact subscriptTail_builtinR (x:=w) pl.typeIs slot_tuple_getitem.lookup
  (getItem_tuple (j:=j) (Q:=fun r s'=>r=w∧EP X pins σ Q r s') pl (by omega) (by omega) (by rw [List.size_toArray,← hl]; exact h1) (by simpa using ew) ⟨rfl,fin⟩) hs
theorem JlT:IxR X JqH:=by
 intro value slice pins s σ H x y v u Q I rx ry h hs;obtain ⟨z,i,c,rfl,rfl,hz,he,q⟩:=h;obtain ⟨t,rfl⟩:=rx;obtain ⟨t',rfl⟩:=ry;obtain ⟨j,h1,h2,h3,h4,h5⟩:=Jhg he;have hl:z.cps.toList.length=z.length:=by simp [Str.length]
 rw [hl] at h1 h4 h5;have hn:=JdH;exact tail_any (typeIs_str s z t) slot_str_getitem.lookup (getItem_str (c:=c) (by
  have e1:decide (i < -(2 ^ 63:Int))=false:=decide_eq_false (by omega);have e2:decide (i≥2 ^ 63)=false:=decide_eq_false (by omega);rw [e1,e2,Bool.or_false]) (by rw [h1]; simpa using h2) ⟨.str ⟨#[c]⟩,H,I.tok _,⟨_,rfl⟩,q⟩) hs
theorem JkC (its:List Value) (n j:Nat) (u:Value):Obj.mapSeq (·.setIfInBounds j u) { cls:=.type "list",data:=.seq its.toArray n }={ cls:=.type "list",data:=.seq (its.set j u).toArray n }:=by
 simp [Obj.mapSeq]
theorem Jk.lst {pins:List (Addr×Obj)} {σ:St} {H:Hp} {s:Shared} {p:Addr} {xs:List V} (I:Jk X pins σ H s) (h:H p=some (.lst xs)) :
  ∃ (its:List Value) (n:Nat),Jz xs its∧s.heap.get? p=some { cls:=.type "list",data:=.seq its.toArray n }∧xs.length≤sizeLine:=by
 obtain ⟨z,its,n,r,e⟩:=I.hok p _ h;exact ⟨its,n,r,e,z⟩
theorem Jk.lstUpd {pins:List (Addr×Obj)} {σ:St} {H:Hp} {s:Shared} {p:Addr} {xs ys:List V} {its its':List Value} {n n':Nat} {f:Obj→Obj} (I:Jk X pins σ H s) (h:H p=some (.lst xs))
  (ho:s.heap.get? p=some { cls:=.type "list",data:=.seq its.toArray n }) (hf:f { cls:=.type "list",data:=.seq its.toArray n }={ cls:=.type "list",data:=.seq its'.toArray n' }) (r:Jz ys its') (hz:ys.length≤sizeLine) (t:Nat) :
  Jk X pins σ (upd H p (.lst ys)) { s with heap:=s.heap.update p f,toks:=t }:=by
 have e:(s.heap.update p f).get? p=some { cls:=.type "list",data:=.seq its'.toArray n' }:=by
  rw [Heap.get?_update_self f ho (by rw [hf] <;> rfl),hf]
 refine I.write (x:=p) (e:=p) (by rw [h]; trivial) (.inl rfl) (fun b u hb q=>(Heap.get?_update_other _ _ (Ne.symm hb)).trans q) ⟨_,e⟩ ?_;exact ⟨hz,its',n',r,e⟩
def JpY:V→V→V→Hp→(Hp→Prop)→Prop:=fun o i v H Q=>∃ p xs k j,o=.ref p∧i=.int k∧H p=some (.lst xs)∧ixN xs.length k=some j∧Q (upd H p (.lst (xs.set j v)))
theorem JmO:JpC X JpY:=by
 intro pins s σ H o i v ov iv u Q I ro ri rv h;obtain ⟨p,xs,k,j,rfl,rfl,hp,hj,q⟩:=h;cases ro;obtain ⟨t,rfl⟩:=ri;obtain ⟨its,n,r,ho,hz⟩:=I.lst hp;obtain ⟨h1,h2,h3,h4⟩:=JjV hj;have hl:=r.length;have hn:=JdH;have I':Jk X pins σ (upd H p (.lst (xs.set j v))) { s with heap:=s.heap.update p (Obj.mapSeq (·.setIfInBounds j u)) } :=
  I.lstUpd hp ho (JkC its n j u) (r.set rv j) (by rw [List.length_set]; exact hz) s.toks
 by_cases h0:0≤k
 ·have hk:k.toNat=j:=by
   rw [seqIndex_of h0 h4] at h1;exact Option.some.inj h1
  exact PySem.W.ki_setAt ho h0 (by omega) (by rw [List.size_toArray,← hl]; exact h4) (by rw [hk]; exact ⟨_,I',q⟩)
 ·have hk:(k + (its.toArray.size:Int)).toNat=j:=by
   rw [seqIndex_neg (by omega) h3] at h1;rw [List.size_toArray,← hl];exact Option.some.inj h1
  exact PySem.W.ki_setBack ho (by omega) (by rw [List.size_toArray,← hl]; exact h3) (by omega) (by rw [hk]; exact ⟨_,I',q⟩)
theorem Jiv (lo hi:Option Int) (n:Nat):(sliceBounds lo hi none n).1=((HT.sIx n 0 lo:Nat):Int)∧(sliceBounds lo hi none n).2.1=((HT.sIx n n hi:Nat):Int)∧(sliceBounds lo hi none n).2.2=1:=by
 refine ⟨?_,?_,rfl⟩
 ·cases lo with
  | none=>simp [sliceBounds,HT.sIx]
  | some i =>
   simp only [sliceBounds,HT.sIx,Option.getD_none,show (1:Int) > 0 by decide,if_true];by_cases h:i < 0
   ·simp only [h,if_true] <;> omega
   ·simp only [h,if_false] <;> omega
 ·cases hi with
  | none=>simp [sliceBounds,HT.sIx]
  | some i =>
   simp only [sliceBounds,HT.sIx,Option.getD_none,show (1:Int) > 0 by decide,if_true];by_cases h:i < 0
   ·simp only [h,if_true] <;> omega
   ·simp only [h,if_false] <;> omega
theorem Jh1 (its:List Value) (lo hi:Option Int):slicePick its.toArray lo hi none=((its.drop (HT.sIx its.length 0 lo)).take (HT.sIx its.length its.length hi - HT.sIx its.length 0 lo)).toArray:=by
 obtain ⟨h1,h2,h3⟩:=Jiv lo hi its.toArray.size;unfold slicePick;rw [h1,h2,h3];simp only [sliceRange_one,pick_run,List.size_toArray] <;> rfl
def JqF (K:PySem.W.Frag):V→Option Int→Option Int→Hp→VK→Prop:=fun x lo hi H Q=>∃ a xs,x=.ref a∧Js K H a xs∧∀ p,H p=none→Q (.ref p) (upd H p (.lst (JaT xs lo hi)))
theorem JgK:SlR X (JqF X.K):=by
 intro pins s σ H x v vl vu lo hi sl Q I rx hs pl pu h;obtain ⟨a,xs,rfl,hx,q⟩:=h;cases rx;obtain ⟨its,r,ht,hz⟩:=I.list hx;have hlen:=r.length;refine ⟨"list",_,slot_list_getitem.lookup,ht.isList.typeIs,?_⟩;refine wpAny_getItem_list_slice ht.isList hs pl pu .none (by simp) ?_ (by rw [List.size_toArray] <;> omega);rw [Jh1,← hlen];refine ⟨.ref s.heap.objs.size,_,I.laid (t':=s.toks) (o:=.lst (JaT xs lo hi)) (fun b ob q=>Heap.get?_push_of_some _ q) (Nat.le_refl _) ?_,rfl,q _ (I.hok.fresh (Nat.le_refl _))⟩;exact ⟨Nat.le_trans (JjC xs lo hi) hz,_,0,(r.drop (HT.sIx xs.length 0 lo)).take (HT.sIx xs.length xs.length hi - HT.sIx xs.length 0 lo),Heap.get?_push_size _ rfl⟩
def Jcy:V→Bool
 | .non=>true
 | .bl _=>true
 | .int _=>true
 | .str _=>true
 | _=>false
def eqV:V→V→Bool
 | .non,.non=>true
 | .bl a,.bl b=>a == b
 | .bl a,.int b=>(if a then 1 else 0) == b
 | .int a,.bl b=>a == (if b then 1 else 0)
 | .int a,.int b=>a == b
 | .str a,.str b=>a == b
 | _,_=>false
theorem Jpv {A:Around} {s:Shared} {y x:V} {u v:Value} (ry:JF y u) (rx:JF x v) (fy:Jcy y=true) (fx:Jcy x=true):SeqAt.EqAt A s u v (eqV y x):=by
 cases y with
 | non =>
  cases ry;cases x with
  | non=>cases rx; exact SeqAt.EqAt.same _
  | bl b=>cases rx; exact SeqAt.EqAt.none_bool b
  | int b=>obtain ⟨t,rfl⟩:=rx; exact SeqAt.EqAt.none_int b t
  | str b=>obtain ⟨t,rfl⟩:=rx; exact SeqAt.EqAt.none_str b t
  | _=>exact absurd (show false=true from fx) Bool.false_ne_true
 | bl a =>
  cases ry;cases x with
  | non=>cases rx; exact SeqAt.EqAt.bool_none a
  | bl b=>cases rx; exact SeqAt.EqAt.bool_bool a b
  | int b=>obtain ⟨t,rfl⟩:=rx; exact SeqAt.EqAt.bool_int a b t
  | str b=>obtain ⟨t,rfl⟩:=rx; exact SeqAt.EqAt.bool_str a b t
  | _=>exact absurd (show false=true from fx) Bool.false_ne_true
 | int a =>
  obtain ⟨t',rfl⟩:=ry;cases x with
  | non=>cases rx; exact SeqAt.EqAt.int_none a t'
  | bl b=>cases rx; exact SeqAt.EqAt.int_bool a t' b
  | int b=>obtain ⟨t,rfl⟩:=rx; exact SeqAt.EqAt.int_int a t' b t
  | str b=>obtain ⟨t,rfl⟩:=rx; exact SeqAt.EqAt.int_str a t' b t
  | _=>exact absurd (show false=true from fx) Bool.false_ne_true
 | str a =>
  obtain ⟨t',rfl⟩:=ry;cases x with
  | non=>cases rx; exact SeqAt.EqAt.str_none a t'
  | bl b=>cases rx; exact SeqAt.EqAt.str_bool a t' b
  | int b=>obtain ⟨t,rfl⟩:=rx; exact SeqAt.EqAt.str_int a t' b t
  | str b=>obtain ⟨t,rfl⟩:=rx; exact SeqAt.EqAt.str_str a t' b t
  | _=>exact absurd (show false=true from fx) Bool.false_ne_true
 | _=>exact absurd (show false=true from fy) Bool.false_ne_true
def eqU (x:V) (u:Value):Bool:=match u with
 | .none=>eqV .non x
 | .bool b=>eqV (.bl b) x
 | .int i _=>eqV (.int i) x
 | .str z _=>eqV (.str z) x
 | _=>false
theorem Jl4 {x y:V} {u:Value} (r:JF y u) (f:Jcy y=true):eqU x u=eqV y x:=by
 cases y with
 | non=>cases r; rfl
 | bl b=>cases r; rfl
 | int i=>obtain ⟨t,rfl⟩:=r; rfl
 | str z=>obtain ⟨t,rfl⟩:=r; rfl
 | _=>exact absurd (show false=true from f) Bool.false_ne_true
theorem JdK {x:V}:∀ {xs:List V} {us:List Value},Jz xs us→xs.all Jcy=true→us.any (eqU x)=xs.any fun y=>eqV y x
 | _,_,.nil,_=>rfl
 | y :: xs,u :: us,.cons r t,f=>by
  rw [List.all_cons,Bool.and_eq_true] at f;rw [List.any_cons,List.any_cons,Jl4 r f.1,JdK t f.2]
theorem JcT {A:Around} {s:Shared} {x:V} {v:Value} (rx:JF x v) (fx:Jcy x=true):∀ {xs:List V} {us:List Value},Jz xs us→xs.all Jcy=true→∀ u∈us,SeqAt.EqAt A s u v (eqU x u)
 | _,_,.nil,_=>fun u hu=>by cases hu
 | y :: xs,u :: us,.cons r t,f=>fun u' hu=>by
  rw [List.all_cons,Bool.and_eq_true] at f;rcases List.mem_cons.mp hu with rfl | hu
  ·rw [Jl4 r f.1]; exact Jpv r rx f.1 fx
  ·exact JcT rx fx t f.2 u' hu
def inV (x:V) (xs:List V):Bool:=xs.any fun y=>eqV y x
def rIn (K:PySem.W.Frag) (neg:Bool):R2:=fun x y H Q=>∃ p xs,y=.ref p∧(Js K H p xs∨JK K H p xs)∧Jcy x=true∧xs.all Jcy=true∧Q (.bl (if neg then !inV x xs else inV x xs)) H
theorem Jhx:ZP X (compareOp .In) (rIn X.K false):=by
 intro pins s σ H x y v u Q I rx ry h;obtain ⟨p,xs,rfl,hq,fx,fs,q⟩:=h;cases ry;rcases hq with hq | hq
 ·obtain ⟨its,r,pl,hz⟩:=I.list hq;refine SeqAt.in_listAt (eqU x) pl.isList (fun w hw=>JcT rx fx r fs w (by simpa using hw)) ⟨.bl _,H,I,rfl,?_⟩;rw [show its.toArray.any (eqU x)=its.any (eqU x) by simp,JdK r fs];exact q
 ·obtain ⟨its,r,pl,hz⟩:=I.tuple hq;refine SeqAt.in_tupleAt (eqU x) pl (fun w hw=>JcT rx fx r fs w (by simpa using hw)) ⟨.bl _,H,I,rfl,?_⟩;rw [show its.toArray.any (eqU x)=its.any (eqU x) by simp,JdK r fs];exact q
theorem Jbd:ZP X (compareOp .NotIn) (rIn X.K true):=by
 intro pins s σ H x y v u Q I rx ry h;obtain ⟨p,xs,rfl,hq,fx,fs,q⟩:=h;cases ry;rcases hq with hq | hq
 ·obtain ⟨its,r,pl,hz⟩:=I.list hq;refine SeqAt.notIn_listAt (eqU x) pl.isList (fun w hw=>JcT rx fx r fs w (by simpa using hw)) ⟨.bl _,H,I,rfl,?_⟩;rw [show its.toArray.any (eqU x)=its.any (eqU x) by simp,JdK r fs];exact q
 ·obtain ⟨its,r,pl,hz⟩:=I.tuple hq;refine SeqAt.notIn_tupleAt (eqU x) pl (fun w hw=>JcT rx fx r fs w (by simpa using hw)) ⟨.bl _,H,I,rfl,?_⟩;rw [show its.toArray.any (eqU x)=its.any (eqU x) by simp,JdK r fs];exact q
theorem YL:Y9 X (.builtin "len") (fun xs H Q=>∃ p ys,xs=[.ref p]∧(Js X.K H p ys∨JK X.K H p ys)∧Q (.int ys.length) H):=by
 intro pins s σ H xs us Q I r h;obtain ⟨p,ys,rfl,hq,q⟩:=h;obtain ⟨u,rfl,rx⟩:=JeQ r;cases rx;have hn:=JdH;rcases hq with hq | hq
 ·obtain ⟨its,r',pl,hz⟩:=I.list hq;have hlen:=r'.length;exact Calls.call_len_list pl.isList (by simp only [List.size_toArray] <;> omega) ⟨.int ys.length,H,I.tok _,⟨s.toks + 1,by rw [List.size_toArray,hlen]⟩,q⟩
 ·obtain ⟨its,r',pl,hz⟩:=I.tuple hq;have hlen:=r'.length;exact len_tuple pl (by simp only [List.size_toArray] <;> omega) ⟨.int ys.length,H,I.tok _,⟨s.toks + 1,by rw [List.size_toArray,hlen]⟩,q⟩
theorem JeI:Y9 X (.builtin "len") (fun xs H Q=>∃ z,xs=[.str z]∧z.length≤sizeLine∧Q (.int z.length) H):=by
 intro pins s σ H xs us Q I r h;obtain ⟨z,rfl,hz,q⟩:=h;obtain ⟨u,rfl,t,rfl⟩:=JeQ r;have hn:=JdH;exact len_str (by omega) ⟨.int z.length,H,I.tok _,⟨_,rfl⟩,q⟩
theorem Jc2:Y9 X (.type "list") (fun xs H Q=>∃ p ys,xs=[.ref p]∧(Js X.K H p ys∨JK X.K H p ys)∧∀ l,H l=none→Q (.ref l) (upd H l (.lst ys))):=by
 intro pins s σ H xs us Q I r h;obtain ⟨p,ys,rfl,hq,q⟩:=h;obtain ⟨u,rfl,rx⟩:=JeQ r;cases rx;have fin:∀ (its:List Value),Jz ys its→ys.length≤sizeLine→∀ (h':Heap) (c':Nat),(∀ b o',s.heap.get? b=some o'→h'.get? b=some o') →
   h'.get? s.heap.objs.size=some { cls:=.type "list",dict:=none,data:=.seq its.toArray c',slots:=#[] }→EP X pins σ Q (.ref s.heap.objs.size) { s with heap:=h' }:=fun its r' hz h' c' kp e =>
  ⟨.ref s.heap.objs.size,_,I.laid (t':=s.toks) kp (Nat.le_refl _) (show Yd X.prog X.w _ h' _ (.lst ys) from ⟨hz,its,c',r',e⟩),rfl,q _ (I.hok.fresh (Nat.le_refl _))⟩
 rcases hq with hq | hq
 ·obtain ⟨its,r',pl,hz⟩:=I.list hq;have hlen:=r'.length;obtain ⟨o,ho,hc,n,hd⟩:=pl.isList;exact call_list_seq p (.inl rfl) ho hc hd (fun h' c' kp e=>fin its r' hz h' c' kp e) (by simp only [List.size_toArray] <;> omega)
 ·obtain ⟨its,r',pl,hz⟩:=I.tuple hq;have hlen:=r'.length;obtain ⟨o,ho,hc,n,hd⟩:=pl;exact call_list_seq p (.inr rfl) ho hc hd (fun h' c' kp e=>fin its r' hz h' c' kp e) (by simp only [List.size_toArray] <;> omega)
theorem Ja0:Y9 X (.type "tuple") (fun xs H Q=>∃ p ys,xs=[.ref p]∧((Js X.K H p ys∧∀ l,H l=none→Q (.ref l) (upd H l (.tup ys)))∨(JK X.K H p ys∧Q (.ref p) H))):=by
 intro pins s σ H xs us Q I r h;obtain ⟨p,ys,rfl,h⟩:=h;obtain ⟨u,rfl,rx⟩:=JeQ r;cases rx;rcases h with ⟨hq,q⟩ | ⟨hq,q⟩
 ·obtain ⟨its,r',pl,hz⟩:=I.list hq;have hlen:=r'.length;refine call_tuple_list pl.isList (fun h' kp=>?_) (by simp only [List.size_toArray] <;> omega);have I1:Jk X pins σ H { s with heap:=h' }:=I.kept (t':=s.toks) kp;have I2:Jk X pins σ (upd H h'.objs.size (.tup ys)) { s with heap:=h'.push { cls:=.type "tuple",data:=.seq its.toArray } } :=
   I1.laid (t':=s.toks) (fun b o e=>Heap.get?_push_of_some _ e) (Nat.le_refl _) (show Yd X.prog X.w _ _ _ (.tup ys) from ⟨hz,its,r',IsTup.new _ _⟩)
  exact ⟨.ref h'.objs.size,_,I2,rfl,q _ (I1.hok.fresh (Nat.le_refl _))⟩
 ·obtain ⟨its,r',pl,hz⟩:=I.tuple hq;exact call_tuple_same pl ⟨.ref p,H,I,rfl,q⟩
def tyV (K:PySem.W.Frag) (T:String) (x:V) (H:Hp):Prop:=match x with
 | .str _=>T = "str"
 | .int _=>T = "int"
 | .ref p=>(T = "list"∧∃ xs,Js K H p xs)∨(T = "tuple"∧∃ o,K.lookup p=some o∧o.cls=.type "tuple"∧o.dict=none) ∨
   (T = "dict"∧((∃ kvs,H p=some (.dK kvs))∨∃ kvs,H p=some (.dT kvs)))∨(T = "set"∧∃ S n,H p=some (.set S n))
 | _=>False
theorem JoP {pins:List (Addr×Obj)} {σ:St} {H:Hp} {s:Shared} {T:String} {x:V} {v:Value} (I:Jk X pins σ H s) (r:JF x v) (ty:tyV X.K T x H) :
  s.TypeIs v T∧∀ a,v=.ref a→∃ ob,s.heap.get? a=some ob∧ob.dict=none:=by
 cases x with
 | str z =>
  obtain ⟨t,rfl⟩:=r;cases (show T = "str" from ty);exact ⟨typeIs_str s z t,fun _ e=>nomatch e⟩
 | int i =>
  obtain ⟨t,rfl⟩:=r;cases (show T = "int" from ty);exact ⟨typeIs_int s i t,fun _ e=>nomatch e⟩
 | ref p =>
  cases r;rcases ty with ⟨rfl,xs,hq⟩ | ⟨rfl,o,hk,hc,hd⟩ | ⟨rfl,hk⟩ | ⟨rfl,S,n,hk⟩
  ·obtain ⟨its,_,pl,_⟩:=I.list hq;refine ⟨pl.isList.typeIs,fun a e=>?_⟩;cases e;obtain ⟨o,n,e,c,hd,_⟩:=pl;exact ⟨o,e,hd⟩
  ·refine ⟨⟨o,I.kIn p o hk,hc⟩,fun a e=>?_⟩;cases e;exact ⟨o,I.kIn _ o hk,hd⟩
  ·have z:∃ o,s.heap.get? p=some o∧o.ExactDict:=by
    rcases hk with ⟨kvs,hk⟩ | ⟨kvs,hk⟩
    ·obtain ⟨_,_,_,_,o,_,_,e,ex,_⟩:=I.hok p _ hk;exact ⟨o,e,ex⟩
    ·obtain ⟨_,_,_,_,o,_,_,e,ex,_⟩:=I.hok p _ hk;exact ⟨o,e,ex⟩
   obtain ⟨o,e,ex⟩:=z;refine ⟨⟨o,e,ex.1⟩,fun a e2=>?_⟩;cases e2;exact ⟨o,e,ex.2.1⟩
  ·obtain ⟨o,_,_,_,e,ex,_⟩:=I.hok p _ hk;refine ⟨⟨o,e,ex.1⟩,fun a e2=>?_⟩;cases e2;exact ⟨o,e,ex.2.1⟩
 | _=>exact False.elim ty
def tBM (K:PySem.W.Frag) (T:String) (r:V→List V→Hp→VK→Prop) (to:TE) (t:TA):TE:=fun σ H Q=>to σ H fun x H1=>tyV K T x H1∧t σ H1 fun xs H2=>r x xs H2 Q
variable {o e:Expr} {es:List Expr} {to:TE} {t:TA} {name:Str} {apos cpos:Pos} {T id:String} {r:V→List V→Hp→VK→Prop}
theorem JaE (pa:PlainAttrs T) (slot:Slot T name id) (hty:typeOf (.builtin id)=pure (.type "method_descriptor")) (hm:MtR X id r) (ho:PE X o to) (ha:PA X (e :: es) t)
  (hbase:attributeBase o name X.env (eval o X.env)=eval o X.env:=by rfl)
  (hfew:((backTo cpos (starEach (e :: es) X.env)).all (fun x=>!x.1) && (backToKw cpos (keywordEach [] X.env)).all (fun x=>x.1.isSome)
   && decide ((e :: es).length + ([]:List Keyword).length + (if ([]:List Keyword).isEmpty then 0 else 1) < 30))=true:=by rfl)
  (hline:(apos.endLine == cpos.line)=true:=by rfl) (hs:starEach (e :: es) X.env=(false,eval e X.env) :: starEach es X.env:=by rfl) (hplain:(backTo cpos (starEach es X.env)).any (·.1)=false:=by rfl) :
  PE X (.Call (.Attribute o name apos) (e :: es) [] cpos) (tBM X.K T r to t):=by
 intro pins s σ H Q I h;refine wpAny_Call_method_late hbase hfew hline rfl (JH (ho pins s σ H _ I h) fun v s1 ⟨x,H1,I1,r1,ty,q1⟩=>?_);obtain ⟨h1,h2⟩:=JoP I1 r1 ty;refine ⟨T,id,pa,slot,hty,h1,h2,?_⟩;have hA:=ha cpos pins s1 σ H1 _ I1 q1;rw [hs] at hA ⊢;refine Calls.callWith_builtin (by show (false || (backTo cpos (starEach es X.env)).any (·.1))=false; rw [hplain] <;> rfl) (Calls.evalArgs_plain ?_);exact JH hA fun us s2 ⟨vs,H2,I2,r2,q2⟩=>hm pins s2 σ H2 x vs v us Q I2 r1 r2 q2
end
end L2
namespace L2
open PySem PySem.Spec PyProof.Rows
def MtM (X:Cx) (id:String) (r:V→List V→Hp→VK→Prop):Prop :=
 ∀ (pins:List (Addr×Obj)) (s:Shared) (σ:St) (H:Hp) (x:V) (xs:List V) (v:Value) (us:List Value) (Q:VK),Jk X pins σ H s→JF x v→Jz xs us→r x xs H Q →
  wpAny (model X.prog X.w) X.A (call (.builtin id) (v :: us)) (EP X pins σ Q) X.xe s
theorem Jz.one:∀ {x:V} {us:List Value},Jz [x] us→∃ u,us=[u]∧JF x u
 | _,_,.cons r .nil=>⟨_,rfl,r⟩
theorem Jz.zero:∀ {us:List Value},Jz [] us→us=[]
 | _,.nil=>rfl
theorem Jz.rep {xs:List V} {us:List Value} (h:Jz xs us):∀ k:Nat,Jz (List.replicate k xs).flatten (List.replicate k us).flatten
 | 0=>.nil
 | k + 1=>by
  rw [List.replicate_succ,List.replicate_succ,List.flatten_cons,List.flatten_cons];exact Jz.append h (Jz.rep h k)
theorem JhJ (its:List Value):∀ (k:Nat) (acc:List Value),
  List.foldl (fun x1 x2=>x1 ++ x2) acc.toArray (List.replicate k its.toArray)=(acc ++ (List.replicate k its).flatten).toArray
 | 0,acc=>by simp
 | k + 1,acc=>by
  have e:acc.toArray ++ its.toArray=(acc ++ its).toArray:=by simp
  have e2:(acc ++ its) ++ (List.replicate k its).flatten=acc ++ (List.replicate (k + 1) its).flatten:=by
   rw [List.replicate_succ,List.flatten_cons,List.append_assoc]
  rw [← e2,← JhJ its k (acc ++ its),← e,List.replicate_succ,List.foldl_cons]
section
variable {X:Cx} {pins:List (Addr×Obj)} {σ:St} {H:Hp} {s:Shared} {l b:Addr} {xs ys zs:List V}
theorem Jk.lset {its its':List Value} {n:Nat} {f:Array Value→Array Value} {t':Nat} (I:Jk X pins σ H s) (hH:H l=some (.lst xs))
  (e:s.heap.get? l=some { cls:=.type "list",data:=.seq its.toArray n }) (hf:f its.toArray=its'.toArray) (hv:Jz ys its') (hz:ys.length≤sizeLine) :
  Jk X pins σ (upd H l (.lst ys)) { s with heap:=s.heap.update l (Obj.mapSeq f),toks:=t' }:=by
 have q:=PySem.IsL.update e f;rw [hf] at q;refine I.write (x:=l) (e:=l) (by rw [hH]; exact trivial) (.inl rfl) (fun b' u hb hu=>(Heap.get?_update_other s.heap (Obj.mapSeq f) (Ne.symm hb)).trans hu) ⟨_,q⟩ ?_;exact ⟨hz,its',_,hv,q⟩
theorem Jk.lnew {its:List Value} {t':Nat} (I:Jk X pins σ H s) (hv:Jz ys its) (hz:ys.length≤sizeLine) :
  Jk X pins σ (upd H s.heap.objs.size (.lst ys)) { s with heap:=s.heap.push { cls:=.type "list",data:=.seq its.toArray },toks:=t' } :=
 I.laid (fun _ _ q=>Heap.get?_push_of_some _ q) (Nat.le_refl _) ⟨hz,its,0,hv,Heap.get?_push_size _ rfl⟩
theorem Jk.fresh (I:Jk X pins σ H s):H s.heap.objs.size=none:=I.hok.fresh (Nat.le_refl _)
theorem Jk.lstM (I:Jk X pins σ H s) (hH:H l=some (.lst xs)):xs.length≤sizeLine∧∃ (its:List Value) (n:Nat),Jz xs its∧xs.length=its.length∧s.heap.get? l=some { cls:=.type "list",data:=.seq its.toArray n }:=by
 obtain ⟨z,its,n,r,e⟩:=I.hok l _ hH;exact ⟨z,its,n,r,r.length,e⟩
theorem JiU {n:Nat} (h:n≤sizeLine):Builtin.List.listTooLong n=false:=by
 unfold Builtin.List.listTooLong;exact decide_eq_false (by omega)
end
section
variable {X:Cx}
def Jol:V→List V→Hp→VK→Prop:=fun x vs H Q=>∃ l xs y,x=.ref l∧vs=[y]∧H l=some (.lst xs)∧xs.length < sizeLine∧Q .non (upd H l (.lst (xs ++ [y])))
theorem YY:MtM X "list.append" Jol:=by
 intro pins s σ H x vs v us Q I rx rv h;obtain ⟨l,xs,y,rfl,rfl,hH,hz,q⟩:=h;cases rx;obtain ⟨u,rfl,ru⟩:=rv.one;obtain ⟨z,its,n,r,hl,e⟩:=I.lstM hH;refine call_meets F.slot_list_append ⟨_,e,rfl⟩ F.entry_list_append (F.args_list_append_2 _ _) (PySem.list_append l its.toArray n u (by rw [List.size_toArray]; omega)) ⟨e,?_⟩;refine ⟨.non,_,I.lset (its':=its ++ [u]) hH e (by simp) (r.append (.cons ru .nil)) ?_,rfl,q⟩;rw [List.length_append,List.length_singleton];omega
def Jok:V→List V→Hp→VK→Prop:=fun x vs H Q=>∃ l b xs zs,x=.ref l∧vs=[.ref b]∧H l=some (.lst xs)∧H b=some (.lst zs)∧xs.length + zs.length≤sizeLine∧Q .non (upd H l (.lst (xs ++ zs)))
theorem JhB:MtM X "list.extend" Jok:=by
 intro pins s σ H x vs v us Q I rx rv h;obtain ⟨l,b,xs,zs,rfl,rfl,hH,hB,hz,q⟩:=h;cases rx;obtain ⟨u,rfl,ru⟩:=rv.one;cases ru;obtain ⟨z,its,n,r,hl,e⟩:=I.lstM hH;obtain ⟨z2,its2,n2,r2,hl2,e2⟩:=I.lstM hB;have hsz:its.toArray.size + its2.toArray.size≤sizeLine:=by rw [List.size_toArray,List.size_toArray]; omega
 have hlong:¬ (!its.toArray.isEmpty && Builtin.List.listTooLong (its.toArray.size + its2.toArray.size))=true:=by
  rw [JiU hsz,Bool.and_false];exact Bool.false_ne_true
 refine call_meets F.slot_list_extend ⟨_,e,rfl⟩ F.entry_list_extend (F.args_list_extend_2 _ _)
  (AutoSeq1.list_extend_list_list_0 l its.toArray n b its2.toArray n2 hlong (by rw [List.size_toArray]; omega) (by omega)) ⟨e,e2,?_⟩
 refine ⟨.non,_,I.lset (its':=its ++ its2) hH e (by simp) (r.append r2) ?_,rfl,q⟩;rw [List.length_append];omega
def JqG:R2:=fun x y H Q=>∃ l k xs,x=.ref l∧y=.int k∧H l=some (.lst xs)∧-(2 ^ 63)≤k∧k < 2 ^ 63∧xs.length * k.toNat≤sizeLine ∧
 ∀ p,H p=none→Q (.ref p) (upd H p (.lst (List.replicate k.toNat xs).flatten))
theorem JoC {α:Type} (xs:List α) (k:Nat):(List.replicate k xs).flatten.length=k * xs.length:=by
 induction k with
 | zero=>simp
 | succ k ih=>rw [List.replicate_succ,List.flatten_cons,List.length_append,ih,Nat.succ_mul,Nat.add_comm]
theorem Jph:ZP X (binaryOp .Mult) JqG:=by
 intro pins s σ H x y v u Q I rx ry h;obtain ⟨l,k,xs,rfl,rfl,hH,h1,h2,hz,q⟩:=h;cases rx;obtain ⟨t,rfl⟩:=ry;obtain ⟨z,its,n,r,hl,e⟩:=I.lstM hH;have hlen:its.toArray.size * k.toNat≤sizeLine:=by rw [List.size_toArray,← hl]; exact hz
 have hcap:¬ its.toArray.size * k.toNat > (2 ^ 63 - 1) / 8:=by
  have:(sizeLine:Nat)≤(2 ^ 63 - 1) / 8:=by decide
  omega
 have hfit:¬ (!Builtin.List.listFitsIndex k)=true:=by
  rw [fitsIndex_both h1 h2];exact Bool.false_ne_true
 have hlong:¬ Builtin.List.listTooLong (its.toArray.size * k.toNat)=true:=by
  rw [JiU hlen];exact Bool.false_ne_true
 have hnew:List.foldl (fun x1 x2=>x1 ++ x2) #[] (List.replicate (if its.toArray.isEmpty=true then 0 else k.toNat) its.toArray)=(List.replicate k.toNat its).flatten.toArray:=by
  have f0:∀ m:Nat,List.foldl (fun x1 x2=>x1 ++ x2) #[] (List.replicate m its.toArray)=(List.replicate m its).flatten.toArray:=fun m=>by
   have:=JhJ its m [];rw [List.nil_append] at this;exact this
  rw [f0];cases its with
  | nil=>simp
  | cons a r'=>rw [if_neg (by simp)]
 refine wpAny_binaryOp_repeat_ref (T := "list") (U := "int") (by decide) ⟨_,e,rfl⟩ (fun s'=>typeIs_int s' k t) noFill_list_mul F.fills_int_mul F.slot_int_rmul repeat_list F.slot_int_index.lookup
  (call_meets F.slot_int_rmul (typeIs_int s k t) F.entry_int_rmul (F.args_int_rmul_2 _ _) (int___rmul___int_list k t l its.toArray n)
   ⟨e,rfl,⟨_,e,rfl⟩,call_meets F.slot_list_mul ⟨_,e,rfl⟩ F.entry_list_mul (F.args_list_mul_2 _ _) (AutoListH.list___mul___list_int_3 l its.toArray n k t hfit hcap hlong) ⟨e,?_⟩⟩)
 rw [hnew];exact ⟨.ref _,_,I.lnew (t':=s.toks) (r.rep k.toNat) (by rw [JoC,Nat.mul_comm]; exact hz),rfl,q _ I.fresh⟩
end
end L2
namespace L2
open PySem PySem.Spec PyProof.Rows
section
variable {κ:Type} [DecidableEq κ]
def YD (kvs:List (κ×V)) (k:κ):Option V:=(kvs.find? fun kv=>decide (kv.1=k)).map (·.2)
def Yn (kvs:List (κ×V)) (k:κ) (v:V):List (κ×V) :=
 if (kvs.any fun kv=>decide (kv.1=k))=true then kvs.map (fun kv=>if kv.1=k then (kv.1,v) else kv) else kvs ++ [(k,v)]
def JnS (kvs:List (κ×V)) (k:κ):List (κ×V):=kvs.filter fun kv=>decide (kv.1≠k)
theorem Ze {p:κ×V} {r:List (κ×V)} {k:κ} (e:p.1=k):YD (p :: r) k=some p.2:=by simp [YD,List.find?_cons,e]
theorem Zf {p:κ×V} {r:List (κ×V)} {k:κ} (e:¬ p.1=k):YD (p :: r) k=YD r k:=by simp [YD,List.find?_cons,e]
theorem JdP (k:κ):∀ kvs:List (κ×V),(kvs.any fun kv=>decide (kv.1=k))=(YD kvs k).isSome
 | []=>rfl
 | p :: r=>by
  rw [List.any_cons];by_cases e:p.1=k
  ·simp only [Ze e,decide_eq_true e,Bool.true_or,Option.isSome_some]
  ·rw [Zf e,decide_eq_false e,Bool.false_or]; exact JdP k r
theorem Jih (k j:κ) (y:V):∀ kvs:List (κ×V),YD (kvs.map fun kv=>if kv.1=k then (kv.1,y) else kv) j=(YD kvs j).map fun x=>if j=k then y else x
 | []=>rfl
 | p :: r=>by
  have ih:=Jih k j y r;rw [List.map_cons];by_cases h:p.1=k
  ·rw [if_pos h];by_cases e:p.1=j
   ·rw [Ze (p:=(p.1,y)) e,Ze e,Option.map_some,if_pos (e.symm.trans h)]
   ·rw [Zf (p:=(p.1,y)) e,Zf e,ih]
  ·rw [if_neg h];by_cases e:p.1=j
   ·rw [Ze (p:=p) e,Ze e,Option.map_some,if_neg (fun z=>h (e.trans z))]
   ·rw [Zf (p:=p) e,Zf e,ih]
theorem Jhp (k j:κ) (y:V):∀ kvs:List (κ×V),YD kvs k=none→YD (kvs ++ [(k,y)]) j=if j=k then some y else YD kvs j
 | [],_=>by
  by_cases e:k=j
  ·rw [if_pos e.symm]; exact Ze (p:=(k,y)) e
  ·rw [if_neg (fun z=>e z.symm)]; exact Zf (p:=(k,y)) e
 | p :: r,hn=>by
  rw [List.cons_append];have hk:¬ p.1=k:=fun z=>by rw [Ze z] at hn; cases hn
  rw [Zf hk] at hn;have ih:=Jhp k j y r hn;by_cases e:p.1=j
  ·rw [Ze e,Ze e,if_neg (fun z=>hk (e.trans z))]
  ·rw [Zf e,Zf e,ih]
theorem JdO (kvs:List (κ×V)) (k j:κ) (y:V):YD (Yn kvs k y) j=if j=k then some y else YD kvs j:=by
 unfold Yn;by_cases a:(kvs.any fun kv=>decide (kv.1=k))=true
 ·rw [if_pos a,Jih];rw [JdP] at a;by_cases e:j=k
  ·obtain ⟨x,hx⟩:=Option.isSome_iff_exists.mp a;rw [if_pos e,e,hx,Option.map_some,if_pos rfl]
  ·rw [if_neg e];cases YD kvs j with
   | none=>rfl
   | some x=>rw [Option.map_some,if_neg e]
 ·rw [if_neg a];refine Jhp k j y kvs ?_;rw [JdP] at a;cases q:YD kvs k with
  | none=>rfl
  | some x=>rw [q] at a; exact (a rfl).elim
theorem Z0 (kvs:List (κ×V)) (k:κ) (v:V):(Yn kvs k v).length≤kvs.length + 1:=by
 unfold Yn;split
 ·rw [List.length_map]; omega
 ·rw [List.length_append,List.length_cons,List.length_nil]; omega
theorem Jaa.isSome_eq {o:Option V} {u:Option Value} (r:Jaa o u):o.isSome=u.isSome:=by
 cases o with
 | none=>cases u with
  | none=>rfl
  | some _=>exact (show False from r).elim
 | some _=>cases u with
  | none=>exact (show False from r).elim
  | some _=>rfl
theorem Jaa.getD {o:Option V} {u:Option Value} {d:V} {d':Value} (r:Jaa o u) (rd:JF d d'):JF (o.getD d) (u.getD d'):=by
 cases o with
 | none=>cases u with
  | none=>exact rd
  | some _=>exact (show False from r).elim
 | some _=>cases u with
  | none=>exact (show False from r).elim
  | some _=>exact r
theorem KV.val {kvs:List (κ×V)} {vs:List (κ×Value)} (r:KV kvs vs) (k:κ):Jaa (YD kvs k) (valueAt vs k):=by
 unfold KV at r
 induction r with
 | nil=>exact True.intro
 | @cons p q ps qs h t ih =>
  obtain ⟨h1,h2⟩:=h;by_cases e:p.1=k
  ·have e':q.1=k:=h1.symm.trans e;have b:valueAt (q :: qs) k=some q.2:=by simp [valueAt,List.find?_cons,e']
   rw [Ze e,b]; exact h2
  ·have e':¬ q.1=k:=fun z=>e (h1.trans z)
   have b:valueAt (q :: qs) k=valueAt qs k:=by simp [valueAt,List.find?_cons,e']
   rw [Zf e,b]; exact ih
theorem KV.any {kvs:List (κ×V)} {vs:List (κ×Value)} (r:KV kvs vs) (k:κ):(kvs.any fun kv=>decide (kv.1=k))=vs.any fun kv=>decide (kv.1=k):=by
 unfold KV at r
 induction r with
 | nil=>rfl
 | cons h t ih=>rw [List.any_cons,List.any_cons,ih,h.1]
theorem KV.repl {kvs:List (κ×V)} {vs:List (κ×Value)} (r:KV kvs vs) (k:κ) {y:V} {u:Value} (ry:JF y u) :
  KV (kvs.map fun kv=>if kv.1=k then (kv.1,y) else kv) (vs.map fun kv=>if kv.1=k then (kv.1,u) else kv):=by
 unfold KV at r ⊢
 induction r with
 | nil=>exact .nil
 | @cons p q ps qs h t ih =>
  rw [List.map_cons,List.map_cons];refine .cons ?_ ih;obtain ⟨h1,h2⟩:=h;by_cases e:p.1=k
  ·rw [if_pos e,if_pos (h1.symm.trans e)]; exact ⟨h1,ry⟩
  ·rw [if_neg e,if_neg (fun z=>e (h1.trans z))]; exact ⟨h1,h2⟩
theorem KV.put {kvs:List (κ×V)} {vs:List (κ×Value)} (r:KV kvs vs) (k:κ) {y:V} {u:Value} (ry:JF y u):KV (Yn kvs k y) (stored vs k u):=by
 unfold Yn stored;rw [r.any k];by_cases e:(vs.any fun kv=>decide (kv.1=k))=true
 ·rw [if_pos e,if_pos e]; exact r.repl k ry
 ·rw [if_neg e,if_neg e]; exact Paired.snoc r ⟨rfl,ry⟩
theorem KV.drop {kvs:List (κ×V)} {vs:List (κ×Value)} (r:KV kvs vs) (k:κ):KV (JnS kvs k) (without vs k):=by
 unfold KV at r ⊢;unfold JnS without
 induction r with
 | nil=>exact .nil
 | @cons p q ps qs h t ih =>
  obtain ⟨h1,h2⟩:=h;rw [List.filter_cons,List.filter_cons];by_cases e:p.1=k
  ·have a:¬ decide (p.1≠k)=true:=by simp [e]
   have b:¬ decide (q.1≠k)=true:=by simp [h1.symm.trans e]
   rw [if_neg a,if_neg b]; exact ih
  ·have e':¬ q.1=k:=fun z=>e (h1.trans z)
   have a:decide (p.1≠k)=true:=by simp [e]
   have b:decide (q.1≠k)=true:=by simp [e']
   rw [if_pos a,if_pos b]; exact .cons ⟨h1,h2⟩ ih
theorem KV.keys {kvs:List (κ×V)} {vs:List (κ×Value)} (r:KV kvs vs):kvs.map (·.1)=vs.map (·.1):=by
 unfold KV at r
 induction r with
 | nil=>rfl
 | cons h t ih=>rw [List.map_cons,List.map_cons,ih,h.1]
theorem KV.length {kvs:List (κ×V)} {vs:List (κ×Value)} (r:KV kvs vs):kvs.length=vs.length:=Paired.length r
end
theorem Je5 {P:Program} {w:World} {k:JI} {u:Value} (r:JF (kV k) u):(J9 P w).is k u=true:=by
 cases k with
 | inl i=>obtain ⟨t,e⟩:=(show ∃ t,u=Value.int i t from r); subst e; exact Jjz P w i t
 | inr x=>obtain ⟨t,e⟩:=(show ∃ t,u=Value.str x t from r); subst e; exact JaU P w x t
theorem JhF {P:Program} {w:World}:∀ {ks:List JI} {us:List Value},Jz (ks.map kV) us→ItemsAre (J9 P w) ks us
 | [],_,r=>by rw [List.map_nil] at r; cases r; exact .nil
 | k :: ks,_,r=>by
  rw [List.map_cons] at r;cases r with
  | cons h t=>exact .cons (Je5 h) (JhF t)
abbrev KT (H:Hp):List (List JI×V)→List (List JI×Addr×Value)→Prop:=Paired fun p q=>p.1=q.1∧H q.2.1=some (.tup (p.1.map kV))∧JF p.2 q.2.2
theorem KT.val {H:Hp} {kvs:List (List JI×V)} {xs:List (List JI×Addr×Value)} (r:KT H kvs xs) (k:List JI):Jaa (YD kvs k) ((atKey xs k).map (·.2)):=by
 induction r with
 | nil=>exact True.intro
 | @cons p q ps qs h t ih =>
  obtain ⟨h1,_,h2⟩:=h;by_cases e:p.1=k
  ·have e':q.1=k:=h1.symm.trans e;have b:atKey (q :: qs) k=some q.2:=by simp [atKey,List.find?_cons,e']
   rw [Ze e,b]; exact h2
  ·have e':¬ q.1=k:=fun z=>e (h1.trans z)
   have b:atKey (q :: qs) k=atKey qs k:=by simp [atKey,List.find?_cons,e']
   rw [Zf e,b]; exact ih
theorem KT.repl {H:Hp} {kvs:List (List JI×V)} {xs:List (List JI×Addr×Value)} (r:KT H kvs xs) (k:List JI) {y:V} {u:Value} (ry:JF y u) :
  KT H (kvs.map fun kv=>if kv.1=k then (kv.1,y) else kv) (xs.map (putAt k u)):=by
 induction r with
 | nil=>exact .nil
 | @cons p q ps qs h t ih =>
  rw [List.map_cons,List.map_cons];refine .cons ?_ ih;obtain ⟨h1,h2,h3⟩:=h;unfold putAt;by_cases e:p.1=k
  ·rw [if_pos e,if_pos (h1.symm.trans e)]; exact ⟨h1,h2,ry⟩
  ·rw [if_neg e,if_neg (fun z=>e (h1.trans z))]; exact ⟨h1,h2,h3⟩
theorem KT.put {H:Hp} {kvs:List (List JI×V)} {xs:List (List JI×Addr×Value)} (r:KT H kvs xs) (k:List JI) {b:Addr} {y:V} {u:Value} (hb:H b=some (.tup (k.map kV))) (ry:JF y u) :
  KT H (Yn kvs k y) (storedH xs k b u):=by
 have e:(kvs.any fun kv=>decide (kv.1=k))=(atKey xs k).isSome:=by
  rw [JdP,(r.val k).isSome_eq,Option.isSome_map]
 unfold Yn storedH;rw [e];by_cases q:(atKey xs k).isSome=true
 ·rw [if_pos q,if_pos q]; exact r.repl k ry
 ·rw [if_neg q,if_neg q]; exact Paired.snoc r ⟨rfl,hb,ry⟩
theorem KT.keeps {H H':Hp} {kvs:List (List JI×V)} {xs:List (List JI×Addr×Value)} (r:KT H kvs xs) (ht:∀ b ys,H b=some (.tup ys)→H' b=some (.tup ys)):KT H' kvs xs :=
 Paired.mapP r fun _ _ z=>⟨z.1,ht _ _ z.2.1,z.2.2⟩
section
variable {P:Program} {w:World} {H:Hp} {h:Heap} {a:Addr}
theorem JnJ {u:HO} (ok:Zn P w H h) (e:Rd H a u):Yd P w H h a u:=e.ok ok
theorem Jid {kvs:List (JI×V)} (ok:Zn P w H h) (e:Rd H a (.dK kvs)):kvs.length≤sizeLine∧(a == sysModules)=false∧∃ vs,KV kvs vs∧h.DictOf (J9 P w) a vs :=
 show Yd P w H h a (.dK kvs) from JnJ ok e
theorem JnT {kvs:List (JI×V)} (ok:Zn P w H h) (e:H a=some (.dK kvs)):kvs.length≤sizeLine∧(a == sysModules)=false∧∃ vs,KV kvs vs∧h.DictOf (J9 P w) a vs:=Jid ok (.inl e)
theorem Jes {ks:List JI} (ok:Zn P w H h) (e:H a=some (.tup (ks.map kV))):(tupleKind (J9 P w)).is h ks a:=by
 obtain ⟨_,its,r,o,h1,h2,n,h3⟩:=(show Yd P w H h a (.tup (ks.map kV)) from ok a _ e)
 exact ⟨o,its.toArray,n,h1,h2,h3,by simpa using JhF r⟩
theorem Jic {kvs:List (List JI×V)} (ok:Zn P w H h) (e:Rd H a (.dT kvs)):kvs.length≤sizeLine∧(a == sysModules)=false ∧
  ∃ xs,KT H kvs xs∧h.DictOfH (tupleKind (J9 P w)) a xs:=by
 obtain ⟨z,y,xs,r,o,es,ep,h1,h2,h3,h4,h5⟩:=(show Yd P w H h a (.dT kvs) from JnJ ok e)
 refine ⟨z,y,xs,r,o,es,ep,h1,h2,h3,h4,fun x hx=>?_,h5⟩;have all:∀ {l:List (List JI×V)} {m:List (List JI×Addr×Value)},KT H l m→∀ x∈m,(tupleKind (J9 P w)).is h x.1 x.2.1:=by
  intro l m q
  induction q with
  | nil=>intro x hx; exact nomatch hx
  | @cons p q ps qs hq t ih =>
   intro x hx;rcases List.mem_cons.mp hx with e | hx
   ·subst e;exact Jes ok (by rw [← hq.1]; exact hq.2.1)
   ·exact ih x hx
 exact all r x hx
theorem JnR {kvs:List (List JI×V)} (ok:Zn P w H h) (e:H a=some (.dT kvs)):kvs.length≤sizeLine∧(a == sysModules)=false ∧
  ∃ xs,KT H kvs xs∧h.DictOfH (tupleKind (J9 P w)) a xs:=Jic ok (.inl e)
end
def Ja7 (H:Hp) (a:Addr) (y:V) (r:Option V):Prop :=
 (∃ kvs k,Rd H a (.dK kvs)∧y=kV k∧r=YD kvs k)∨∃ kvs k b,Rd H a (.dT kvs)∧y=.ref b∧H b=some (.tup (k.map kV))∧r=YD kvs k
def JeO (H:Hp) (a:Addr) (y v:V) (H':Hp):Prop :=
 (∃ kvs k,H a=some (.dK kvs)∧y=kV k∧kvs.length < sizeLine∧H'=upd H a (.dK (Yn kvs k v))) ∨
 ∃ kvs k b,H a=some (.dT kvs)∧y=.ref b∧H b=some (.tup (k.map kV))∧kvs.length < sizeLine∧H'=upd H a (.dT (Yn kvs k v))
theorem Ja7.k {H:Hp} {a:Addr} {kvs:List (JI×V)} {k:JI} (e:H a=some (.dK kvs)):Ja7 H a (kV k) (YD kvs k):=.inl ⟨kvs,k,.inl e,rfl,rfl⟩
theorem Ja7.t {H:Hp} {a b:Addr} {kvs:List (List JI×V)} {k:List JI} (e:H a=some (.dT kvs)) (eb:H b=some (.tup (k.map kV))):Ja7 H a (.ref b) (YD kvs k):=.inr ⟨kvs,k,b,.inl e,rfl,eb,rfl⟩
theorem JeO.k {H:Hp} {a:Addr} {kvs:List (JI×V)} {k:JI} {v:V} (e:H a=some (.dK kvs)) (hl:kvs.length < sizeLine):JeO H a (kV k) v (upd H a (.dK (Yn kvs k v))):=.inl ⟨kvs,k,e,rfl,hl,rfl⟩
theorem JeO.t {H:Hp} {a b:Addr} {kvs:List (List JI×V)} {k:List JI} {v:V} (e:H a=some (.dT kvs)) (eb:H b=some (.tup (k.map kV))) (hl:kvs.length < sizeLine) :
  JeO H a (.ref b) v (upd H a (.dT (Yn kvs k v))):=.inr ⟨kvs,k,b,e,rfl,eb,hl,rfl⟩
section
variable {X:Cx} {pins:List (Addr×Obj)} {σ:St} {H:Hp} {s:Shared} {a:Addr} {y v:V} {u r:Value} {o:Option V} {A:Around} {E:Value→Shared→Prop}
theorem Jk.big (I:Jk X pins σ H s):sysModules < s.heap.objs.size:=by
 have h:mainGlobals < s.heap.objs.size:=(I.mod.glob.keeps I.bk).lt;exact Nat.lt_trans (by decide) h
theorem Jl9 {Q:Value→Shared→Prop} (hu:A.units + 1 < cLine) (I:Jk X pins σ H s) (g:Ja7 H a y (some v)) (ry:JF y u) (h:∀ w' s',Jk X pins σ H s'→JF v w'→Q w' s') :
  wpAny (model X.prog X.w) A (getItem (.ref a) u) Q E s:=by
 rcases g with ⟨kvs,k,e,ey,l⟩ | ⟨kvs,k,b,e,ey,eb,l⟩
 ·subst ey;obtain ⟨z,hd,vs,rel,dd⟩:=Jid I.hok e;obtain ⟨w',hw,rw'⟩:=Jaa.some_of (v:=v) (o:=valueAt vs k) (by rw [l]; exact rel.val k);exact wpAny_getItem_of (Je5 ry) dd.mapOf hw (h w' _ (I.tok _) rw')
 ·subst ey;cases (show u=Value.ref b from ry);obtain ⟨z,hd,xs,rel,dd⟩:=Jic I.hok e;obtain ⟨w',hw,rw'⟩:=Jaa.some_of (v:=v) (o:=(atKey xs k).map (·.2)) (by rw [l]; exact rel.val k);obtain ⟨p,hp,hp2⟩:=Option.map_eq_some_iff.mp hw;refine wpAny_getItem_heap (tupleKind_room_in1 hu) (Jes I.hok eb) dd hp ?_;rw [hp2];exact h w' _ (I.tok _) rw'
theorem JoH {Q:Value→Shared→Prop} (hu:A.units + 1 < cLine) (I:Jk X pins σ H s) (g:Ja7 H a y o) (ry:JF y u) (h:∀ s',Jk X pins σ H s'→Q (.bool (!o.isSome)) s') :
  wpAny (model X.prog X.w) A (compareOp .NotIn u (.ref a)) Q E s:=by
 rcases g with ⟨kvs,k,e,ey,l⟩ | ⟨kvs,k,b,e,ey,eb,l⟩
 ·subst ey;obtain ⟨z,hd,vs,rel,dd⟩:=Jid I.hok e;refine wpAny_notIn_of (Je5 ry) hd dd.mapOf ?_;rw [← (rel.val k).isSome_eq,← l];exact h _ (I.tok _)
 ·subst ey;cases (show u=Value.ref b from ry);obtain ⟨z,hd,xs,rel,dd⟩:=Jic I.hok e;refine wpAny_notIn_heap (tupleKind_room_in1 hu) (Jes I.hok eb) hd dd ?_;have q:=(rel.val k).isSome_eq;rw [Option.isSome_map] at q;rw [← q,← l];exact h _ (I.tok _)
theorem Jfa {h':Heap} {t':Nat} {ob:HO} (I:Jk X pins σ H s) (mu:Mut (H a)) (hs:Heap.SameBut a s.heap h') (he:∃ q,h'.get? a=some q) (new:Yd X.prog X.w (upd H a ob) h' a ob) :
  Jk X pins σ (upd H a ob) { s with heap:=h',toks:=t' } :=
 I.write (x:=a) (e:=a) mu (.inl rfl) (fun b q hb z=>(hs.2 b hb).trans z) he new
theorem Jl5 {P:Program} {w:World} {H':Hp} {h':Heap} {kvs:List (JI×V)} {vs:List (JI×Value)} (z:kvs.length≤sizeLine) (hd:(a == sysModules)=false) (rel:KV kvs vs) (dd:h'.DictOf (J9 P w) a vs) :
  Yd P w H' h' a (.dK kvs):=⟨z,hd,vs,rel,dd⟩
theorem Jl8 {H':Hp} {Q:Unit→Shared→Prop} (hu:A.units + 1 < cLine) (I:Jk X pins σ H s) (g:JeO H a y v H') (ry:JF y u) (rv:JF v r) (h:∀ s',Jk X pins σ H' s'→Q () s') :
  wpAny (model X.prog X.w) A (setItem (.ref a) u r) Q E s:=by
 rcases g with ⟨kvs,k,e,ey,l,eH⟩ | ⟨kvs,k,b,e,ey,eb,l,eH⟩
 ·subst ey eH;obtain ⟨z,hd,vs,rel,dd⟩:=JnT I.hok e;have hz:vs.length≤sizeLine:=by rw [← rel.length]; exact z
  have hl:(Yn kvs k v).length≤sizeLine:=by have:=Z0 kvs k v; omega
  refine wpAny_setItem_pairs (hsz:=hz) (Je5 ry) dd fun h' dd' hs=>h _ ?_
  have he:∃ q,h'.get? a=some q:=let ⟨q,_,_,hq,_⟩:=dd'; ⟨q,hq⟩;exact Jfa I (by rw [e]; exact True.intro) hs he (Jl5 hl hd (rel.put k rv) dd')
 ·subst ey eH;cases (show u=Value.ref b from ry);obtain ⟨z,hd,xs,rel,dd⟩:=JnR I.hok e;have hz:xs.length≤sizeLine:=by rw [← Paired.length rel]; exact z
  have hl:(Yn kvs k v).length≤sizeLine:=by have:=Z0 kvs k v; omega
  refine wpAny_setItem_heap (hsz:=hz) (tupleKind_room_in1 hu) (Jes I.hok eb) dd fun h' dd' hs=>h _ ?_
  obtain ⟨q,es,ep,hq,h2,h3,h4,_,h5⟩:=dd';refine Jfa I (by rw [e]; exact True.intro) hs ⟨q,hq⟩ ⟨hl,hd,_,(rel.put k eb rv).keeps fun c ys ec=>?_,q,es,ep,hq,h2,h3,h4,h5⟩;rw [Jq (Jad ec e (fun z=>nomatch z))];exact ec
end
def JpD (i:Expr):Prop:=∀ ov iv,subscripted i false ov iv=operate [ov,iv] (getItem ov iv)
theorem Jn4 {prog:Program} {w:World} {A:Around} {E:Value→Shared→Prop} {s:Shared} {env:Env} {value slice:Expr} {pos:Pos} {T id:String} {Q:Value→Shared→Prop}
  (hl:typeLookup (.type T) "__getitem__" = pure (some (.builtin id))) (hs:JpD slice)
  (h:wpAny (model prog w) A (eval value env) (fun o s₁=>wpAny (model prog w) A (eval slice env) (fun i s₂=>s₂.TypeIs o T∧wpAny (model prog w) A (getItem o i) Q E s₂) E s₁) E s) :
  wpAny (model prog w) A (eval (.Subscript value slice pos) env) Q E s:=by
 refine Subscript_ (wpAny_mono h (fun o s₁ h₁=>wpAny_mono h₁ (fun i s₂ h₂=>?_) fun _ _ x=>x) fun _ _ x=>x);obtain ⟨hT,h₂⟩:=h₂;unfold subscriptTail;refine wpAny_bind ?_;rw [getitemInPython_of_ne hT.not_modules];refine wpAny_bind (wpAny_specialOf hT hl ?_);have fin:wpAny (model prog w) A (subscripted slice false o i) (fun r s₃=>wpAny (model prog w) A (letTemporaryGo value o r >>= fun _=>pure r) Q E s₃) E s₂:=by
  rw [hs o i];exact wpAny_operating (wpAny_mono h₂ (fun r s₃ h₃=>wpAny_bind (wpAny_letTemporaryGo (wpAny_pure h₃))) fun _ _ x=>x)
 first
  | exact wpAny_pure (wpAny_bind fin)
  | exact wpAny_bind (wpAny_pure (wpAny_bind fin))
  | exact wpAny_bind fin
theorem JjB {X:Cx} {pins:List (Addr×Obj)} {σ:St} {H:Hp} {s:Shared} {a:Addr} {y:V} {o:Option V} (I:Jk X pins σ H s) (g:Ja7 H a y o):s.TypeIs (.ref a) "dict":=by
 rcases g with ⟨kvs,k,e,_,_⟩ | ⟨kvs,k,b,e,_,_,_⟩
 ·obtain ⟨_,_,vs,_,dd⟩:=Jid I.hok e;exact dd.typeIs
 ·obtain ⟨_,_,xs,_,dd⟩:=Jic I.hok e;exact dd.typeIs
def JpR (td ty:TE):TE:=fun σ H Q=>td σ H fun x H1=>ty σ H1 fun y H2=>∃ a v,x=.ref a∧Ja7 H2 a y (some v)∧Q v H2
def Jn3 (ty td:TE):TE:=fun σ H Q=>ty σ H fun y H1=>td σ H1 fun x H2=>∃ a o,x=.ref a∧Ja7 H2 a y o∧Q (.bl (!o.isSome)) H2
def JpW (td ty tv:TE):TS:=fun D σ H=>tv σ H fun v H1=>td σ H1 fun x H2=>ty σ H2 fun y H3=>∃ a H4,x=.ref a∧JeO H3 a y v H4∧D.nx σ H4
section
variable {X:Cx} {o i e value:Expr} {pos pos' tpos:Pos} {td ty tv:TE}
theorem JdC (hu:X.A.units + 1 < cLine) (ho:PE X o td) (hi:PE X i ty) (hs:JpD i):PE X (.Subscript o i pos) (JpR td ty):=by
 intro pins s σ H Q I h;refine Jn4 PySem.F.slot_dict_getitem.lookup hs (JH (ho pins s σ H _ I h) fun u s1 ⟨x,H1,I1,rx,q1⟩=>JH (hi pins s1 σ H1 _ I1 q1) fun iv s2 ⟨y,H2,I2,ry,a,v,ex,g,q2⟩=>?_);subst ex;obtain rfl:u=Value.ref a:=rx;exact ⟨JjB I2 g,Jl9 hu I2 g ry fun w' s3 I3 rw'=>⟨v,H2,I3,rw',q2⟩⟩
theorem Jlw (hu:X.A.units + 1 < cLine) (hi:PE X i ty) (ho:PE X o td):PC X .NotIn i o (Jn3 ty td):=by
 intro pins s σ H Q I h;refine JH (hi pins s σ H _ I h) fun iv s1 ⟨y,H1,I1,ry,q1⟩=>JH (ho pins s1 σ H1 _ I1 q1) fun u s2 ⟨x,H2,I2,rx,a,ov,ex,g,q2⟩=>?_
 subst ex;obtain rfl:u=Value.ref a:=rx;exact JoH hu I2 g ry fun s3 I3=>⟨.bl (!ov.isSome),H2,I3,rfl,q2⟩
theorem JjM (hu:X.A.units + 1 < cLine) (ho:PE X o td) (hi:PE X i ty) (hv:PE X value tv) (hs:swapsWith value (some (.Subscript o i pos')) pos.line X.env=pure false) :
  PS X (.Assign [.Subscript o i pos'] value pos) (JpW td ty tv):=by
 intro pins s σ H D I h;refine wpAny_Assign_Subscript (JH (hv pins s σ H _ I h) fun r s1 ⟨v,H1,I1,rv,q1⟩=>JH (ho pins s1 σ H1 _ I1 q1) fun u s2 ⟨x,H2,I2,rx,q2⟩=>JH (hi pins s2 σ H2 _ I2 q2) fun iv s3 ⟨y,H3,I3,ry,a,H4,ex,g,q3⟩=>?_) hs;subst ex;obtain rfl:u=Value.ref a:=rx;exact Jl8 hu I3 g ry rv fun s4 I4=>⟨σ,H4,I4,q3⟩
end
theorem Jnr {P:Program} {w:World} {H:Hp} (h:Heap) (hb:sysModules < h.objs.size):Yd P w H (h.push { cls:=.type "dict",data:=.dict #[] }) h.objs.size (.dK []) :=
 ⟨Nat.zero_le _,beq_eq_false_iff_ne.mpr (Ne.symm (Nat.ne_of_lt hb)),[],.nil,Heap.DictOf.new h⟩
theorem Jjf {P:Program} {w:World} {H:Hp} (h:Heap) (hb:sysModules < h.objs.size):Yd P w H (h.push { cls:=.type "dict",data:=.dict #[] }) h.objs.size (.dT []) :=
 ⟨Nat.zero_le _,beq_eq_false_iff_ne.mpr (Ne.symm (Nat.ne_of_lt hb)),[],.nil,_,#[],0,Heap.get?_push_size _ rfl,⟨rfl,rfl,rfl⟩,rfl,rfl,List.nodup_nil⟩
def JoU:TE:=fun _ H Q=>∀ p,H p=none→Q (.ref p) (upd H p (.dT []))
section
variable {X:Cx} {pos:Pos}
theorem Jm6:PE X (.Dict [] [] pos) JoU:=fun pins s σ H Q I h =>
 wpAny_Dict_empty ⟨.ref s.heap.objs.size,_,I.laid (a:=s.heap.objs.size) (o:=.dT []) (t':=s.toks) (fun _ _ q=>Heap.get?_push_of_some _ q) (Nat.le_refl _) (Jjf s.heap I.big),rfl,h _ (I.hok.fresh (Nat.le_refl _))⟩
end
def Jil:List (TE×TE)→St→Hp→(List (V×V)→Hp→Prop)→Prop
 | [],_,H,Q=>Q [] H
 | (tk,tv) :: r,σ,H,Q=>tk σ H fun x H1=>tv σ H1 fun y H2=>Jil r σ H2 fun ps H3=>Q ((x,y) :: ps) H3
abbrev VV:List (V×V)→List (Value×Value)→Prop:=Paired fun p q=>JF p.1 q.1∧JF p.2 q.2
def PPs (X:Cx) (pos:Pos) (keys:List (Option Expr)) (values:List Expr) (trs:List (TE×TE)):Prop :=
 ∀ (pins:List (Addr×Obj)) (s:Shared) (σ:St) (H:Hp) (Q:List (V×V)→Hp→Prop),Jk X pins σ H s→Jil trs σ H Q →
  wpAny (model X.prog X.w) X.A (evalPairs (pairTrees keys values X.env pos)) (fun vs s'=>∃ ps H',Jk X pins σ H' s'∧VV ps vs∧Q ps H') X.xe s
theorem Jom {X:Cx} {pos:Pos}:PPs X pos [] [] []:=fun pins s σ H Q I h=>pairTrees_nil_walk ⟨[],H,I,.nil,h⟩
theorem JiH {X:Cx} {pos:Pos} {k v:Expr} {ks:List (Option Expr)} {vs:List Expr} {tk tv:TE} {trs:List (TE×TE)} (hk:PE X k tk) (hv:PE X v tv) (hr:PPs X pos ks vs trs) :
  PPs X pos (some k :: ks) (v :: vs) ((tk,tv) :: trs):=fun pins s σ H Q I h =>
 pairTrees_cons_walk (JH (hk pins s σ H _ I h) fun u s1 ⟨x,H1,I1,rx,q1⟩=>JH (hv pins s1 σ H1 _ I1 q1) fun w2 s2 ⟨y,H2,I2,ry,q2⟩ =>
  JH (hr pins s2 σ H2 _ I2 q2) fun ws s3 ⟨ps,H3,I3,rel,q3⟩=>⟨(x,y) :: ps,H3,I3,.cons ⟨rx,ry⟩ rel,q3⟩)
def JaV (kvs more:List (JI×V)):List (JI×V):=more.foldl (fun acc kv=>Yn acc kv.1 kv.2) kvs
theorem KV.merge:∀ {more:List (JI×V)} {rs:List (JI×Value)} {kvs:List (JI×V)} {vs:List (JI×Value)},KV more rs→KV kvs vs→KV (JaV kvs more) (merged vs rs):=by
 intro more rs kvs vs r;unfold KV at r
 induction r generalizing kvs vs with
 | nil=>intro q; exact q
 | @cons p q ps qs h t ih =>
  intro r0;have e:KV (Yn kvs p.1 p.2) (stored vs q.1 q.2):=by
   have:=r0.put p.1 h.2;rw [← h.1]; exact this
  exact ih e
theorem Jd4:∀ (more kvs:List (JI×V)),(JaV kvs more).length≤kvs.length + more.length
 | [],kvs=>by show kvs.length≤kvs.length + 0; omega
 | p :: r,kvs=>by
  have h1:=Jd4 r (Yn kvs p.1 p.2);have h2:=Z0 kvs p.1 p.2;show (JaV (Yn kvs p.1 p.2) r).length≤_;rw [List.length_cons]; omega
theorem Jgu {P:Program} {w:World}:∀ {kvs:List (JI×V)} {ws:List (Value×Value)},VV (kvs.map fun kv=>(kV kv.1,kv.2)) ws→∃ rs,Carries (J9 P w) ws rs∧KV kvs rs
 | [],_,r=>by rw [List.map_nil] at r; cases r; exact ⟨[],True.intro,.nil⟩
 | p :: kvs,_,r=>by
  rw [List.map_cons] at r;cases r with
  | @cons a b as bs h t =>
   obtain ⟨rs,c,q⟩:=Jgu (P:=P) (w:=w) t;obtain ⟨b1,b2⟩:=b;exact ⟨(p.1,b2) :: rs,⟨Je5 h.1,rfl,c⟩,.cons ⟨rfl,h.2⟩ q⟩
def JpQ (trs:List (TE×TE)):TE:=fun σ H Q=>∀ p,H p=none→Jil trs σ (upd H p (.dK [])) fun ps H2=>H2 p=some (.dK [])∧∃ kvs:List (JI×V),ps=kvs.map (fun kv=>(kV kv.1,kv.2))∧kvs.length≤15∧Q (.ref p) (upd H2 p (.dK (JaV [] kvs)))
theorem Jon {X:Cx} {pos:Pos} {keys:List (Option Expr)} {values:List Expr} {trs:List (TE×TE)} (h:PPs X pos keys values trs) (hall:keys.all (·.isSome)=true) (hl:keys.length=values.length) (h0:keys≠[])
  (h15:keys.length≤15):PE X (.Dict keys values pos) (JpQ trs):=by
 intro pins s σ H Q I q;have hn:=I.hok.fresh (Nat.le_refl s.heap.objs.size);have I1:=I.laid (a:=s.heap.objs.size) (o:=.dK []) (h':=s.heap.push { cls:=.type "dict",data:=.dict #[] }) (t':=s.toks) (fun _ _ q=>Heap.get?_push_of_some _ q) (Nat.le_refl _) (Jnr s.heap I.big);refine wpAny_Dict_walk (knd:=J9 X.prog X.w) hall hl h0 h15 (JH (h pins _ σ _ _ I1 (q _ hn)) fun ws s2 ⟨ps,H2,I2,rel,e,kvs,ep,lk,q2⟩=>?_);subst ep;obtain ⟨rs,c,rk⟩:=Jgu (P:=X.prog) (w:=X.w) rel;obtain ⟨z,hd,vs0,r0,dd⟩:=JnT I2.hok e;cases r0;refine ⟨rs,c,dd,fun h' dd' hs=>⟨.ref s.heap.objs.size,_,?_,rfl,q2⟩⟩;have hz:(JaV [] kvs).length≤sizeLine:=by
  have h1:=Jd4 kvs [];rw [List.length_nil] at h1;rw [sizeLine_eq]; omega
 have he:∃ q,h'.get? s.heap.objs.size=some q:=let ⟨q,_,_,hq,_⟩:=dd'; ⟨q,hq⟩;exact Jfa I2 (by rw [e]; exact True.intro) hs he (Jl5 hz hd (rk.merge .nil) dd')
end L2
namespace Att
open PySem PySem.W PySem.Calls PyProof.Rows
theorem Jgm {P:Params} {h:Heap}:∀ (ns:List Int) (vs:List Value),WellAll P h vs (ns.map WData.int)→IntsAre vs ns:=by
 intro ns
 induction ns with
 | nil =>
  intro vs w;rw [List.map_nil] at w;cases w;exact .nil
 | cons n ns ih =>
  intro vs w;rw [List.map_cons] at w;cases w with
  | cons a b =>
   cases a;exact .cons _ _ (ih _ b)
theorem Jln {l:OpenLaw} {n:Nat} (hn:l.most=some n) {P:Params} {h:Heap} {args:List WData} {vals:List Value}
  (hpre:l.row.toRowW.claim.pre args=true) (hwl:WellAll P h vals args) :
  ∃ a vs ns,vals=[Value.ref a]∧args=[WData.list (ns.map WData.int)]∧h.get? a=some { cls:=.type "list",data:=.seq vs.toArray }∧IntsAre vs ns∧ns.length≤n:=by
 have hsh:WShape.hasAll [] args [.list .int]=true:=(pre_splitW hpre).1;have hc:l.pre.holds [] { args:=args }=true:=(pre_splitW hpre).2;obtain ⟨d,r,rfl,h1,h2⟩:=hasAllW_cons hsh;obtain rfl:=hasAllW_nil h2;obtain ⟨xs,rfl,h3⟩:=hasW_list h1;obtain ⟨ns,rfl⟩:=items_int h3;have hlen:ns.length≤n:=by
  unfold OpenLaw.pre at hc;have h4:(WTm.not (.lt (.lit (.int (n:Int))) (.len (.arg 0)))).holds [] { args:=[.list (ns.map .int)] }=true:=by
   have h4:=(holds_andW hc).1;rw [hn] at h4;exact h4
  have h5:=condW_of h4 (w_not (w_lt w_lit (w_len_list (w_arg rfl))));rw [List.length_map] at h5;refine Nat.le_of_not_lt fun q=>?_
  have q':(n:Int) < ((ns.length:Nat):Int):=by omega
  first
   | (rw [decide_eq_true q'] at h5; exact absurd h5 (by decide))
   | (simp at h5; omega)
 cases hwl with
 | cons w1 w2 =>
  cases w2;cases w1 with
  | list ho hall=>exact ⟨_,_,ns,rfl,rfl,ho,Jgm ns _ hall,hlen⟩
theorem Jlr (l:OpenLaw) (args:List WData):l.row.toRowW.claim.post args (.bool true) args=true :=
 postW_of (r:=l.row.toRowW) (X:=(true == true))
  (show WShape.has [] (.bool true) .bool=true by first | rfl | decide | simp [WShape.has,WShape.arms,WShape.armsAll])
  (show (WTm.eq .res (.lit (.bool true))).value [] { args:=args,res:=some (.bool true),after:=args }=some (.bool (true == true)) from w_eq_bool (w_res rfl) w_lit) rfl
theorem JjE {l:OpenLaw} {n:Nat} {q:Program} {loose:List Str} {XP:(Str→Option Value)→Heap→Prop} {YP:World→Heap→Prop} {d:DefRec}
  (hn:l.most=some n) (hdf:d.params.defaults=[])
  (call:∀ (w:World) (s₀ s₁:Shared) (mg mb:Str→Option Value) (fa:Addr) (o:Obj) (pm cd doc:Value) (a:Addr) (vs:List Value) (ns:List Int),
   Ground q loose [] XP w s₀ mg mb s₁.heap→YP w s₁.heap →
   s₁.heap.get? fa=some o→o.data=.func (docDef d.name d.params d.body d.scope pm cd doc)→s₁.heap.CodeRec cd d.name→mg d.name=some (.ref fa) →
   s₁.heap.get? a=some { cls:=.type "list",data:=.seq vs.toArray }→IntsAre vs ns→ns.length≤n→s₁.gens=#[] →
   codeAny (model l.prog w) callerA (.call (.ref fa) ⟨[.ref a],[]⟩) (fun r s'=>r=.ok (.ret (.bool true))∧OldK s₁.heap s'.heap∧s'.os=s₁.os∧AllBare s'.gens) s₁) :
  WalkO q loose XP YP l.row.toRowW d [] (fun f vs=>PySem.call f vs):=by
 intro w s₀ s₁ mg mb G Y fa o pm cd doc dV kV ho hd hcd hD hmg hg args vals as hpre hlay hrd hwl hlo;obtain rfl:dV=.none:=Dflts.none hD hdf;obtain rfl:kV=.none:=Dflts.noKw hD;obtain ⟨a,vs,ns,rfl,rfl,hobj,hints,hlen⟩:=Jln hn hpre hwl;refine enter_call (codeAny_mono (call w s₀ s₁ mg mb fa o pm cd doc a vs ns G Y ho (fd_plain hd) hcd hmg hobj hints hlen hg) fun r s' hq=>?_);obtain ⟨rfl,h2,h3,h4⟩:=hq;exact ⟨.inl ⟨.bool true,.bool true,[],rfl,fun _=>rfl,.bool true,Jlr l _,fun _=>⟨List.Pairwise.nil,fun _ hm=>(nomatch hm)⟩⟩,h2,h3,h4⟩
end Att
namespace L2
open PySem PySem.Spec PyProof.Rows
theorem Jho:∀ {vs:List Value} {ns:List Int},IntsAre vs ns→Jz (ns.map V.int) vs
 | _,_,.nil=>.nil
 | _,_,.cons n t h=>.cons ⟨t,rfl⟩ (Jho h)
def JnA (H:Hp):Prop:=∀ b,H b=none∨∃ o xs,H b=some (.frz o (.lst xs))
theorem Jnk {P:Program} {w:World} {K:PySem.W.Frag} {mg mb:Str→Option Value} {CX:CXT} {k:Nat} {fa a:Addr} {fd:FuncData} {x:Str} {sp:Sp} {s₁:Shared} {vs:List Value} {ns:List Int}
  (KX:K.In s₁.heap) (hns:s₁.heap.Ns mainGlobals mg) (hb:s₁.heap.Ns builtinsNs mb) (hbb:∀ x:Str,x ≠ "__name__"→mb x=bootBuiltins x) (hlim:s₁.heap.NoLimit) (hg:s₁.gens=#[])
  (ha:s₁.heap.get? a=some { cls:=.type "list",data:=.seq vs.toArray }) (hi:IntsAre vs ns) (hl:ns.length≤sizeLine) (hr:YA k callerA)
  (F:∀ base:Heap,K.In base→base.Ns mainGlobals mg→JN P w K mg base CX k fa fd [x] sp) (hbind:∀ (s:Shared) (u:Value),BindsTo s fd ⟨[u],[]⟩ [(x,u)])
  (hsp:∀ H:Hp,JnA H→Js K H a (ns.map V.int)→sp [.ref a] H (fun v _=>v=.bl true) fun _ _ _=>False)
  (hCX:∀ H e s',CX [] H s₁ (fun _ _ _=>False) e s'→False) :
  codeAny (model P w) callerA (.call (.ref fa) ⟨[.ref a],[]⟩) (fun r s'=>r=.ok (.ret (.bool true))∧OldK s₁.heap s'.heap∧s'.os=s₁.os∧AllBare s'.gens) s₁:=by
 have rv:=Jho hi;have lenV:=hi.length;have core:∀ H:Hp,JnA H→Js K H a (ns.map V.int)→Zn P w H s₁.heap→(∀ b,H b≠none→b=a)→(H a≠none→K.lookup a=none) →
   codeAny (model P w) callerA (.call (.ref fa) ⟨[.ref a],[]⟩) (fun r s'=>r=.ok (.ret (.bool true))∧OldK s₁.heap s'.heap∧s'.os=s₁.os∧AllBare s'.gens) s₁:=by
  intro H hO hS hok hA hK;have base_of:∀ {b:Addr} {o:Obj},s₁.heap.get? b=some o→H b=none→(JdY s₁.heap H).get? b=some o:=fun e n=>Jnm e n
  have noA:∀ {b:Addr} {o:Obj} {es:Array DictEntry} {ep:Nat},s₁.heap.get? b=some o→o.data=.dict es ep→H b=none:=fun {b o es ep} e d=>by
   cases q:H b with
   | none=>rfl
   | some u =>
    have e':b=a:=hA b (by rw [q]; simp);subst e';rw [ha] at e; cases e;have d':Data.seq vs.toArray _=Data.dict es ep:=d;cases d'
  have nsK:∀ {b:Addr} {m:Str→Option Value},s₁.heap.Ns b m→(JdY s₁.heap H).Ns b m:=fun {b m} ⟨o,es,ep,e,d,r⟩=>⟨o,es,ep,base_of e (noA e d),d,r⟩
  have hKb:K.In (JdY s₁.heap H):=fun b o e=>base_of (KX b o e) (by
   cases q:H b with
   | none=>rfl
   | some u =>
    have e':b=a:=hA b (by rw [q]; simp);subst e';rw [hK (by rw [q]; simp)] at e; cases e)
  have hM:Mod K mg (JdY s₁.heap H):=⟨hKb,nsK hns,⟨mb,nsK hb,hbb⟩,let ⟨mc,h1,h2⟩:=hlim; ⟨mc,nsK h1,h2⟩⟩
  have e0:Jdp P w K mg (JdY s₁.heap H) callerA [] s₁ H:=⟨rfl,hM,fun b o e=>Jou e,Nat.le_of_eq (JlY _ _),trivial,fun b hb=>absurd (show b∈([]:List Addr) from hb) (by simp),hok,.of_eq hg⟩
  refine codeAny_mono ((F _ hKb (nsK hns)).run callerA [] s₁ H ⟨[.ref a],[]⟩ [.ref a] [.ref a] _ _ hr e0 (hbind s₁ (.ref a)) (.cons rfl .nil) (hsp H hO hS)) fun r s' h=>?_
  cases r with
  | error e=>exact (hCX H e s' h).elim
  | ok fl =>
   cases fl with
   | next=>exact False.elim h
   | brk=>exact False.elim h
   | cont=>exact False.elim h
   | ret u =>
    obtain ⟨v,H',os,bare,un,hok',r',q⟩:=h;have q':v=.bl true:=q;subst q';obtain rfl:u=Value.bool true:=r';refine ⟨rfl,OldK.of_keep fun b o e=>?_,os,bare⟩;cases q:H b with
    | none=>exact un.keep b o e q (by intro z; exact absurd (show b∈([]:List Addr) from z) (by simp)) (by simp)
    | some u =>
     rcases hO b with z | ⟨ob,xs,z⟩
     ·rw [q] at z; cases z
     ·have z2:=un.frzs b ob _ z;obtain ⟨e1,_⟩:=hok b _ z;obtain ⟨e2,_⟩:=hok' b _ z2;rw [e] at e1; cases e1;exact e2
 cases hk:K.lookup a with
 | some o =>
  have e:=KX a o hk;rw [ha] at e;cases e;refine core (fun _=>none) (fun _=>.inl rfl) (.inr ⟨_,vs.toArray,_,hk,rfl,rfl,rfl,by rw [List.size_toArray,lenV]; exact hl,by simpa using rv⟩) (fun b u z=>by have z':(none:Option HO)=some u:=z; cases z') (fun b z=>absurd rfl z) fun z=>absurd rfl z
 | none =>
  refine core (fun b=>if b=a then some (.frz { cls:=.type "list",data:=.seq vs.toArray } (.lst (ns.map V.int))) else none) (fun b=>?_) (.inl (.inr ⟨{ cls:=.type "list",data:=.seq vs.toArray },if_pos rfl⟩)) (fun b u z=>?_) (fun b z=>?_) fun _=>hk
  ·by_cases hb:b=a
   ·exact .inr ⟨_,_,if_pos hb⟩
   ·exact .inl (if_neg hb)
  ·by_cases hb:b=a
   ·have z':=(if_pos hb).symm.trans z;cases z';subst hb;exact ⟨ha,by rw [List.length_map]; exact hl,vs,_,rv,ha⟩
   ·have z':=(if_neg hb).symm.trans z;cases z'
  ·by_cases hb:b=a
   ·exact hb
   ·exact absurd (if_neg hb) z
end L2
namespace L2
open PySem PySem.Spec PyProof.Rows
abbrev YO:CXT:=fun _ _ _ _ _ _=>False
abbrev E0:XK:=fun _ _ _=>False
theorem JE {X:Cx}:Jbp YO X E0:=fun _ _ _ _ _ _ _ h=>h.elim
structure Fun (K:PySem.W.Frag) (x qual:Str) (st:Stmt) (f:Addr) (fd:FuncData):Prop where
 ex:∃ (oc:Value) (od:Option Addr) (kV doc pm:Value) (an:Option Addr) (cdv ct:Value) (osl:Array (Option Value)),
  fd=PySem.W.fnOf x qual (JcD st) (Ja8 st) (Jo st) .none kV doc pm an cdv ct∧K.lookup f=some ⟨oc,od,.func fd,osl⟩∧PySem.W.codeIn K cdv qual=true
 kp:PySem.W.keepIn K (.ref f)=true
section
variable {P:Program} {w:World} {K:PySem.W.Frag} {mg:Str→Option Value} {base:Heap}
theorem Fun.ok {x qual:Str} {st:Stmt} {f:Addr} {fd:FuncData} {N ps:List Str} {k:Nat} {sp:Sp} (F:Fun K x qual st f fd) (S:Jx N ps (Jo st)) (len:∀ vs H Q E,sp vs H Q E→vs.length=ps.length)
  (hbody:∀ (cdv:Value) (A:Around) (outer:List Env) (s:Shared) (H:Hp) (vs:List V) (Q:VK) (E:XK),YA k (A.deeper (envOfC qual (Jo st) s.heap.objs.size f cdv))→sp vs H Q E →
   ∃ t,PSs (Zs YO P w K mg base N qual (Jo st) f cdv A outer s H E).nox (Ja8 st) t∧t { nx:=fun _ H'=>Q .non H',rt:=Q } (Ym N vs) H):JN P w K mg base YO (k + 1) f fd ps sp:=by
 obtain ⟨oc,od,kV,doc,pm,an,cdv,ct,osl,rfl,lk,hcd⟩:=F.ex;refine JnQ lk hcd S len fun A outer s H vs Q E hr hsp=>?_
 obtain ⟨t,h,q⟩:=hbody cdv A outer s H vs Q E hr hsp;exact ⟨t,h.nox,q⟩
theorem Fun.binds {x qual:Str} {st:Stmt} {f:Addr} {fd:FuncData} {ps:List Str} (F:Fun K x qual st f fd)
  (h:∀ (kV doc pm:Value) (an:Option Addr) (cdv ct:Value) (us:List Value),us.length=ps.length→bindArgs (PySem.W.fnOf x qual (JcD st) (Ja8 st) (Jo st) .none kV doc pm an cdv ct) ⟨us,[]⟩=pure (ps.zip us)):JbW K fd ps []:=by
 obtain ⟨oc,od,kV,doc,pm,an,cdv,ct,osl,rfl,lk,hcd⟩:=F.ex;exact .all (h kV doc pm an cdv ct)
end
theorem Jbg {A:Around} {k:Nat} (hr:YA k A):A.units + 1 < cLine:=Nat.lt_of_le_of_lt (Nat.add_le_add_left (by decide:1≤64) _) hr.units
section
variable {X:Cx}
theorem pv (i:Nat) {x:Str} {pos:Pos} (hN:X.N[i]?=some x:=by rfl) (hv:Vis X.env.scope x:=by first | exact Or.inl rfl | exact Or.inr (Or.inl rfl) | exact Or.inr (Or.inr rfl)) (hd:(x == ("__debug__" : Str))=false:=by decide)
  (hcd:(x == ("__classdict__" : Str))=false:=by decide):PE X (.Name x pos) (Jkf i):=JiI hN hv hd hcd
end
theorem Zk {A B:Prop} (h:B):if false=true then A else B:=by
 rw [if_neg Bool.false_ne_true];exact h
theorem YU {A B:Prop} (h:A):if true=true then A else B:=by
 rw [if_pos rfl];exact h
theorem YE {c A B:Prop} [Decidable c] (h1:c→A) (h2:¬ c→B):if c then A else B:=by
 by_cases h:c
 ·rw [if_pos h];exact h1 h
 ·rw [if_neg h];exact h2 h
def Jf (H H':Hp):Prop:=∀ b o,H b=some o→H' b=some o
theorem Jf.refl (H:Hp):Jf H H:=fun _ _ h=>h
theorem Jf.trans {H H1 H2:Hp} (a:Jf H H1) (b:Jf H1 H2):Jf H H2:=fun c o h=>b c o (a c o h)
theorem Jf.free {H H':Hp} (e:Jf H H') {l:Addr} (h:H' l=Option.none):H l=Option.none:=by
 cases q:H l with
 | none=>rfl
 | some o =>
  rw [e l o q] at h;cases h
theorem Jf.seq {K:PySem.W.Frag} {H H':Hp} {a:Addr} {xs:List V} (e:Jf H H') (h:Js K H a xs):Js K H' a xs:=by
 rcases h with (h | ⟨o,h⟩) | h
 ·exact .inl (.inl (e _ _ h))
 ·exact .inl (.inr ⟨o,e _ _ h⟩)
 ·exact .inr h
end L2
namespace L2
open PySem PySem.Spec PyProof.Rows
structure Df (K:PySem.W.Frag) (mg:Str→Option Value) (x:Str) (st:Stmt) (ps:List Str) (f:Addr) (fd:FuncData):Prop where
 F:Fun K x x st f fd
 b:JbW K fd ps []
 m:mg x=some (.ref f)
section
variable {X:Cx} {CX:CXT} {k:Nat} {f C:Addr} {fd:FuncData} {ps:List Str} {sp:Sp} {E:XK} {x m:Str} {p pos apos:Pos} {st:Stmt} {e o:Expr} {es:List Expr} {te ta:TE} {t:TA}
theorem Jn (D:Df X.K X.mg x st ps f fd) (G:JN X.prog X.w X.K X.mg X.base CX k f fd ps sp) (hr:YA k X.A) (hx:Jbp CX X E) (ha:PA X (e :: es) t)
  (hg:Gl X x:=by rfl) (hdb:(x == ("__debug__" : Str))=false:=by decide) (he:starEach (e :: es) X.env=(false,eval e X.env) :: starEach es X.env:=by rfl) (hpl:(backTo pos (starEach es X.env)).any (·.1)=false:=by rfl) :
  PE X (.Call (.Name x p) (e :: es) [] pos) (JnH sp [] E t):=Joo G hr hg D.m D.F.kp D.b .nil hx ha hdb he hpl
def Jpy:V→Value
 | .ty n=>.type n
 | .ref a=>.ref a
 | _=>.none
theorem JbU:Y9 X (.builtin "isinstance") (fun xs H Q=>∃ x c t b,xs=[x,c]∧(∃ n,c=.ty n∨∃ a,c=.ref a)∧JbO X.K H x t∧PySem.W.kitOne X.K t (Jpy c)=some b∧Q (.bl b) H):=by
 intro pins s σ H xs us Q I r h;obtain ⟨x,c,t,b,rfl,hc,ty,e,q⟩:=h;cases r with
 | cons r rr =>
  cases rr with
  | cons r' rr =>
   cases rr;rename_i u u';have e':u'=Jpy c:=by
    obtain ⟨n,rfl | ⟨a,rfl⟩⟩:=hc
    ·exact r'
    ·exact r'
   subst e';exact JlU I r ty e fun tk=>⟨.bl b,H,I.tok _,rfl,q⟩
def Jp6 (S C:String):Option Bool:=if (Value.type S == Value.type C)=true then some true else if PySem.W.kitMeta C=true then (fastBuiltinMro S).map (·.contains (Value.type C)) else none
theorem Ji0 {K:PySem.W.Frag} {S C:String} {b:Bool} (h:Jp6 S C=some b):PySem.W.kitOne K (.type S) (.type C)=some b:=h
theorem Jpo {K:PySem.W.Frag}:PySem.W.kitOne K (.type "int") (.type "int")=some true:=Ji0 (by decide +kernel)
theorem Jpp {K:PySem.W.Frag}:PySem.W.kitOne K (.type "int") (.type "bool")=some false:=Ji0 (by decide +kernel)
theorem JlP {K:PySem.W.Frag}:PySem.W.kitOne K (.type "str") (.type "str")=some true:=Ji0 (by decide +kernel)
end
def Jqx (t:TS):TS:=fun D σ H=>@JeM.rec (fun _=>Prop) (fun nx rt bk ct=>∃ R:St→Hp→Prop,t ⟨R,rt,bk,ct⟩ σ H∧∀ σ' H',R σ' H'→nx σ' H') D
theorem J7 {X:Cx} {st:Stmt} {t:TS} (h:PS X st t):PS X st (Jqx t):=by
 intro pins s σ H D I ⟨R,q,n⟩;refine JH (h pins s σ H _ I q) fun f s1 z=>?_
 cases f with
 | next =>
  obtain ⟨σ',H',I',r⟩:=z;exact ⟨σ',H',I',n _ _ r⟩
 | brk=>exact z
 | cont=>exact z
 | ret u=>exact z
theorem Jf.upd {H:Hp} {p:Addr} {o:HO} (h:H p=none):Jf H (upd H p o):=fun b u e=>by
 rw [Jq (JB e h)];exact e
theorem Jf.tup {K:PySem.W.Frag} {H H':Hp} {a:Addr} {xs:List V} (e:Jf H H') (h:JK K H a xs):JK K H' a xs:=by
 rcases h with (h | ⟨o,h⟩) | h
 ·exact .inl (.inl (e _ _ h))
 ·exact .inl (.inr ⟨o,e _ _ h⟩)
 ·exact .inr h
theorem YH {c:Bool} {A B:Prop} (hc:c=true) (h:A):if c=true then A else B:=by rw [if_pos hc]; exact h
theorem J3 {c:Bool} {A B:Prop} (hc:c=false) (h:B):if c=true then A else B:=by rw [hc,if_neg Bool.false_ne_true]; exact h
section
variable {X:Cx} {x:Str} {pos:Pos}
theorem Jgc {S:String} (hg:Gl X x) (hm:X.mg x=none) (hv:bootBuiltins x=some (.type S)) (hn:x ≠ "__name__":=by decide) (hd:(x == ("__debug__" : Str))=false:=by decide):PE X (.Name x pos) (tC (.ty S)):=Jop hg hm hv rfl hn hd
theorem JjR {a:Addr} (hg:Gl X x) (hm:X.mg x=some (.ref a)) (hd:(x == ("__debug__" : Str))=false:=by decide):PE X (.Name x pos) (tC (.ref a)):=JaD hg hm rfl hd
end
end L2
namespace L2
open PySem PySem.Spec PyProof.Rows
structure ExC (K:PySem.W.Frag) (C:Addr):Prop where
 ex:PySem.W.excIn K C [.type "ValueError",.type "Exception",.type "BaseException",.type "object"] "ValueError.__new__" = true
 ga:PySem.W.findIn K (.ref C) "__getattribute__" = some (some (.builtin "BaseException.__getattribute__"))
 gt:PySem.W.findIn K (.ref C) "__getattr__" = some none
 cl:PySem.W.findIn K (.ref C) "__class__" = some (some (.builtin "object.__class__"))
 sp:PySem.W.specialIn K (.builtin "object.__class__") "__get__" = some (some (.builtin "getset_descriptor.__get__"))
 tk:PySem.W.takesIn K (.builtin "object.__class__")=some true
 mo:PySem.W.mroIn K C (.type "object")=some true
 mb:PySem.W.mroIn K C (.type "BaseException")=some true
 ci:(PySem.W.clsIn K C).isSome=true
section
variable {prog:Program} {w:World} {A:Around} {E:Value→Shared→Prop} {s:Shared} {K:PySem.W.Frag} {e C:Addr} {oe:Obj}
def JpG (h:Heap) (e C:Addr):Prop:=∃ oe,h.get? e=some oe∧oe.cls=.ref C
theorem JpG.type {h:Heap} {M:Model} (I:JpG h e C):PySem.W.Looks M h (typeOf (.ref e)) (.ref C):=by
 obtain ⟨oe,h1,h2⟩:=I;exact h2 ▸ (PySem.W.Looks.ld h1).andThen .now
end
structure Jk0 (P:Program) (w:World) (outer:List Env) (H:Hp) (h:Heap) (ea C:Addr) (B:Heap) (H':Hp) (h':Heap):Prop where
 fly:∃ a0,Heap.FlyingW B outer ea (.ref C) a0 h'
 hok:Zn P w H' B
 keep:∀ b o,h.get? b=some o→H b=none→b∉Zm outer→B.get? b=some o
 there:∀ b o,h.get? b=some o→b∉Zm outer→∃ o',B.get? b=some o'
 slot:∀ b o,h.get? b=some o→b∈Zm outer→∃ sl,h'.get? b=some { o with slots:=sl }
 free:∀ b o,h.get? b=some o→H b=none→H' b=none
 tups:∀ b xs,H b=some (.tup xs)→H' b=some (.tup xs)
 frzs:∀ b o u,H b=some (.frz o u)→H' b=some (.frz o u)
 tbls:∀ b ps,H b=some (.tbl ps)→∃ more,H' b=some (.tbl (ps ++ more))
theorem Jk0.un {P:Program} {w:World} {outer:List Env} {H H':Hp} {h h' h'' B:Heap} {ea C:Addr} (F:Jk0 P w outer H h ea C B H' h') (st:B.StaysIn h'') (sl:∀ b o,h.get? b=some o→b∈Zm outer→∃ sl,h''.get? b=some { o with slots:=sl }) :
  Un (Zm outer) [] H H' h h'' where
 keep:=fun b o e n hb _=>st b o (F.keep b o e n hb)
 slot:=fun b o e n hb _=>sl b o e hb
 free:=fun b o e n _=>F.free b o e n
 there:=fun b o e _=>by
  by_cases hb:b∈Zm outer
  ·obtain ⟨s,q⟩:=sl b o e hb;exact ⟨_,q⟩
  ·obtain ⟨o',q⟩:=F.there b o e hb;exact ⟨o',st b o' q⟩
 tups:=F.tups
 frzs:=F.frzs
 tbls:=F.tbls
theorem Jiu {h' h'' base:Heap} {l:List Env} (hl:h'.FunFrames base l) (k:h'.UpToSlots h'') {b:Addr} {o:Obj} {sl:Array (Option Value)} (e:h'.get? b=some { o with slots:=sl }) (hb:b∈Zm l):∃ sl,h''.get? b=some { o with slots:=sl }:=by
 obtain ⟨_,o',ho',hd⟩:=hl.mem hb;rw [e] at ho';cases ho';obtain ⟨s,q⟩:=k b _ e hd;exact ⟨s,q⟩
abbrev Y3 (P:Program) (w:World):CXT:=fun outer H s E e s'=>∃ (ea C:Addr) (B:Heap) (H':Hp),e=.ref ea∧s'.os=s.os∧AllBare s'.gens∧Jk0 P w outer H s.heap ea C B H' s'.heap∧E (.ref C) none H'
def Jmq (X:Cx) (E:XK):Prop:=∀ (pins:List (Addr×Obj)) (σ:St) (H:Hp) (s:Shared) (ea C:Addr) (vs:List Value) (h':Heap),Jk X pins σ H s→Heap.MadeExcOf s.heap h' ea (.ref C) vs→E (.ref C) none H→X.xe (.ref ea) { s with heap:=h' }
section
variable {P:Program} {w:World} {K:PySem.W.Frag} {mg:Str→Option Value} {base:Heap} {N:List Str} {qual:Str} {sc:Scope} {f:Addr} {cd:Value} {A:Around} {outer:List Env} {s:Shared} {H:Hp} {E:XK}
theorem Jdz:Jmq (Zs (Y3 P w) P w K mg base N qual sc f cd A outer s H E) E:=by
 intro pins σ H1 s1 ea C vs h' I hx q;have hstk:Zm (Zs (Y3 P w) P w K mg base N qual sc f cd A outer s H E).stack=s.heap.objs.size :: Zm outer:=rfl;have hin:∀ env∈(Zs (Y3 P w) P w K mg base N qual sc f cd A outer s H E).stack,∀ a,env.frame=some a→a∈Zm (Zs (Y3 P w) P w K mg base N qual sc f cd A outer s H E).stack:=fun env he a ha=>List.mem_filterMap.mpr ⟨env,he,ha⟩
 have notin:∀ {b:Addr} {o:Obj},s.heap.get? b=some o→b∉Zm outer→b∉Zm (Zs (Y3 P w) P w K mg base N qual sc f cd A outer s H E).stack:=fun {b o} e hb hm=>by
  rw [hstk] at hm;rcases List.mem_cons.mp hm with z | z
  ·exact absurd (Heap.lt_size e) (by rw [z]; exact Nat.lt_irrefl _)
  ·exact hb z
 have noex:∀ b:Addr,b∉(Zs (Y3 P w) P w K mg base N qual sc f cd A outer s H E).ex:=fun b z=>absurd (show b∈([]:List Addr) from z) (by simp)
 refine wpAny_leaves_madeW (base:=PySem.W.hideAll s1.heap (Zm (Zs (Y3 P w) P w K mg base N qual sc f cd A outer s H E).stack)) (h:=s1.heap) I.ok.frames rfl (fun b o e=>PySem.W.of_hideAll _ e) (PySem.W.funFrames_hide I.stack hin) hx fun h'' t x1 x2 x3 x4=>?_
 have hF0:s1.heap.FunFrames base outer:=I.funs;have hF1:h'.FunFrames base outer:=hF0.of_keeps fun b o e _=>⟨o,hx.keeps b o e,rfl⟩
 refine ⟨ea,C,_,H1,rfl,I.os,I.bare,⟨⟨_,x1⟩,fun a o e=>?_,fun b o e n hb=>?_,fun b o e hb=>?_,fun b o e hb=>?_,fun b o e n=>I.base.free b o e n (noex b),I.base.tups,I.base.frzs,I.base.tbls⟩,q⟩
 ·have tin:∀ b u,H1 b=some u→∀ o,s1.heap.get? b=some o→(PySem.W.hideAll s1.heap (Zm (Zs (Y3 P w) P w K mg base N qual sc f cd A outer s H E).stack)).get? b=some o:=fun b u hu o ho=>PySem.W.hideAll_get _ ho fun hm=>by
   rw [I.stkFree b hm] at hu; cases hu
  refine (I.hok a o e).stay (fun b u hb hq=>?_) (fun _ z=>z) fun _ _ z=>z
  rcases hb with rfl | hb
  ·exact tin _ _ e u hq
  ·exact tin _ _ hb u hq
 ·exact PySem.W.hideAll_get _ (I.base.keep b o e n hb (noex b)) (notin e hb)
 ·obtain ⟨o',e'⟩:=I.base.there b o e (noex b);exact ⟨o',PySem.W.hideAll_get _ e' (notin e hb)⟩
 ·obtain ⟨sl,e1⟩:=I.base.slot b o e (I.ok.frf b hb) hb (noex b);exact Jiu hF1 x4 (hx.keeps _ _ e1) hb
theorem YC:Jbp (Y3 P w) (Zs (Y3 P w) P w K mg base N qual sc f cd A outer s H E) E:=by
 intro pins σ H1 s1 e s' I hq;obtain ⟨ea,C,B,H2,rfl,os,bare,fl,q⟩:=hq;have hstk:Zm (Zs (Y3 P w) P w K mg base N qual sc f cd A outer s H E).stack=s.heap.objs.size :: Zm outer:=rfl;have sub:∀ {b:Addr},b∈Zm outer→b∈Zm (Zs (Y3 P w) P w K mg base N qual sc f cd A outer s H E).stack:=fun hb=>by rw [hstk]; exact List.mem_cons_of_mem _ hb
 have notin:∀ {b:Addr} {o:Obj},s.heap.get? b=some o→b∉Zm outer→b∉Zm (Zs (Y3 P w) P w K mg base N qual sc f cd A outer s H E).stack:=fun {b o} e hb hm=>by
  rw [hstk] at hm;rcases List.mem_cons.mp hm with z | z
  ·exact absurd (Heap.lt_size e) (by rw [z]; exact Nat.lt_irrefl _)
  ·exact hb z
 have noex:∀ b:Addr,b∉(Zs (Y3 P w) P w K mg base N qual sc f cd A outer s H E).ex:=fun b z=>absurd (show b∈([]:List Addr) from z) (by simp)
 obtain ⟨a0,fly⟩:=fl.fly;refine wpAny_leaves_onW I.ok.frames rfl fly fun h'' x1 x2=>?_
 refine ⟨ea,C,B,H2,rfl,os.trans I.os,bare,⟨⟨_,x1⟩,fl.hok,fun b o e n hb=>?_,fun b o e hb=>?_,fun b o e hb=>?_,fun b o e n=>?_,fun b xs e=>fl.tups b xs (I.base.tups b xs e),fun b o u e=>fl.frzs b o u (I.base.frzs b o u e),fun b ps e=>?_⟩,q⟩
 ·exact fl.keep b o (I.base.keep b o e n hb (noex b)) (I.base.free b o e n (noex b)) (notin e hb)
 ·obtain ⟨o',e'⟩:=I.base.there b o e (noex b);exact fl.there b o' e' (notin e hb)
 ·obtain ⟨sl,e1⟩:=I.base.slot b o e (I.ok.frf b hb) hb (noex b);obtain ⟨sl',e2⟩:=fl.slot b _ e1 (sub hb);exact Jiu fly.2.2.1 x2 e2 (sub hb)
 ·obtain ⟨o',e'⟩:=I.base.there b o e (noex b);exact fl.free b o' e' (I.base.free b o e n (noex b))
 ·obtain ⟨m1,e1⟩:=I.base.tbls b ps e;obtain ⟨m2,e2⟩:=fl.tbls b _ e1;exact ⟨m1 ++ m2,by rw [e2,Array.append_assoc]⟩
theorem Fun.ok1 {x:Str} {st:Stmt} {fd:FuncData} {ps:List Str} {k:Nat} {sp:Sp} (F:Fun K x qual st f fd) (S:Jx N ps (Jo st)) (len:∀ vs H Q E,sp vs H Q E→vs.length=ps.length)
  (hbody:∀ (cdv:Value) (A:Around) (outer:List Env) (s:Shared) (H:Hp) (vs:List V) (Q:VK) (E:XK),YA k (A.deeper (envOfC qual (Jo st) s.heap.objs.size f cdv))→sp vs H Q E →
   ∃ t,PSs (Zs (Y3 P w) P w K mg base N qual (Jo st) f cdv A outer s H E) (Ja8 st) t∧t { nx:=fun _ H'=>Q .non H',rt:=Q } (Ym N vs) H):JN P w K mg base (Y3 P w) (k + 1) f fd ps sp:=by
 obtain ⟨oc,od,kV,doc,pm,an,cdv,ct,osl,rfl,lk,hcd⟩:=F.ex;exact JnQ lk hcd S len fun A outer s H vs Q E hr hsp=>hbody cdv A outer s H vs Q E hr hsp
end
section
variable {X:Cx} {x:Str} {C:Addr} {e:Expr} {te:TE} {np cpos pos:Pos} {E:XK}
def Jik (C:Addr) (E:XK) (te:TE):TS:=fun D σ H=>te σ H fun v H'=>E (.ref C) none H'
theorem Joq {K:PySem.W.Frag} {h:Heap} {bmB:List Value} {newId:String} (X:K.In h) (q:PySem.W.excIn K C bmB newId=true):OwnCls x C bmB newId (fun _=>some (.ref C)) h:=by
 refine ⟨rfl,?_⟩;unfold PySem.W.excIn at q;split at q
 ·rename_i dd cd sl ho;split at q
  ·rename_i C' bm k0 k1 k2 k3 n k5 hm hs;simp only [Bool.and_eq_true,beq_iff_eq,Bool.not_eq_true'] at q;obtain ⟨⟨⟨⟨⟨rfl,rfl⟩,hdel⟩,ht⟩,hok⟩,hni⟩:=q;obtain ⟨nm,bs,mro,ns,qn,hd,sn,sub,ab,col,del⟩:=cd;dsimp only at hm hdel hok hni;subst hm hdel;have hsl:sl=#[k0,k1,k2,k3,some (.builtin n),k5]:=by
    obtain ⟨l⟩:=sl;simp only at hs;rw [hs]
   subst hsl;exact ⟨bm,ns,nm,qn,bs,hd,sn,sub,ab,col,dd,k0,k1,k2,k3,k5,_,X _ _ ho,.of_isNs (PySem.W.isNs_of_in X hok),PySem.W.nsMap_none_of_in X hok hni,PySem.W.tail_of_in X ht⟩
  ·cases q
 ·cases q
theorem JcN (XC:ExC X.K C) (hm:X.mg x=some (.ref C)) (hr:Jmq X E) (he:PE X e te) (hc:X.calm=true:=by rfl) (hg:Gl X x:=by rfl) (hd:(x == ("__debug__" : Str))=false:=by decide)
  (hs:starEach [e] X.env=[(false,eval e X.env)]:=by rfl):PS X (.Raise (some (.Call (.Name x np) [e] [] cpos)) none pos) (Jik C E te):=by
 intro pins s σ H D I h;obtain ⟨tl,N,nm,q,bs,hdct,sn,sub,ab,col,dd,k0,k1,k2,k3,k5,mN,hC,hN,hni,T⟩:=(Joq (x:=x) I.mod.kin XC.ex).obj;refine wpAny_Raise_call_subU (C:=C) (nm:=nm) (q:=q) (N:=N) (bs:=bs) (bm:=tl) (hdct:=hdct) (sn:=sn) (sub:=sub) (ab:=ab) (col:=col) (dd:=dd) (k0:=k0) (k1:=k1) (k2:=k2) (k3:=k3) (k5:=k5) (mN:=mN)
  F.excBase_ValueError F.excBase_ValueError.hasB F.excBase_ValueError (T.hasType F.excBase_ValueError.hasBase) (I.ok.hd hc) (by rw [hs]; rfl) hni (Je3 I hg hm ⟨rfl,?_⟩ hd)
 rw [hs];refine Calls.evalArgs_plain (Calls.spliced_cons (JH (he pins s σ H _ I h) fun u s1 ⟨v,H1,I1,r1,q1⟩=>?_));exact Calls.spliced_nil ⟨rfl,by show 1≤sizeLine; decide,I1.bk _ _ hC,hN.keeps I1.bk,T.keeps I1.bk,fun h' ea hx=>hr pins σ H1 s1 ea C _ h' I1 hx q1⟩
end
theorem Yd.at_ {P:Program} {w:World} {H:Hp} {h:Heap} {a:Addr} {o:HO} (x:Yd P w H h a o):∃ ob,h.get? a=some ob:=by
 cases o with
 | lst xs=>obtain ⟨_,_,_,_,e⟩:=x; exact ⟨_,e⟩
 | tup xs=>obtain ⟨_,_,_,ob,e,_⟩:=x; exact ⟨_,e⟩
 | dK kvs=>obtain ⟨_,_,_,_,o,_,_,e,_⟩:=x; exact ⟨_,e⟩
 | dT kvs=>obtain ⟨_,_,_,_,o,_,_,e,_⟩:=x; exact ⟨_,e⟩
 | set S n=>obtain ⟨o,_,_,_,e,_⟩:=x; exact ⟨_,e⟩
 | ins C dx fs=>obtain ⟨_,_,_,e,_⟩:=x; exact ⟨_,e⟩
 | own y=>obtain ⟨_,e⟩:=x; exact ⟨_,e⟩
 | xd fs=>obtain ⟨_,⟨_,_,_,e,_⟩,_⟩:=x; exact ⟨_,e⟩
 | rng lo hi=>obtain ⟨_,_,_,e⟩:=x; exact ⟨_,e⟩
 | frz ob u=>obtain ⟨e,_⟩:=x; exact ⟨_,e⟩
 | tbl ps=>exact ⟨_,(show h.get? a=some _ from x)⟩
 | met f y=>exact ⟨_,(show h.get? a=some _ from x)⟩
 | ext φ=>obtain ⟨_,⟨_,e⟩,_⟩:=x; exact ⟨_,e⟩
end L2
namespace L2
open PySem PySem.Spec PyProof.Rows
theorem PE.imp {X:Cx} {e:Expr} {t t':TE} (h:PE X e t) (i:∀ σ H Q,t' σ H Q→t σ H Q):PE X e t':=fun pins s σ H Q I q=>h pins s σ H Q I (i _ _ _ q)
theorem PS.imp {X:Cx} {e:Stmt} {t t':TS} (h:PS X e t) (i:∀ D σ H,t' D σ H→t D σ H):PS X e t':=fun pins s σ H D I q=>h pins s σ H D I (i _ _ _ q)
theorem Jgt {sc:Scope} {env:Env} (h:∀ y∈sc.names,y.2=.free→∃ c,env.cells.lookup y.1=some c) :
  ∃ cl,closureFor sc env=pure cl∧(∀ x c,cl.lookup x=some c→env.cells.lookup x=some c)∧∀ y∈sc.names,y.2=.free→∃ c,cl.lookup y.1=some c:=by
 have gen:∀ (names:List (Str×NameKind)) (acc:List (Str×Addr)),(∀ y∈names,y.2=.free→∃ c,env.cells.lookup y.1=some c)→(∀ x c,acc.lookup x=some c→env.cells.lookup x=some c) →
   ∃ cl,(forIn names acc fun x cs=>(do
    if x.2 == NameKind.free then
     let c ← cellOf env x.1
     pure (ForInStep.yield ((x.1,c) :: cs))
    else pure (ForInStep.yield cs)):Sem (List (Str×Addr)))=pure cl∧(∀ x c,cl.lookup x=some c→env.cells.lookup x=some c)∧(∀ x c,acc.lookup x=some c→∃ c,cl.lookup x=some c)∧∀ y∈names,y.2=.free→∃ c,cl.lookup y.1=some c:=by
  intro names
  induction names with
  | nil=>intro acc _ ha; exact ⟨acc,rfl,ha,fun x c e=>⟨c,e⟩,fun y hy=>nomatch hy⟩
  | cons n r ih =>
   intro acc hn ha;obtain ⟨x,k⟩:=n;by_cases hk:k=.free
   ·subst hk;obtain ⟨c,hc⟩:=hn (x,.free) List.mem_cons_self rfl;obtain ⟨cl,e1,e2,e3,e4⟩:=ih ((x,c) :: acc) (fun y hy=>hn y (List.mem_cons_of_mem _ hy)) (fun y d e=>by
     rw [List.lookup_cons] at e;split at e
     ·rename_i q;cases e;rw [beq_iff_eq.mp q];exact hc
     ·exact ha y d e)
    refine ⟨cl,?_,e2,fun y d e=>?_,fun y hy hf=>?_⟩
    ·rw [List.forIn_cons];have z:cellOf env x=pure c:=by unfold cellOf; rw [hc]
     simp only [beq_self_eq_true,if_true,z,pure_bind];exact e1
    ·refine e3 y (if y == x then c else d) ?_;rw [List.lookup_cons];split
     ·rename_i q; simp [q]
     ·rename_i q; simp [q,e]
    ·rcases List.mem_cons.mp hy with rfl | hy
     ·exact e3 x c (by rw [List.lookup_cons]; simp)
     ·exact e4 y hy hf
   ·obtain ⟨cl,e1,e2,e3,e4⟩:=ih acc (fun y hy=>hn y (List.mem_cons_of_mem _ hy)) ha;refine ⟨cl,?_,e2,e3,fun y hy hf=>?_⟩
    ·rw [List.forIn_cons];have z:(k == NameKind.free)=false:=by simpa using hk
     simp only [z,Bool.false_eq_true,if_false,pure_bind];exact e1
    ·rcases List.mem_cons.mp hy with rfl | hy
     ·exact absurd hf hk
     ·exact e4 y hy hf
 obtain ⟨cl,e1,e2,_,e4⟩:=gen sc.names [] h (fun x c e=>by simp at e);refine ⟨cl,?_,e2,e4⟩;unfold closureFor;rw [← bind_pure (pure cl:Sem (List (Str×Addr))),← e1]
def Yy (X:Cx) (Nc:List Str) (sc:Scope) (cl:List (Str×Addr)) (fp:List Addr) (s:Shared) (H:Hp):Cx :=
 { X with N:=Nc,s₀:=s,H₀:=H,env:=compEnvC sc cl s.heap.objs.size X.env,outer:=X.stack,stack:=X.stack,ex:=fp,fn:=fun _=>false,pn:=[],xe:=fun _ _=>False }
def JeH (js:List Nat) (σ:St):St:=js.map fun j=>(σ[j]?).join
def Jfc (N:List Str) (names:List (Str×NameKind)) (nt:Nat) (Nc:List Str) (sc:Scope) (js:List Nat):Bool :=
 decide Nc.Nodup && decide (Nc.length=nt + js.length) && ((Nc.drop nt).zip js).all (fun p=>N[p.2]? == some p.1 && sc.names.lookup p.1 == some NameKind.free && names.lookup p.1 == some NameKind.cell) &&
  sc.names.all (fun y=>(y.2 == NameKind.local && sc.names.lookup y.1 == some NameKind.local) || (y.2 == NameKind.free && names.lookup y.1 == some NameKind.cell) || (y.2 != NameKind.local && y.2 != NameKind.free && y.2 != NameKind.cell)) && sc.kind == .function
def Jdi (σ σ':St):Prop:=σ'.length=σ.length∧∀ (i:Nat) v,σ[i]?=some (some v)→σ'[i]?=some (some v)
theorem Jdi.refl (σ:St):Jdi σ σ:=⟨rfl,fun _ _ e=>e⟩
theorem Jdi.set {σ σ':St} {i:Nat} {x:Option V} (h:Jdi σ σ') (e:σ[i]?=some none):Jdi σ (σ'.set i x):=by
 refine ⟨by rw [List.length_set]; exact h.1,fun j v q=>?_⟩;by_cases hj:j=i
 ·subst hj; rw [e] at q; cases q
 ·rw [List.getElem?_set_ne (Ne.symm hj)]; exact h.2 j v q
def JbV (J:It) (g:TG) (tc:TT) (te:TE) (σc:St) (D:Addr) (H1:Hp) (Q:Hp→Prop):Prop :=
 ∃ W:Nat→Nat→List V→Hp→Prop,(∃ m,W 0 m [] (upd H1 D (.lst [])))∧∀ i m ys H,W i m ys H→H D=some (.lst ys) ∧
  ((J.stop i H∧Q H)∨(J.go i H∧∃ N:List V→Hp→Prop,(∀ zs H',N zs H'→∃ m',m' < m∧W (i + 1) m' zs H')∧∀ x H',J.yld i H x H'→g x σc H' fun σ2 H2=>Jdi σc σ2 ∧
   tc σ2 H2 fun b H3=>if b=true then te σ2 H3 fun v H4=>H4 D=some (.lst ys)∧ys.length < sizeLine∧N (ys ++ [v]) (upd H4 D (.lst (ys ++ [v]))) else N ys H3))
def Jjp (X:Cx) (ifs:List Expr) (tc:TT):Prop:=∀ (pins:List (Addr×Obj)) (s:Shared) (σ:St) (H:Hp) (Q:Bool→Hp→Prop),Jk X pins σ H s→tc σ H Q →
 wpAny (model X.prog X.w) X.A (forIn ifs true fun c r=>if r=true then do let ok ← isTrue c X.env (eval c X.env); pure (ForInStep.yield ok) else pure (ForInStep.yield r)) (TP X pins σ Q) X.xe s
def JcF:TT:=fun _ H Q=>Q true H
theorem Jbv {X:Cx}:Jjp X [] JcF:=fun _ _ _ H _ I q=>wpAny_tests_nil ⟨H,I,q⟩
theorem JgW {X:Cx} {c:Expr} {tc:TT} (h:PT X c tc):Jjp X [c] tc:=fun pins s σ H Q I q=>wpAny_tests_one (h pins s σ H Q I q)
theorem JkR {prog:Program} {w:World} {A:Around} {R:Result→Shared→Prop} {s:Shared} {elt target iter:Expr} {ifs:List Expr} {scope:Scope} {pos:Pos} {it acc:Value} {env:Env} (I:Nat→Shared→Prop)
  (turn:∀ n s,I n s→wpAny (model prog w) A (pyNext it) (fun r s₁=>match r with
   | none=>R (.ok .next) s₁
   | some v=>wpAny (model prog w) A (letOwnedTupleGo target it v) (fun _ s₁'=>wpAny (model prog w) A (assign target env v) (fun _ s₂ =>
     wpAny (model prog w) A (forIn ifs true fun c r=>if r=true then do let ok ← isTrue c env (eval c env); pure (ForInStep.yield ok) else pure (ForInStep.yield r)) (fun ok s₃ =>
      if ok=true then wpAny (model prog w) A (eval elt env) (fun x s₄ =>
       wpAny (model prog w) A (call (.builtin "list.append") [acc,x]) (fun _ s₅=>∃ m,m < n∧I m s₅) (fun _ _=>False) s₄) (fun _ _=>False) s₃
      else ∃ m,m < n∧I m s₃) (fun _ _=>False) s₂) (fun _ _=>False) s₁') (fun _ _=>False) s₁) (fun _ _=>False) s)
  (n:Nat) (h:I n s) :
  codeAny (model prog w) A (.compLoop (.ListComp elt [⟨target,iter,ifs,0⟩] scope pos) 0 it acc env) R s:=by
 refine codeAny_loop rfl I (fun n s hI=>?_) n h;show wpAny _ A ((compTurn (.ListComp elt [⟨target,iter,ifs,0⟩] scope pos) 0 it acc env).onRaise (fun x=>do noteFrame x env; theTreesLotGoes x)) _ _ s;refine wpAny_noted ?_;rw [compTurn_list];refine wpAny_bind (wpAny_standAt (wpAny_bind (wpAny_mono (turn n s hI) (fun r s₁ h₁=>?_) fun _ _ h'=>h'.elim)));cases r with
 | none=>exact wpAny_pure h₁
 | some v =>
  refine wpAny_bind (wpAny_mono h₁ (fun _ s₁' h₁'=>?_) fun _ _ h'=>h'.elim);refine wpAny_bind (wpAny_mono h₁' (fun _ s₂ h₂=>wpAny_bind (wpAny_mono h₂ (fun ok s₃ h₃=>?_) fun _ _ h'=>h'.elim)) fun _ _ h'=>h'.elim);cases ok with
  | false=>exact wpAny_pure ⟨rfl,h₃⟩
  | true =>
   exact wpAny_bind (wpAny_bind (wpAny_mono h₃ (fun x s₄ h₄=>wpAny_bind (wpAny_mono h₄ (fun _ s₅ h₅=>wpAny_pure (wpAny_pure ⟨rfl,h₅⟩)) fun _ _ h'=>h'.elim)) fun _ _ h'=>h'.elim))
theorem JcL {env:Env}:∀ {names:List (Str×NameKind)} {x:Str} {k':NameKind},
  (names.map fun (n,k)=>if (k == NameKind.free && env.scope.kind == .function && env.kindOf n == some .cell) then (n,NameKind.cell) else (n,k)).lookup x=some k'→∃ k,names.lookup x=some k∧(k'=k∨(k=.free∧k'=.cell))
 | [],x,k',h=>by simp at h
 | (n,k) :: r,x,k',h=>by
  rw [List.map_cons] at h;by_cases hx:x=n
  ·subst hx;by_cases hc:(k == NameKind.free && env.scope.kind == .function && env.kindOf x == some .cell)=true
   ·have h:List.lookup x ((if (k == NameKind.free && env.scope.kind == .function && env.kindOf x == some .cell)=true then (x,NameKind.cell) else (x,k)) :: _)=some k':=h;rw [if_pos hc] at h;simp only [Bool.and_eq_true,beq_iff_eq] at hc;exact ⟨k,by simp [List.lookup_cons],.inr ⟨hc.1.1,by simpa [List.lookup_cons] using h.symm⟩⟩
   ·have h:List.lookup x ((if (k == NameKind.free && env.scope.kind == .function && env.kindOf x == some .cell)=true then (x,NameKind.cell) else (x,k)) :: _)=some k':=h;rw [if_neg hc] at h;exact ⟨k,by simp [List.lookup_cons],.inl (by simpa [List.lookup_cons] using h.symm)⟩
  ·have hb:(x == n)=false:=beq_eq_false_iff_ne.mpr hx;have h:List.lookup x ((if (k == NameKind.free && env.scope.kind == .function && env.kindOf n == some .cell)=true then (n,NameKind.cell) else (n,k)) :: _)=some k':=h;have h2:(r.map fun (n,k)=>if (k == NameKind.free && env.scope.kind == .function && env.kindOf n == some .cell) then (n,NameKind.cell) else (n,k)).lookup x=some k':=by
    by_cases hc:(k == NameKind.free && env.scope.kind == .function && env.kindOf n == some .cell)=true
    ·rw [if_pos hc] at h; simpa [List.lookup_cons,hb] using h
    ·rw [if_neg hc] at h; simpa [List.lookup_cons,hb] using h
   obtain ⟨k0,e,z⟩:=JcL h2;exact ⟨k0,by simpa [List.lookup_cons,hb] using e,z⟩
theorem JcM {env:Env}:∀ {names:List (Str×NameKind)} {x:Str},names.lookup x=some .free →
  (names.map fun (n,k)=>if (k == NameKind.free && env.scope.kind == .function && env.kindOf n == some .cell) then (n,NameKind.cell) else (n,k)).lookup x=some .cell∨(names.map fun (n,k)=>if (k == NameKind.free && env.scope.kind == .function && env.kindOf n == some .cell) then (n,NameKind.cell) else (n,k)).lookup x=some .free
 | [],x,h=>by simp at h
 | (n,k) :: r,x,h=>by
  rw [List.map_cons];show List.lookup x ((if (k == NameKind.free && env.scope.kind == .function && env.kindOf n == some .cell)=true then (n,NameKind.cell) else (n,k)) :: _)=_∨List.lookup x ((if (k == NameKind.free && env.scope.kind == .function && env.kindOf n == some .cell)=true then (n,NameKind.cell) else (n,k)) :: _)=_;by_cases hx:x=n
  ·subst hx;have hk:k=.free:=by simpa [List.lookup_cons] using h
   subst hk;split
   ·exact .inl (by simp [List.lookup_cons])
   ·exact .inr (by simp [List.lookup_cons])
  ·have hb:(x == n)=false:=beq_eq_false_iff_ne.mpr hx;have ih:=JcM (env:=env) (names:=r) (x:=x) (by simpa [List.lookup_cons,hb] using h);split
   ·simpa [List.lookup_cons,hb] using ih
   ·simpa [List.lookup_cons,hb] using ih
section
variable {X:Cx} {pins:List (Addr×Obj)} {σ:St} {H2:Hp} {s2:Shared}
theorem Jgs {elt tg iter:Expr} {ifs:List Expr} {sc:Scope} {pos:Pos} {nt:Nat} {Nc:List Str} {js:List Nat} {J:It} {fp:List Addr} {it:Addr} {tn:Nat→Heap→Prop} {g:TG} {tc:TT} {te:TE} {Q:Addr→Hp→Prop} {E:Value→Shared→Prop}
  {N:List Str} {names:List (Str×NameKind)} (hcap:Jfc N names nt Nc sc js=true) (hNX:X.N=N) (hsX:X.env.scope.names=names)
  (hg:∀ (cl:List (Str×Addr)) (fp:List Addr) (s:Shared) (H:Hp),PG (Yy X Nc sc cl fp s H) tg g) (hc:∀ (cl:List (Str×Addr)) (fp:List Addr) (s:Shared) (H:Hp),Jjp (Yy X Nc sc cl fp s H) ifs tc)
  (he:∀ (cl:List (Str×Addr)) (fp:List Addr) (s:Shared) (H:Hp),PE (Yy X Nc sc cl fp s H) elt te) (calm:X.calm=true)
  (I2:Jk X pins σ H2 s2) (T:Jhh X.prog X.w X.K tg J fp it tn) (st2:tn 0 s2.heap) (f2:∀ b∈fp,Jc6 X pins H2 b)
  (hw:∀ D,H2 D=none→JbV J g tc te (List.replicate nt none ++ JeH js σ) D H2 (Q D)) {cl:List (Str×Addr)} (hcl:closureFor sc X.env=pure cl) (hcl1:∀ x c,cl.lookup x=some c→X.env.cells.lookup x=some c) (hcl2:∀ y∈sc.names,y.2=.free→∃ c,cl.lookup y.1=some c) :
  wpAny (model X.prog X.w) X.A (newList []) (fun acc s₃=>wpAny (model X.prog X.w) X.A (newFunctionEnv sc X.env.globals cl [] X.env.qual none .none (some X.env)) (fun cenv s₄ =>
   codeAny (model X.prog X.w) X.A (.compStart (.ListComp elt [⟨tg,iter,ifs,0⟩] sc pos) 0 (.ref it) acc { cenv with scope:=relabel sc X.env }) (fun r s'=>(∃ f,r=.ok f)∧∃ D H',acc=.ref D∧Jk X pins σ H' s'∧(∃ m,s'.heap.Ns cenv.locals m)∧Jc6 X pins H' cenv.locals∧Q D H') s₄) E s₃) E s2:=by
 simp only [Jfc,Bool.and_eq_true,decide_eq_true_eq,List.all_eq_true,beq_iff_eq] at hcap;obtain ⟨⟨⟨⟨nd,hlen⟩,all1⟩,all2⟩,hkind⟩:=hcap;subst hNX hsX;have hcell:∀ y∈sc.names,y.2≠.cell:=fun y hy z=>by
  have q:=all2 y hy;rw [z] at q;simp at q
 refine wpAny_newObj_type (wpAny_newFunctionEnv hcell (by intro y hy; simp at hy) (fun h₁ hns₁ hsb₁=>?_) hkind);have n2:H2 s2.heap.objs.size=none:=I2.hok.fresh (Nat.le_refl _);have I3:Jk X pins σ (upd H2 s2.heap.objs.size (.lst [])) { s2 with heap:=s2.heap.push { cls:=.type "list",data:=.seq ([]:List Value).toArray },toks:=s2.toks } :=
  I2.laid (fun b u e=>Heap.get?_push_of_some _ e) (Nat.le_refl _) ⟨Nat.zero_le _,[],0,.nil,Heap.get?_push_size _ rfl⟩
 obtain ⟨W,⟨m0,w0⟩,step⟩:=hw s2.heap.objs.size n2;generalize eH3:upd H2 s2.heap.objs.size (.lst [])=H3 at I3 w0;generalize es3:({ s2 with heap:=s2.heap.push { cls:=.type "list",data:=.seq ([]:List Value).toArray },toks:=s2.toks }:Shared)=s3 at I3;have e3:s2.heap.push { cls:=.type "list",data:=.seq ([]:List Value).toArray }=s3.heap:=by rw [← es3]
 have old3:∀ b o,s2.heap.get? b=some o→s3.heap.get? b=some o:=fun b o e=>by rw [← e3]; exact Heap.get?_push_of_some _ e
 have old4:∀ b o,s3.heap.get? b=some o→h₁.get? b=some o:=fun b o e=>by
  refine hsb₁.extBut b o ?_ (Heap.get?_push_of_some _ (by rw [← e3] at e; exact e));have:=Heap.lt_size e;rw [← e3] at this;exact Nat.ne_of_lt this
 have eC:(s2.heap.push { cls:=.type "list",data:=.seq ([]:List Value).toArray }).objs.size=s3.heap.objs.size:=by rw [e3]
 have fpold:∀ b∈fp,b < s3.heap.objs.size:=fun b hb=>by
  obtain ⟨o,e,_⟩:=T.obj 0 _ st2 b hb;exact Heap.lt_size (old3 b o e)
 have ok:(Yy X Nc sc cl fp s3 H3).Ok:=⟨I3.mod,hkind,I3.ok.glob,I3.ok.blt,Nat.le_refl _,fun x y c e1 e2=>I3.ok.inj x y c (hcl1 _ _ e1) (hcl1 _ _ e2),fun x hx=>?_,fun x c z=>(by cases z),fun _=>I3.ok.hd calm,I3.ok.frames,.inl rfl,
  fun b hb=>⟨Nat.ne_of_lt (fpold b hb),fun x c e=>(f2 b hb).2.2.2.2.1 x c (hcl1 _ _ e)⟩,I3.bs,Nat.le_trans I3.ok.bsz I3.sz,fun b o e hb=>?_,fun b hb hm=>?_,I3.stack,I3.stkFree⟩
 rotate_left
 ·have hx:(relabel sc X.env).names.lookup x=some .cell∨(relabel sc X.env).names.lookup x=some .free:=hx;have k:sc.names.lookup x=some .free:=by
   rcases hx with hx | hx
   ·obtain ⟨k,e,z⟩:=JcL hx;rcases z with z | z
    ·subst z; exact absurd rfl (hcell _ (PySem.mem_of_lookup e))
    ·rw [z.1] at e; exact e
   ·obtain ⟨k,e,z⟩:=JcL hx;rcases z with z | z
    ·subst z; exact e
    ·cases z.2
  exact hcl2 _ (PySem.mem_of_lookup k) rfl
 ·rcases (f2 b hb).2.2.2.1 with z | z
  ·exact I3.ok.noex b o e z
  ·exact absurd (Nat.lt_of_lt_of_le (Heap.lt_size (I3.ok.bs b o e).1) z) (Nat.lt_irrefl _)
 ·rcases List.mem_cons.mp (I3.stkSub b hm) with z | z
  ·exact (f2 b hb).2.1 z
  ·exact (f2 b hb).2.2.1 z
 have Ic:Jk (Yy X Nc sc cl fp s3 H3) [] (List.replicate nt none ++ JeH js σ) H3 { s3 with heap:=h₁,toks:=s3.toks + ([]:List (Str×Value)).length }:=by
  refine ⟨ok,rfl,I3.bare,Un.kept old4,⟨_,(by have z:=hns₁; rw [eC] at z; exact z),fun i x v e1 e2 e3'=>?_⟩,fun x c e=>?_,I3.hok.fresh (Nat.le_refl _),fun x c e=>I3.freeC x c (hcl1 _ _ e),(fun p hp=>nomatch hp),I3.hok.kept old4,?_⟩
  ·have hi:nt≤i:=by
    refine Nat.le_of_not_lt fun z=>?_
    rw [List.getElem?_append_left (by simpa using z),List.getElem?_replicate] at e2;split at e2 <;> cases e2
   obtain ⟨k,rfl⟩:∃ k,i=nt + k:=⟨i - nt,by omega⟩
   rw [List.getElem?_append_right (by simp),List.length_replicate,Nat.add_sub_cancel_left] at e2;unfold JeH at e2;rw [List.getElem?_map] at e2;cases hj:js[k]? with
   | none=>rw [hj] at e2; cases e2
   | some j =>
    rw [hj] at e2;have e2':(σ[j]?).join=some v:=Option.some.inj e2;have e2'':σ[j]?=some (some v):=by
     cases q:σ[j]? with
     | none=>rw [q] at e2'; cases e2'
     | some o=>rw [q] at e2'; rw [show o=some v from e2']
    have hz:(x,j)∈(Nc.drop nt).zip js:=by
     refine List.mem_of_getElem? (i:=k) ?_;rw [List.getElem?_zip_eq_some];exact ⟨by rw [List.getElem?_drop]; exact e1,hj⟩
    obtain ⟨⟨q1,q2⟩,q3⟩:=all1 _ hz;obtain ⟨m,hn,hl⟩:=I3.loc;obtain ⟨u,r,look⟩:=hl j x v q1 e2'' (Or.inr (Or.inl q3));refine ⟨u,r,.inr ⟨JcM q2,?_⟩⟩;obtain ⟨c',hc'⟩:=hcl2 _ (PySem.mem_of_lookup q2) rfl;rcases look with ⟨z,_⟩ | ⟨_,c,z1,z2⟩
    ·have z:X.env.scope.names.lookup x=some .local:=z;rw [q3] at z; cases z
    ·have z3:=hcl1 _ _ hc';rw [z1] at z3;cases z3;obtain ⟨o,ho,hd⟩:=z2;exact ⟨_,hc',o,old4 _ _ ho,hd⟩
  ·obtain ⟨v,o,ho,hd⟩:=I3.cell x c (hcl1 _ _ e);exact ⟨v,o,old4 _ _ ho,hd⟩
  ·show (List.replicate nt none ++ JeH js σ).length=Nc.length;unfold JeH;rw [List.length_append,List.length_replicate,List.length_map,hlen]
 have fpok:∀ {H:Hp},(∀ b∈fp,H b=none)→∀ b∈fp,Jc6 (Yy X Nc sc cl fp s3 H3) [] H b:=fun hn b hb =>
  ⟨hn b hb,Nat.ne_of_lt (fpold b hb),ok.exfs b hb,.inl hb,fun x c e=>(f2 b hb).2.2.2.2.1 x c (hcl1 _ _ e),(fun p hp=>nomatch hp)⟩
 have fr0:∀ b∈fp,H3 b=none:=fun b hb=>by
  rw [← eH3,Jq (Nat.ne_of_lt (by obtain ⟨o,e,_⟩:=T.obj 0 _ st2 b hb; exact Heap.lt_size e))];exact (f2 b hb).1
 have st4:tn 0 h₁:=T.keep 0 _ _ st2 fun b hb o e=>old4 b o (old3 b o e)
 have back:∀ {σ':St} {H:Hp} {s':Shared} {pn:List (Addr×Obj)},Jk (Yy X Nc sc cl fp s3 H3) pn σ' H s'→Jk X pins σ H s':=fun {σ' H s' pn} Jv =>
  I3.call' (ch:=fp) Jv.os Jv.base Jv.hok Jv.bare fun b hb=>⟨(f2 b hb).2.2.2.1,(f2 b hb).2.1,(f2 b hb).2.2.2.2.1,(f2 b hb).2.2.2.2.2⟩
 have loop:codeAny (model X.prog X.w) X.A (.compLoop (.ListComp elt [⟨tg,iter,ifs,0⟩] sc pos) 0 (.ref it) (.ref s2.heap.objs.size) (compEnvC sc cl s3.heap.objs.size X.env))
   (fun r s'=>(∃ f,r=.ok f)∧∃ D H',(Value.ref s2.heap.objs.size)=.ref D∧Jk X pins σ H' s'∧(∃ m,s'.heap.Ns s3.heap.objs.size m)∧Jc6 X pins H' s3.heap.objs.size∧Q D H') { s3 with heap:=h₁,toks:=s3.toks + ([]:List (Str×Value)).length }:=by
  refine JkR (fun n s'=>∃ i ys H,Jk (Yy X Nc sc cl fp s3 H3) [] (List.replicate nt none ++ JeH js σ) H s'∧tn i s'.heap∧(∀ b∈fp,H b=none)∧W i n ys H) ?_ m0 ⟨0,[],H3,Ic,st4,fr0,w0⟩;rintro n s' ⟨i,ys,H,I,st,fr,w⟩;obtain ⟨hD,⟨stop,qn⟩ | ⟨go,Nx,hNx,stepx⟩⟩:=step i n ys H w
  ·refine JH (T.done (Yy X Nc sc cl fp s3 H3) rfl rfl rfl calm i [] s' _ H _ I (fpok fr) st stop) fun r s1 ⟨hr,I1⟩=>?_
   subst hr;obtain ⟨m,hn,_⟩:=I1.loc;exact ⟨⟨_,rfl⟩,_,H,rfl,back I1,⟨m,hn⟩,I3.fpOk (Nat.le_refl _) I1.free,qn⟩
  ·refine JH (T.item (Yy X Nc sc cl fp s3 H3) rfl rfl rfl calm i [] s' _ H _ I (fpok fr) st go) fun r s1 ⟨u,hr,h4⟩=>?_
   subst hr;refine JH h4 fun _ s5 ⟨x,H5,I5,r5,y5,st5,fr5⟩=>?_
   have I5':=I5.pinned (fpok fr5) (T.obj _ _ st5);refine JH (hg cl fp s3 H3 _ s5 _ H5 x u _ I5' r5 (stepx x H5 y5)) fun _ s6 ⟨σ6,H6,I6,ag,q6⟩=>?_
   have again:∀ {H7:Hp} {s7:Shared} {m':Nat} {zs:List V},Jk (Yy X Nc sc cl fp s3 H3) ([] ++ Jeh fp s5.heap) σ6 H7 s7→m' < n→W (i + 1) m' zs H7→∃ m,m < n∧∃ i ys H,Jk (Yy X Nc sc cl fp s3 H3) [] (List.replicate nt none ++ JeH js σ) H s7∧tn i s7.heap∧(∀ b∈fp,H b=none)∧W i m ys H:=fun {H7 s7 m' zs} I7 hm w7=>by
    refine ⟨m',hm,i + 1,zs,H7,I7.unpinned.weak ag.1.symm ag.2,T.keep _ _ _ st5 fun b hb o e=>(I7.pin (b,o) (List.mem_append_right _ (List.mem_append_right _ (Jcx hb e)))).1,fun b hb=>?_,w7⟩;obtain ⟨o,e,d⟩:=T.obj _ _ st5 b hb;exact (I7.pin (b,o) (List.mem_append_right _ (List.mem_append_right _ (Jcx hb e)))).2.1
   refine JH (hc cl fp s3 H3 _ s6 σ6 H6 _ I6 q6) fun bk s7 ⟨H7,I7,q7⟩=>?_
   cases bk with
   | false =>
    rw [if_neg Bool.false_ne_true] at q7 ⊢;obtain ⟨m',hm,w7⟩:=hNx _ _ q7;exact again I7 hm w7
   | true =>
    rw [if_pos rfl] at q7 ⊢;refine JH (he cl fp s3 H3 _ s7 σ6 H7 _ I7 q7) fun xv s8 ⟨v,H8,I8,r8,hD8,hlen8,qN⟩=>?_
    obtain ⟨m',hm,w8⟩:=hNx _ _ qN;refine JH (YY _ s8 σ6 H8 (.ref s2.heap.objs.size) [v] (.ref s2.heap.objs.size) [xv] (fun _ H9=>H9=upd H8 s2.heap.objs.size (.lst (ys ++ [v]))) I8 rfl (.cons r8 .nil) ?_) fun _ s9 ⟨_,H9,I9,_,e9⟩=>?_
    ·exact ⟨_,_,_,rfl,rfl,hD8,hlen8,rfl⟩
    ·subst e9;exact again I9 hm w8
 rw [eC] at *;exact codeAny_compStart_list loop (T.self _ 0 _ _ _ st4 loop)
def tLC (wi:TI) (g:TG) (tc:TT) (te:TE) (nt:Nat) (js:List Nat):TE:=fun σ H Q=>wi σ H fun J H1=>∀ D,H1 D=none→JbV J g tc te (List.replicate nt none ++ JeH js σ) D H1 fun H'=>Q (.ref D) H'
theorem JhM {N:List Str} {names:List (Str×NameKind)} {nt:Nat} {Nc:List Str} {sc:Scope} {js:List Nat} (h:Jfc N names nt Nc sc js=true):(∀ y∈sc.names,y.2=.local→sc.names.lookup y.1=some .local)∧(∀ y∈sc.names,y.2=.free→names.lookup y.1=some .cell)∧sc.kind=.function:=by
 simp only [Jfc,Bool.and_eq_true,decide_eq_true_eq,List.all_eq_true,beq_iff_eq] at h;obtain ⟨⟨⟨⟨nd,hlen⟩,all1⟩,all2⟩,hkind⟩:=h;refine ⟨fun y hy hl=>?_,fun y hy hl=>?_,hkind⟩
 ·have q:=all2 y hy;rw [hl] at q;simpa using q
 ·have q:=all2 y hy;rw [hl] at q;simpa using q
theorem Jda {elt tg iter:Expr} {ifs:List Expr} {sc:Scope} {pos:Pos} {nt:Nat} {Nc:List Str} {js:List Nat} {wi:TI} {g:TG} {tc:TT} {te:TE} {N:List Str} {names:List (Str×NameKind)}
  (hcap:Jfc N names nt Nc sc js=true) (hi:PI X tg iter wi)
  (hg:∀ (cl:List (Str×Addr)) (fp:List Addr) (s:Shared) (H:Hp),PG (Yy X Nc sc cl fp s H) tg g) (hc:∀ (cl:List (Str×Addr)) (fp:List Addr) (s:Shared) (H:Hp),Jjp (Yy X Nc sc cl fp s H) ifs tc)
  (he:∀ (cl:List (Str×Addr)) (fp:List Addr) (s:Shared) (H:Hp),PE (Yy X Nc sc cl fp s H) elt te) (hNX:X.N=N:=by rfl) (hsX:X.env.scope.names=names:=by rfl) (calm:X.calm=true:=by rfl)
  (hs:∀ x,foldedSetIterable iter X.env x=pure x:=by intro _; rfl):PE X (.ListComp elt [⟨tg,iter,ifs,0⟩] sc pos) (tLC wi g tc te nt js):=by
 intro pins s σ H Q I h;obtain ⟨hn1,hn2,hkind⟩:=JhM hcap;obtain ⟨cl,hcl,hcl1,hcl2⟩:=Jgt (sc:=sc) (env:=X.env) fun y hy hf=>I.ok.has y.1 (.inl (by show X.env.scope.names.lookup y.1=_; rw [hsX]; exact hn2 y hy hf))
 rw [eval_ListComp];refine wpAny_comprehension_free (use:=none) rfl hs hcl hkind hn1 (JH (hi pins s σ H _ I h) fun v s1 h1=>JH h1 fun itv s2 h2=>?_);obtain ⟨it,fp,tn,J,H2,e,I2,T,st2,f2,hw⟩:=h2;subst e;refine wpAny_mono (Jgs (E:=fun _ _=>False) (Q:=fun D H'=>Q (.ref D) H') hcap hNX hsX hg hc he calm I2 T st2 f2 hw hcl hcl1 hcl2) (fun acc s3 h3=>wpAny_mono h3 (fun cenv s4 h4=>codeAny_mono h4 fun r s' hr=>?_) fun _ _ z=>z.elim) fun _ _ z=>z.elim
 obtain ⟨⟨f,rfl⟩,D,H',rfl,Jv,⟨m,hn⟩,fC,q⟩:=hr;obtain ⟨f0,f1,f2',f3,f4,f5⟩:=fC;exact ⟨m,hn,fun h' hs'=>⟨.ref D,H',Jv.turned (t':=s'.toks) (fun b o hb e=>(hs'.2 b hb).trans e) f0 f1 f3 f4 f5,rfl,q⟩⟩
theorem JnM {elt tg iter:Expr} {ifs:List Expr} {sc:Scope} {pos spos py:Pos} {y:Str} {i:Nat} {nt:Nat} {Nc:List Str} {js:List Nat} {wi:TI} {g:TG} {tc:TT} {te:TE} {N:List Str} {names:List (Str×NameKind)}
  (hcap:Jfc N names nt Nc sc js=true) (hN:X.N.Nodup) (hiy:X.N[i]?=some y) (hi:PI X tg iter wi)
  (hg:∀ (cl:List (Str×Addr)) (fp:List Addr) (s:Shared) (H:Hp),PG (Yy X Nc sc cl fp s H) tg g) (hc:∀ (cl:List (Str×Addr)) (fp:List Addr) (s:Shared) (H:Hp),Jjp (Yy X Nc sc cl fp s H) ifs tc)
  (he:∀ (cl:List (Str×Addr)) (fp:List Addr) (s:Shared) (H:Hp),PE (Yy X Nc sc cl fp s H) elt te) (hNX:X.N=N:=by rfl) (hsX:X.env.scope.names=names:=by rfl) (calm:X.calm=true:=by rfl)
  (hsw:swapsWith (.ListComp elt [⟨tg,iter,ifs,0⟩] sc pos) (some (.Name y py)) spos.line X.env=pure true:=by rfl) (hy:X.env.scope.names.lookup y=some .local:=by rfl)
  (hs:∀ x,foldedSetIterable iter X.env x=pure x:=by intro _; rfl):PS X (.Assign [.Name y py] (.ListComp elt [⟨tg,iter,ifs,0⟩] sc pos) spos) (Jmz (tLC wi g tc te nt js) (Jaf i)):=by
 intro pins s σ H D0 I h;obtain ⟨hn1,hn2,hkind⟩:=JhM hcap;obtain ⟨cl,hcl,hcl1,hcl2⟩:=Jgt (sc:=sc) (env:=X.env) fun y hy hf=>I.ok.has y.1 (.inl (by show X.env.scope.names.lookup y.1=_; rw [hsX]; exact hn2 y hy hf))
 rw [exec_Assign_Name_used _ _ _ _ hsw];refine wpAny_bind (wpAny_standAt (wpAny_bind ?_));show wpAny _ X.A (do let _ ← comprehension (.ListComp elt [⟨tg,iter,ifs,0⟩] sc pos) sc X.env _ (newList []) false (eval iter X.env) (some (assign (.Name y py) X.env))) _ _ s;refine wpAny_bind (wpAny_mono (wpAny_comprehension_free (use:=some (assign (.Name y py) X.env)) (Q:=fun _ s'=>SP X pins D0 .next s') rfl hs hcl hkind hn1
  (JH (hi pins s σ H _ I h) fun v s1 h1=>JH h1 fun itv s2 h2=>?_)) (fun _ s' hq=>wpAny_pure (wpAny_pure hq)) fun _ _ e=>e)
 obtain ⟨it,fp,tn,J,H2,e,I2,T,st2,f2,hw⟩:=h2;subst e;refine wpAny_mono (Jgs (E:=fun _ _=>False) (Q:=fun D H'=>Jaf i (.ref D) σ H' D0.nx) hcap hNX hsX hg hc he calm I2 T st2 f2 hw hcl hcl1 hcl2) (fun acc s3 h3=>wpAny_mono h3 (fun cenv s4 h4=>codeAny_mono h4 fun r s' hr=>?_) fun _ _ z=>z.elim) fun _ _ z=>z.elim
 obtain ⟨⟨f,rfl⟩,D,H',rfl,Jv,⟨m,hn⟩,fC,q⟩:=hr;obtain ⟨f0,f1,f2',f3,f4,f5⟩:=fC;show wpAny _ X.A (assign (.Name y py) X.env (.ref D)) _ _ _;refine wpAny_assign_Name (Jhr Jv hN hiy (Or.inl hy) (v:=.ref D) rfl (fun s'' I'' ⟨a,hsame,ha⟩=>?_) (Or.inr hy));refine ⟨m,hn.sameBut hsame ?_,fun h' hs'=>⟨_,H',I''.turned (t':=s''.toks) (fun b o hb e=>(hs'.2 b hb).trans e) f0 f1 f3 f4 f5,q⟩⟩;rcases ha with rfl | ha
 ·exact f1
 ·exact (f4 y a ha).symm
end
section
variable {X:Cx} {Nc:List Str} {sc:Scope} {cl:List (Str×Addr)} {fp:List Addr} {s:Shared} {H:Hp} {x:Str} {pos:Pos}
theorem ZW (i:Nat) (hN:Nc[i]?=some x:=by rfl) (hf:sc.names.lookup x=some .free:=by rfl) (hd:(x == ("__debug__" : Str))=false:=by decide) (hcd:(x == ("__classdict__" : Str))=false:=by decide):PE (Yy X Nc sc cl fp s H) (.Name x pos) (Jkf i) :=
 JiI hN (Or.inr (JcM hf)) hd hcd
theorem ZA (i:Nat) (hN:Nc[i]?=some x:=by rfl) (hl:sc.names.lookup x=some .local:=by rfl) (hd:(x == ("__debug__" : Str))=false:=by decide) (hcd:(x == ("__classdict__" : Str))=false:=by decide):PE (Yy X Nc sc cl fp s H) (.Name x pos) (Jkf i) :=
 JiI hN (Or.inl (lookup_relabel_local hl)) hd hcd
theorem ZV (i:Nat) (nd:Nc.Nodup) (hN:Nc[i]?=some x:=by rfl) (hl:sc.names.lookup x=some .local:=by rfl):PG (Yy X Nc sc cl fp s H) (.Name x pos) (Jaf i) :=
 JV nd hN (Or.inl (lookup_relabel_local hl)) (Or.inr (lookup_relabel_local hl))
end
section
variable {tc:TT} {te:TE} {σc:St} {D:Addr} {H1:Hp} {Q:Hp→Prop}
theorem Jfb {J:It} {n:Nat} {X1:Nat→V→Prop} (Pv:Nat→List V→Hp→Prop) (h00:σc[0]?=some none) (hgo:∀ i H,i < n→(∃ ys,Pv i ys H)→J.go i H∧∀ x H',J.yld i H x H'→H'=H∧X1 i x) (hstop:∀ H,(∃ ys,Pv n ys H)→J.stop n H)
  (h0:Pv 0 [] (upd H1 D (.lst []))) (hl:∀ i ys H,Pv i ys H→H D=some (.lst ys))
  (hs:∀ i x ys H,i < n→X1 i x→Pv i ys H→tc (σc.set 0 (some x)) H fun b H3=>if b=true then te (σc.set 0 (some x)) H3 fun v H4=>H4 D=some (.lst ys)∧ys.length < sizeLine∧Pv (i + 1) (ys ++ [v]) (upd H4 D (.lst (ys ++ [v]))) else Pv (i + 1) ys H3)
  (hd:∀ ys H,Pv n ys H→Q H):JbV J (Jaf 0) tc te σc D H1 Q:=by
 refine ⟨fun i m ys H=>m=n - i∧i≤n∧Pv i ys H,⟨n,by simp,Nat.zero_le _,h0⟩,?_⟩;rintro i m ys H ⟨rfl,hi,p⟩;refine ⟨hl _ _ _ p,?_⟩;by_cases hlt:i < n
 ·obtain ⟨g1,g2⟩:=hgo i H hlt ⟨_,p⟩;refine .inr ⟨g1,Pv (i + 1),fun zs H' p'=>⟨n - (i + 1),by omega,rfl,hlt,p'⟩,fun x H' y=>?_⟩;obtain ⟨e,y1⟩:=g2 x H' y;subst e;exact ⟨(Jdi.refl _).set h00,hs i x ys _ hlt y1 p⟩
 ·have e:i=n:=by omega
  subst e;exact .inl ⟨hstop H ⟨_,p⟩,hd _ _ p⟩
theorem Jmb {K:PySem.W.Frag} {a:Addr} {xs:List V} (Pv:Nat→List V→Hp→Prop) (h00:σc[0]?=some none) (hq:∀ i ys H,Pv i ys H→Js K H a xs) (h0:Pv 0 [] (upd H1 D (.lst []))) (hl:∀ i ys H,Pv i ys H→H D=some (.lst ys))
  (hs:∀ i x ys H,xs[i]?=some x→Pv i ys H→tc (σc.set 0 (some x)) H fun b H3=>if b=true then te (σc.set 0 (some x)) H3 fun v H4=>H4 D=some (.lst ys)∧ys.length < sizeLine∧Pv (i + 1) (ys ++ [v]) (upd H4 D (.lst (ys ++ [v]))) else Pv (i + 1) ys H3)
  (hd:∀ ys H,Pv xs.length ys H→Q H):JbV (Itl K a) (Jaf 0) tc te σc D H1 Q :=
 Jfb (n:=xs.length) (X1:=fun i x=>xs[i]?=some x) Pv h00 (fun i H hi ⟨ys,p⟩=>⟨⟨xs,xs[i],hq _ _ _ p,by simp [hi]⟩,fun x H' y=>⟨y.1,y.2 xs (hq _ _ _ p)⟩⟩) (fun H ⟨ys,p⟩=>⟨xs,hq _ _ _ p,Nat.le_refl _⟩) h0 hl (fun i x ys H _ hx p=>hs i x ys H hx p) hd
theorem JkS {lo:Int} {n:Nat} (Pv:Nat→List V→Hp→Prop) (h00:σc[0]?=some none) (h0:Pv 0 [] (upd H1 D (.lst []))) (hl:∀ i ys H,Pv i ys H→H D=some (.lst ys))
  (hs:∀ i ys H,i < n→Pv i ys H→tc (σc.set 0 (some (.int (lo + i)))) H fun b H3=>if b=true then te (σc.set 0 (some (.int (lo + i)))) H3 fun v H4=>H4 D=some (.lst ys)∧ys.length < sizeLine∧Pv (i + 1) (ys ++ [v]) (upd H4 D (.lst (ys ++ [v]))) else Pv (i + 1) ys H3)
  (hd:∀ ys H,Pv n ys H→Q H):JbV (Itr lo n) (Jaf 0) tc te σc D H1 Q :=
 Jfb (n:=n) (X1:=fun i x=>x=.int (lo + i)) Pv h00 (fun i H hi _=>⟨hi,fun x H' y=>y⟩) (fun H _=>Nat.le_refl _) h0 hl (fun i x ys H hi hx p=>by subst hx; exact hs i ys H hi p) hd
end
end L2
namespace L2
open PySem PySem.Spec PyProof.Rows
section
variable {X:Cx} {e v1 v2:Expr} {es:List Expr} {te:TE} {pos:Pos}
def JoR (te:TE):TE:=fun σ H Q=>te σ H fun v H1=>∃ z,v=.str z∧(reprText z).length≤sizeLine∧Q (.str (reprText z)) H1
theorem JiJ (he:PE X e te):PE X (.FormattedValue e 114 none pos) (JoR te):=by
 intro pins s σ H Q I h;refine wpAny_FormattedValue_repr (JH (he pins s σ H _ I h) fun v s1 ⟨x,H1,I1,r1,z,ez,hz,q⟩=>?_);subst ez;obtain ⟨t,rfl⟩:=r1;refine pyReprObj_str (PyProof.Rows.formatField_str (fun t' tk=>?_) hz) hz;exact ⟨.str (reprText z),H1,(I1.tok _).tok _,⟨_,rfl⟩,q⟩
def Jkg (te:TE):TE:=fun σ H Q=>te σ H fun v H1=>∃ i:Int,v=.int i∧i.natAbs.log2 < 1920∧Q (.str (toString i)) H1
theorem JjS (he:PE X e te):PE X (.FormattedValue e (-1) none pos) (Jkg te):=by
 intro pins s σ H Q I h;refine PyProof.Rows.FormattedValue_plain (JH (he pins s σ H _ I h) fun v s1 ⟨x,H1,I1,r1,i,ei,hi,q⟩=>?_);subst ei;obtain ⟨t,rfl⟩:=r1;exact PyProof.Rows.formatField_int_small hi ⟨.str (toString i),H1,I1.tok _,⟨_,rfl⟩,q⟩
def Jf4:List TE→Str→TE
 | [],acc=>fun _ H Q=>acc.length≤sizeLine∧Q (.str acc) H
 | t :: r,acc=>fun σ H Q=>t σ H fun v H1=>∃ y,v=.str y∧(acc ++ y).length≤sizeLine∧Jf4 r (acc ++ y) σ H1 Q
inductive PJ (X:Cx):List Expr→List TE→Prop
 | nil:PJ X [] []
 | cons {e:Expr} {t:TE} {es:List Expr} {ts:List TE}:PE X e t→PJ X es ts→PJ X (e :: es) (t :: ts)
theorem Ji1 {pins:List (Addr×Obj)} {σ:St} {Q:VK}:∀ {es:List Expr} {ts:List TE} {acc:Str} {s:Shared} {H:Hp},PJ X es ts→Jk X pins σ H s→Jf4 ts acc σ H Q →
  Joins (model X.prog X.w) X.A X.xe (es.map fun e=>eval e X.env) acc (fun out s₁=>out.length≤sizeLine∧EP X pins σ Q (.str out s₁.toks) { s₁ with toks:=s₁.toks + 1 }) s
 | _,_,acc,s,H,.nil,I,h=>⟨h.1,.str acc,H,I.tok _,⟨_,rfl⟩,h.2⟩
 | _,_,acc,s,H,.cons p r,I,h=>by
  refine JH (p pins s σ H _ I h) fun v s1 ⟨x,H1,I1,r1,y,ey,hy,q⟩=>?_
  subst ey;obtain ⟨t,rfl⟩:=r1;exact ⟨y,t,rfl,hy,Ji1 r I1 q⟩
theorem Je1 {ts:List TE} (h:PJ X (v1 :: v2 :: es) ts) (he:evalEach (v1 :: v2 :: es) X.env=(v1 :: v2 :: es).map fun e=>eval e X.env:=by rfl):PE X (.JoinedStr (v1 :: v2 :: es) pos) (Jf4 ts Str.empty):=by
 intro pins s σ H Q I hq;refine wpAny_JoinedStr ?_;rw [he];exact Ji1 h I hq
end
section
variable {X:Cx}
theorem Jhw:ZP X (compareOp .LtE) (fun x y H Q=>∃ i j,x=.str i∧y=.str j∧Q (.bl (!decide (j.cps.toList < i.cps.toList))) H):=by
 intro pins s σ H x y v u Q I rx ry h;obtain ⟨i,j,rfl,rfl,q⟩:=h;obtain ⟨t,rfl⟩:=rx;obtain ⟨t',rfl⟩:=ry;exact PySem.P.le_str ⟨.bl _,H,I,rfl,q⟩
theorem JgI:∀ {ys:List Str} {us:List Value},Jz (ys.map V.str) us→StrsAre us ys
 | [],_,r=>by cases r; exact .nil
 | y :: ys,_,r=>by
  cases r with
  | cons r rr =>
   obtain ⟨t,rfl⟩:=r;exact .cons y t (JgI rr)
theorem Jox:MtR X "str.join" (fun x xs H Q=>∃ z l ys,x=.str z∧xs=[.ref l]∧Js X.K H l (ys.map V.str)∧(ys.map (·.length)).sum + ys.length * z.length≤16777216∧Q (.str (Txt.join z ys)) H):=by
 intro pins s σ H x xs v us Q I rx rs h;obtain ⟨z,l,ys,rfl,rfl,hl,hz,q⟩:=h;obtain ⟨t,rfl⟩:=rx;obtain ⟨u,rfl,ru⟩:=Jz.one rs;cases ru;obtain ⟨its,r,pl,_⟩:=I.list hl;exact PyProof.Rows.join_list pl.isList (by simpa using JgI r) hz fun t' k=>⟨.str (Txt.join z ys),H,I.tok _,⟨_,rfl⟩,q⟩
end
def Its (z:Str):It:=⟨fun i _=>i < z.length,fun i H x H'=>H'=H∧∃ c,z.cps[i]?=some c∧x=.str ⟨#[c]⟩,fun i _=>z.length≤i⟩
theorem Jii {P:Program} {w:World} {K:PySem.W.Frag} {tg:Expr} (it:Addr) (z:Str) (t:Tok) (ty:String) (hty:ty = "str_ascii_iterator"∨ty = "str_iterator") (W:∀ A':Around,A'.handled=none→Walks P w A' it [it] [it] z.cps.size (SignAt z) (fun i h=>h.IsStrIter it ty z t i)) :
  Jhh P w K tg (Its z) [it] it (fun i h=>i≤z.cps.size∧h.IsStrIter it ty z t i) where
 mem:=by simp
 obj:=fun i h st b hb=>by
  have e:b=it:=by simpa using hb
  subst e;obtain ⟨_,o,e,c,d⟩:=st;exact ⟨o,e,fun v z=>by rw [d] at z; cases z⟩
 keep:=fun i h h' st k=>let ⟨hi,o,e,r⟩:=st; ⟨hi,o,k it (by simp) o e,r⟩
 item:=by
  intro X hP hw hK hc i pins s σ H E I hf st hg;subst hP hw hK;obtain ⟨f0,f1,f2,f3,f4,f5⟩:=hf it (by simp);have hi:i < z.cps.size:=hg;refine (W X.A (I.ok.hd hc)).item i s _ _ hi st.2 fun v h' tk hv st' kk=>?_
  obtain ⟨c,u,hc',rfl⟩:=hv;have I1:Jk X pins σ H { s with heap:=h',toks:=tk }:=I.turned (fun b o hb e=>kk b o (by simpa using hb) e) f0 f1 f3 f4 f5;obtain ⟨o,e,hcl,d⟩:=id st';exact ⟨_,rfl,Jib (s:={ s with heap:=h',toks:=tk }) (n:=ty) e hcl d (by rcases hty with rfl | rfl <;> decide) ⟨.str ⟨#[c]⟩,H,I1,⟨u,rfl⟩,⟨rfl,c,hc',rfl⟩,⟨hi,st'⟩,fun b hb=>(hf b hb).1⟩⟩
 done:=by
  intro X hP hw hK hc i pins s σ H E I hf st hg;subst hP hw hK;obtain ⟨f0,f1,f2,f3,f4,f5⟩:=hf it (by simp);have hi:z.cps.size≤i:=hg;obtain rfl:i=z.cps.size:=Nat.le_antisymm st.1 hi;exact (W X.A (I.ok.hd hc)).done s _ _ st.2 fun h' tk kk=>⟨rfl,I.turned (fun b o hb e=>kk b o (by simpa using hb) e) f0 f1 f3 f4 f5⟩
 self:=fun A i s Q E st h=>by
  rcases hty with rfl | rfl
  ·exact wpAny_pyIter_striter_ascii st.2 h
  ·exact wpAny_pyIter_striter_wide st.2 h
section
variable {X:Cx} {tg:Expr}
def JqL (tl:TE):TI:=fun σ H R=>tl σ H fun x H1=>∃ z,x=.str z∧R (Its z) H1
theorem Jpe {l:Expr} {tl:TE} (hl:PE X l tl):PI X tg l (JqL tl):=by
 intro pins s σ H R I h;refine JH (hl pins s σ H _ I h) fun v s1 ⟨x,H1,I1,r1,z,ez,q⟩=>?_
 subst ez;obtain ⟨t,rfl⟩:=r1;have fp:∀ b∈[s1.heap.objs.size],Jc6 X pins H1 b:=fun b hb=>by
  have e:b=s1.heap.objs.size:=by simpa using hb
  subst e;exact I1.fpOk (Nat.le_refl _) (I1.hok.fresh (Nat.le_refl _))
 cases ha:z.cps.all (· < 128)
 ·refine wpAny_pyIter_wide ha ?_;exact ⟨s1.heap.objs.size,[s1.heap.objs.size],_,_,H1,rfl,I1.kept (t':=s1.toks) fun b o e=>Heap.get?_push_of_some _ e,Jii _ z t "str_iterator" (.inr rfl) (fun A' hA=>Walks.strWide hA _ z t),⟨Nat.zero_le _,_,Heap.get?_push_size _ rfl,rfl,rfl⟩,fp,q⟩
 ·refine wpAny_pyIter_ascii ha ?_;exact ⟨s1.heap.objs.size,[s1.heap.objs.size],_,_,H1,rfl,I1.kept (t':=s1.toks) fun b o e=>Heap.get?_push_of_some _ e,Jii _ z t "str_ascii_iterator" (.inl rfl) (fun A' hA=>Walks.strAscii hA _ z t),⟨Nat.zero_le _,_,Heap.get?_push_size _ rfl,rfl,rfl⟩,fp,q⟩
end
section
variable {X:Cx}
theorem Jn0 {bs:List Bool}:∀ {us:List Value},Jz (bs.map V.bl) us→us=bs.map Value.bool:=by
 induction bs with
 | nil=>intro us r; cases r; rfl
 | cons b bs ih =>
  intro us r;cases r with
  | cons r rr =>
   cases (show _=Value.bool b from r);rw [ih rr]; rfl
theorem Jnt (hc:X.calm=true):Y9 X (.builtin "all") (fun xs H Q=>∃ (l:Addr) (bs:List Bool),xs=[.ref l]∧Js X.K H l (bs.map V.bl)∧Q (.bl (bs.all id)) H):=by
 intro pins s σ H xs us Q I r h;obtain ⟨l,bs,rfl,hl,q⟩:=h;obtain ⟨u,rfl,ru⟩:=Jz.one r;cases ru;obtain ⟨its,rv,pl,hz⟩:=I.list hl;have e:=Jn0 rv;subst e;refine call_all_walk (wpAny_pyIter_list pl.isList ?_);have hlt:l < s.heap.objs.size:=by obtain ⟨o,n,e,_⟩:=pl; exact Heap.lt_size e
 refine ⟨_,_,_,_,_,_,fun i=>(bs[i]?).getD true,rfl,Walks.list (A:=X.A.in1) (I.ok.hd hc) s.heap.objs.size l (Nat.ne_of_lt hlt) (bs.map Value.bool).toArray,?_,?_,fun h' tk kk=>?_⟩
 ·exact ⟨⟨_,Heap.get?_push_size _ rfl,rfl,rfl⟩,(by obtain ⟨o,n,e,c,d1,d2⟩:=pl; exact ⟨o,Heap.get?_push_of_some _ e,c,n,d2⟩)⟩
 ·intro i v s' Q' E' hP hQ;have hP:(bs.map Value.bool).toArray[i]?=some v:=hP;rw [List.getElem?_toArray,List.getElem?_map] at hP;cases hb:bs[i]? with
  | none=>rw [hb] at hP; cases hP
  | some b =>
   rw [hb] at hP;cases hP;have hQ:Q' ((bs[i]?).getD true) s':=hQ;rw [hb] at hQ;exact wpAny_truthy_bool hQ
 ·have e:(List.range (bs.map Value.bool).toArray.size).all (fun i=>(bs[i]?).getD true)=bs.all id:=by
   rw [List.size_toArray,List.length_map,Bool.eq_iff_iff,List.all_eq_true,List.all_eq_true];constructor
   ·intro h b hb;obtain ⟨i,hi,rfl⟩:=List.mem_iff_getElem.mp hb;have z:=h i (List.mem_range.mpr hi);rw [List.getElem?_eq_getElem hi] at z;exact z
   ·intro h i hi;have hi':=List.mem_range.mp hi;rw [List.getElem?_eq_getElem hi'];exact h _ (List.getElem_mem hi')
  rw [e];exact ⟨.bl _,H,I.kept fun b o e=>kk b o (fun z=>absurd (Heap.lt_size e) (by rw [List.mem_singleton.mp z]; exact Nat.lt_irrefl _)) (Heap.get?_push_of_some _ e),rfl,q⟩
end
end L2
namespace L2
open PySem PySem.Spec PyProof.Rows
def tm (n:Nat) (z:Str):Prop:=z.length≤n∧∀ c∈z.cps.toList,c < 16 ^ 8
theorem tm.mono {n m:Nat} {z:Str} (h:tm n z) (l:n≤m):tm m z:=⟨Nat.le_trans h.1 l,h.2⟩
theorem Joz {xs:List V} {lo hi:Option Int} {x:V} (h:x∈JaT xs lo hi):x∈xs:=List.mem_of_mem_drop (List.mem_of_mem_take h)
end L2
namespace L2
open PySem PySem.Spec PyProof.Rows
section
variable {te:TE} {σc:St} {D:Addr} {H1:Hp} {Q:Hp→Prop}
theorem JeG {J:It} {n:Nat} {X1:Nat→V→Prop} (F:Nat→V→Prop) (h00:σc[0]?=some none) (hgo:∀ i H,i < n→Jf H1 H→J.go i H∧∀ x H',J.yld i H x H'→H'=H∧X1 i x) (hstop:∀ H,Jf H1 H→J.stop n H)
  (hD:H1 D=none) (hlen:n≤sizeLine) (he:∀ i x H,i < n→X1 i x→Jf H1 H→∀ Q':VK,(∀ v,F i v→Q' v H)→te (σc.set 0 (some x)) H Q')
  (hd:∀ ys H,Jf H1 H→H D=some (.lst ys)→ys.length=n→(∀ i v,ys[i]?=some v→F i v)→Q H):JbV J (Jaf 0) JcF te σc D H1 Q:=by
 refine Jfb (n:=n) (X1:=X1) (fun i ys H=>Jf H1 H∧H D=some (.lst ys)∧ys.length=i∧∀ j v,ys[j]?=some v→F j v) h00 (fun i H hi ⟨ys,p⟩=>hgo i H hi p.1) (fun H ⟨ys,p⟩=>hstop H p.1)
  ⟨Jf.upd hD,Jh,rfl,fun j v e=>by simp at e⟩ (fun i ys H p=>p.2.1) (fun i x ys H hi hx p=>?_) (fun ys H p=>hd ys H p.1 p.2.1 p.2.2.1 p.2.2.2)
 obtain ⟨e,hy,hl,hf⟩:=p;simp only [JcF,if_true];refine he i x H hi hx e _ fun v hv=>⟨hy,by omega,fun b u q=>?_,Jh,by simp [hl],fun j u q=>?_⟩
 ·rw [Jq (JB q hD)];exact e b u q
 ·by_cases hj:j < ys.length
  ·rw [List.getElem?_append_left hj] at q;exact hf j u q
  ·rw [List.getElem?_append_right (by omega)] at q;have hj2:j - ys.length < 1:=(List.getElem?_eq_some_iff.mp q).1;have e1:j=i:=by omega
   have e2:j - ys.length=0:=by omega
   rw [e2] at q;cases q;rw [e1];exact hv
theorem JhL {K:PySem.W.Frag} {a:Addr} {xs:List V} (F:Nat→V→Prop) (h00:σc[0]?=some none) (hS:Js K H1 a xs) (hD:H1 D=none) (hlen:xs.length≤sizeLine)
  (he:∀ i x H,xs[i]?=some x→Jf H1 H→∀ Q':VK,(∀ v,F i v→Q' v H)→te (σc.set 0 (some x)) H Q')
  (hd:∀ ys H,Jf H1 H→H D=some (.lst ys)→ys.length=xs.length→(∀ i v,ys[i]?=some v→F i v)→Q H):JbV (Itl K a) (Jaf 0) JcF te σc D H1 Q :=
 JeG (n:=xs.length) (X1:=fun i x=>xs[i]?=some x) F h00 (fun i H hi e=>⟨⟨xs,xs[i],e.seq hS,by simp [hi]⟩,fun x H' y=>⟨y.1,y.2 xs (e.seq hS)⟩⟩) (fun H e=>⟨xs,e.seq hS,Nat.le_refl _⟩) hD hlen (fun i x H _ hx e=>he i x H hx e) hd
theorem Jh7 {z:Str} (F:Nat→V→Prop) (h00:σc[0]?=some none) (hD:H1 D=none) (hlen:z.length≤sizeLine)
  (he:∀ i c H,z.cps[i]?=some c→Jf H1 H→∀ Q':VK,(∀ v,F i v→Q' v H)→te (σc.set 0 (some (.str ⟨#[c]⟩))) H Q')
  (hd:∀ ys H,Jf H1 H→H D=some (.lst ys)→ys.length=z.length→(∀ i v,ys[i]?=some v→F i v)→Q H):JbV (Its z) (Jaf 0) JcF te σc D H1 Q :=
 JeG (n:=z.length) (X1:=fun i x=>∃ c,z.cps[i]?=some c∧x=.str ⟨#[c]⟩) F h00 (fun i H hi _=>⟨hi,fun x H' y=>y⟩) (fun H _=>Nat.le_refl _) hD hlen (fun i x H hi hx e=>by obtain ⟨c,hc,rfl⟩:=hx; exact he i c H hc e) hd
end
end L2
namespace HS
open PySem PySem.SetTable
def adv (m:Nat) (p:Probe):Probe :=
 if p.more > 0 then ⟨p.j + 1,p.more - 1,p.i,p.perturb,p.dummy⟩
 else ⟨(leap m p.i p.perturb).1,runEnd m (leap m p.i p.perturb).1 - (leap m p.i p.perturb).1,(leap m p.i p.perturb).1,(leap m p.i p.perturb).2,p.dummy⟩
theorem Jgx (t:SetTable) (p:Probe):t.advance p=adv t.mask p:=by
 unfold SetTable.advance adv;split <;> rfl
def st (m i q:Nat):Probe:=⟨i,runEnd m i - i,i,q,none⟩
def Ym (m:Nat) (h:Int):Probe:=st m (bits h % (m + 1)) (bits h)
def J8 (m:Nat):Nat→Probe→Probe
 | 0,p=>p
 | k + 1,p=>J8 m k (adv m p)
theorem JcC (m:Nat):∀ a b p,J8 m (a + b) p=J8 m b (J8 m a p)
 | 0,b,p=>by rw [Nat.zero_add]; rfl
 | a + 1,b,p=>by
  have e:a + 1 + b=(a + b) + 1:=by omega
  rw [e];exact JcC m a b (adv m p)
theorem Jeu (m:Nat):∀ k p,(J8 m k p).dummy=p.dummy
 | 0,_=>rfl
 | k + 1,p=>by
  show (J8 m k (adv m p)).dummy=p.dummy;rw [Jeu m k];unfold adv;split <;> rfl
theorem JcB {m i q:Nat}:∀ {d:Nat},d≤runEnd m i - i→J8 m d (st m i q)=⟨i + d,runEnd m i - i - d,i,q,none⟩
 | 0,_=>rfl
 | d + 1,h=>by
  rw [JcC m d 1,JcB (d:=d) (by omega)];show adv m _=_;unfold adv;rw [if_pos (by show runEnd m i - i - d > 0; omega)];show Probe.mk _ _ _ _ _=_;congr 1
theorem Ji2 {m i q:Nat}:J8 m (runEnd m i - i + 1) (st m i q)=st m (leap m i q).1 (leap m i q).2:=by
 rw [JcC m _ 1,JcB (Nat.le_refl _)];show adv m _=_;unfold adv;rw [if_neg (by show ¬ runEnd m i - i - (runEnd m i - i) > 0; omega)];rfl
theorem JjK (m i:Nat):runEnd m i - i≤9:=by unfold runEnd; split <;> omega
theorem Jlo {m i:Nat} (h:i≤m):runEnd m i≤m:=by unfold runEnd; split <;> omega
theorem Jg1 (m i q:Nat):(leap m i q).1≤m:=Nat.le_of_lt_succ (Nat.mod_lt _ (Nat.succ_pos _))
def Zq (m:Nat):Nat→Nat×Nat→Nat×Nat
 | 0,x=>x
 | L + 1,x=>Zq m L (leap m x.1 x.2)
theorem JcK (m:Nat):∀ a b x,Zq m (a + b) x=Zq m b (Zq m a x)
 | 0,b,x=>by rw [Nat.zero_add]; rfl
 | a + 1,b,x=>by
  have e:a + 1 + b=(a + b) + 1:=by omega
  rw [e];exact JcK m a b _
theorem Jmn (m:Nat):∀ L i q,∃ k,k≤10 * L∧J8 m k (st m i q)=st m (Zq m L (i,q)).1 (Zq m L (i,q)).2
 | 0,i,q=>⟨0,Nat.le_refl _,rfl⟩
 | L + 1,i,q=>by
  obtain ⟨k,hk,e⟩:=Jmn m L (leap m i q).1 (leap m i q).2;have r:=JjK m i;refine ⟨runEnd m i - i + 1 + k,by omega,?_⟩;rw [JcC,Ji2,e];rfl
theorem JiB (m:Nat):∀ L i q,(Zq m L (i,q)).2=q / 32 ^ L
 | 0,i,q=>by simp [Zq]
 | L + 1,i,q=>by
  show (Zq m L ((leap m i q).1,(leap m i q).2)).2=_;rw [JiB m L];show q / 32 / 32 ^ L=_;rw [Nat.div_div_eq_div_mul,Nat.pow_succ,Nat.mul_comm]
theorem JjJ (m:Nat):∀ L i q,i≤m→(Zq m L (i,q)).1≤m
 | 0,i,q,h=>h
 | L + 1,i,q,h=>JjJ m L _ _ (Jg1 m i q)
def Jkv (m:Nat):Nat→Nat→List Nat
 | 0,i=>[i]
 | L + 1,i=>i :: Jkv m L ((i * 5 + 1) % (m + 1))
theorem Jej (m:Nat):∀ n i j,j∈Jkv m n i→∃ L,L≤n∧(Zq m L (i,0)).1=j
 | 0,i,j,h=>⟨0,Nat.le_refl _,(List.mem_singleton.mp h).symm⟩
 | n + 1,i,j,h=>by
  rcases List.mem_cons.mp h with rfl | h
  ·exact ⟨0,Nat.zero_le _,rfl⟩
  ·obtain ⟨L,hL,e⟩:=Jej m n _ j h;refine ⟨L + 1,by omega,?_⟩;show (Zq m L (leap m i 0)).1=j;have e2:leap m i 0=((i * 5 + 1) % (m + 1),0):=by unfold leap; simp
   rw [e2];exact e
def Msk (m:Nat):Prop:=m=7∨m=31∨m=127
def JnV (m:Nat):Bool:=((List.range (m + 1)).all fun j=>(Jkv m m 0).contains j) && decide (Zq m (m + 1) (0,0)=(0,0))
theorem Jnx {m:Nat} (h:Msk m):JnV m=true:=by
 rcases h with rfl | rfl | rfl <;> decide +kernel
theorem Jo8 (m:Nat) (L i:Nat):Zq m L (i,0)=((Zq m L (i,0)).1,0):=Prod.ext rfl (by rw [JiB]; exact Nat.zero_div _)
theorem Jly {m i j:Nat} (h:Msk m) (hi:i≤m) (hj:j≤m):∃ L,L≤m∧(Zq m L (i,0)).1=j:=by
 have z:=Jnx h;unfold JnV at z;rw [Bool.and_eq_true] at z;obtain ⟨z1,z2⟩:=z;have per:Zq m (m + 1) (0,0)=(0,0):=of_decide_eq_true z2;obtain ⟨a,ha,ea⟩:=Jej m m 0 i (List.contains_iff_mem.mp (List.all_eq_true.mp z1 i (List.mem_range.mpr (by omega))));obtain ⟨b,hb,eb⟩:=Jej m m 0 j (List.contains_iff_mem.mp (List.all_eq_true.mp z1 j (List.mem_range.mpr (by omega))));have ei:Zq m a (0,0)=(i,0):=by rw [Jo8,ea]
 by_cases hab:a≤b
 ·refine ⟨b - a,by omega,?_⟩;rw [← ei,← JcK,show a + (b - a)=b by omega];exact eb
 ·refine ⟨m + 1 - a + b,by omega,?_⟩;rw [← ei,← JcK,show a + (m + 1 - a + b)=(m + 1) + b by omega,JcK,per];exact eb
theorem Jma {m i q j:Nat} (h:Msk m) (hi:i≤m) (hq:q < 2 ^ 64) (hj:j≤m):∃ L,L≤13 + m∧(Zq m L (i,q)).1=j:=by
 have e:Zq m 13 (i,q)=((Zq m 13 (i,q)).1,0):=by
  refine Prod.ext rfl ?_;rw [JiB];exact Nat.div_eq_of_lt (Nat.lt_trans hq (by decide))
 obtain ⟨L,hL,e2⟩:=Jly h (JjJ m 13 i q hi) hj;refine ⟨13 + L,by omega,?_⟩;rw [JcK,e];exact e2
theorem Jj8 (h:Int):bits h < 2 ^ 64:=by
 unfold bits;have h1:=Int.emod_lt_of_pos h (b:=(2 ^ 64:Int)) (by decide);have h0:=Int.emod_nonneg h (b:=(2 ^ 64:Int)) (by decide);omega
theorem JeT (m:Nat) (h:Int):bits h % (m + 1)≤m:=Nat.le_of_lt_succ (Nat.mod_lt _ (Nat.succ_pos _))
theorem Jgl {m:Nat}:∀ {k p},p.j + p.more≤m→(J8 m k p).j + (J8 m k p).more≤m
 | 0,p,h=>h
 | k + 1,p,h=>by
  refine Jgl (k:=k) (p:=adv m p) ?_;unfold adv;split
  ·show p.j + 1 + (p.more - 1)≤m;omega
  ·show (leap m p.i p.perturb).1 + (runEnd m (leap m p.i p.perturb).1 - (leap m p.i p.perturb).1)≤m;have a:=Jg1 m p.i p.perturb;have b:=Jlo a;omega
theorem Jfq (m:Nat) (h:Int):(Ym m h).j + (Ym m h).more≤m:=by
 have a:=JeT m h;have b:=Jlo a;show bits h % (m + 1) + (runEnd m (bits h % (m + 1)) - bits h % (m + 1))≤m;omega
def Jbq (m:Nat) (occ:Nat→Bool) (p:Probe) (k:Nat):Prop:=occ (J8 m k p).j=false∧∀ k',k' < k→occ (J8 m k' p).j=true
theorem Jno {m:Nat} {occ:Nat→Bool} {p:Probe}:∀ {k:Nat},occ (J8 m k p).j=false→∃ k',k'≤k∧Jbq m occ p k':=by
 intro k
 induction k using Nat.strongRecOn with
 | _ k ih =>
  intro h;by_cases hx:∃ k',k' < k∧occ (J8 m k' p).j=false
  ·obtain ⟨k',h1,h2⟩:=hx;obtain ⟨k2,h3,h4⟩:=ih k' h1 h2;exact ⟨k2,by omega,h4⟩
  ·refine ⟨k,Nat.le_refl _,h,fun k' hk=>?_⟩;cases hb:occ (J8 m k' p).j with
   | true=>rfl
   | false=>exact absurd ⟨k',hk,hb⟩ hx
theorem Jnp {m:Nat} {occ:Nat→Bool} {h:Int} {j:Nat} (hm:Msk m) (hj:j≤m) (ho:occ j=false):∃ k,k < 10 * (m + 15)∧Jbq m occ (Ym m h) k:=by
 obtain ⟨L,hL,e⟩:=Jma hm (JeT m h) (Jj8 h) hj;obtain ⟨k,hk,e2⟩:=Jmn m L (bits h % (m + 1)) (bits h);have e3:(J8 m k (Ym m h)).j=j:=by
  show (J8 m k (st m _ _)).j=j;rw [e2];exact e
 obtain ⟨k',h1,h2⟩:=Jno (occ:=occ) (by rw [e3]; exact ho);exact ⟨k',by omega,h2⟩
theorem Jbq.step {m:Nat} {occ:Nat→Bool} {p:Probe} {k:Nat} (h:Jbq m occ p (k + 1)):occ p.j=true∧Jbq m occ (adv m p) k:=⟨h.2 0 (Nat.succ_pos _),h.1,fun k' hk=>h.2 (k' + 1) (by omega)⟩
theorem JjX {t:SetTable} {hashAt:Nat→Int} {h:Int} {occ:Nat→Bool} (ho:∀ j,occ j=true→∃ i,t.slot j=.live i) (hf:∀ j,occ j=false→t.slot j=.empty):∀ (k fuel:Nat) (p:Probe),k < fuel→Jbq t.mask occ p k→p.dummy=none →
  (∃ n i,n < k∧t.slot (J8 t.mask n p).j=.live i∧hashAt i=h∧(∀ n' i',n' < n→t.slot (J8 t.mask n' p).j=.live i'→hashAt i'≠h)∧probe.go t hashAt h fuel p=some (.candidate (J8 t.mask n p).j i (J8 t.mask (n + 1) p))) ∨
  ((∀ n i,n < k→t.slot (J8 t.mask n p).j=.live i→hashAt i≠h)∧probe.go t hashAt h fuel p=some (.empty (J8 t.mask k p).j none))
 | 0,fuel + 1,p,_,hF,hd=>by
  refine .inr ⟨fun n i hn=>absurd hn (Nat.not_lt_zero _),?_⟩;have hz:t.slot p.j=.empty:=hf _ hF.1;unfold probe.go;rw [hz,hd];rfl
 | k + 1,fuel + 1,p,hk,hF,hd=>by
  obtain ⟨h1,h2⟩:=hF.step;obtain ⟨i,hi⟩:=ho _ h1;by_cases hh:hashAt i=h
  ·refine .inl ⟨0,i,Nat.succ_pos _,hi,hh,fun n' i' hn=>absurd hn (Nat.not_lt_zero _),?_⟩;unfold probe.go;rw [hi];simp only [hh,beq_self_eq_true,if_true,Jgx];rfl
  ·have e:probe.go t hashAt h (fuel + 1) p=probe.go t hashAt h fuel (adv t.mask p):=by
    rw [probe.go];rw [hi];have hb:(hashAt i == h)=false:=by simpa using hh
    simp only [hb,Bool.false_eq_true,if_false,Jgx]
   have hd2:(adv t.mask p).dummy=none:=by
    have z:=Jeu t.mask 1 p;exact z.trans hd
   rcases JjX ho hf k fuel (adv t.mask p) (by omega) h2 hd2 with ⟨n,i2,a1,a2,a3,a4,a5⟩ | ⟨a1,a2⟩
   ·refine .inl ⟨n + 1,i2,by omega,a2,a3,fun n' i' hn hs=>?_,by rw [e,a5]; rfl⟩;cases n' with
    | zero =>
     have z:t.slot p.j=.live i':=hs;rw [hi] at z;cases z;exact hh
    | succ n'=>exact a4 n' i' (by omega) hs
   ·refine .inr ⟨fun n i2 hn hs=>?_,by rw [e,a2]; rfl⟩;cases n with
    | zero =>
     have z:t.slot p.j=.live i2:=hs;rw [hi] at z;cases z;exact hh
    | succ n=>exact a1 n i2 (by omega) hs
def Ris (xs:Array Nat):Prop:=∀ a b,a < b→b < xs.size→xs.getD a 0 < xs.getD b 0
theorem JfS {xs:Array Nat} {j:Nat} (hr:Ris xs):∀ (fuel lo hi:Nat),hi - lo≤fuel→lo≤hi→hi≤xs.size→(∀ k,k < lo→xs.getD k 0 < j)→(∀ k,hi≤k→k < xs.size→j≤xs.getD k 0) →
  below.go xs j fuel lo hi≤xs.size∧(∀ k,k < below.go xs j fuel lo hi→xs.getD k 0 < j)∧(∀ k,below.go xs j fuel lo hi≤k→k < xs.size→j≤xs.getD k 0)
 | 0,lo,hi,hf,hl,hz,h1,h2=>by
  have e:lo=hi:=by omega
  subst e;unfold below.go;exact ⟨hz,h1,h2⟩
 | fuel + 1,lo,hi,hf,hl,hz,h1,h2=>by
  unfold below.go;by_cases hlt:lo < hi
  ·rw [if_pos hlt];have hm1:lo≤(lo + hi) / 2:=by omega
   have hm2:(lo + hi) / 2 < hi:=by omega
   have e:xs.getD ((lo + hi) / 2) j=xs.getD ((lo + hi) / 2) 0:=by
    have hlt2:(lo + hi) / 2 < xs.size:=by omega
    simp [Array.getD,hlt2]
   dsimp only;rw [e];by_cases hc:xs.getD ((lo + hi) / 2) 0 < j
   ·rw [if_pos hc];refine JfS hr fuel _ hi (by omega) (by omega) hz (fun k hk=>?_) h2;by_cases hk2:k=(lo + hi) / 2
    ·rw [hk2]; exact hc
    ·exact Nat.lt_trans (hr k _ (by omega) (by omega)) hc
   ·rw [if_neg hc];refine JfS hr fuel lo _ (by omega) hm1 (by omega) h1 (fun k hk hks=>?_);by_cases hk2:k=(lo + hi) / 2
    ·rw [hk2]; omega
    ·have:=hr _ k (show (lo + hi) / 2 < k by omega) hks;omega
  ·rw [if_neg hlt];have e:lo=hi:=by omega
   subst e;exact ⟨hz,h1,h2⟩
theorem Jgw {xs:Array Nat} (hr:Ris xs) (j:Nat):below xs j≤xs.size∧(∀ k,k < below xs j→xs.getD k 0 < j)∧(∀ k,below xs j≤k→k < xs.size→j≤xs.getD k 0) :=
 JfS hr xs.size 0 xs.size (by omega) (Nat.zero_le _) (Nat.le_refl _) (fun k hk=>absurd hk (Nat.not_lt_zero _)) fun k hk hks=>by omega
def Yu (place:Array Nat) (j:Nat):Bool:=place.toList.contains j
theorem JdE {place:Array Nat} {j:Nat}:Yu place j=true↔∃ a,a < place.size∧place.getD a 0=j:=by
 unfold Yu;rw [List.contains_iff_mem,List.mem_iff_getElem];constructor
 ·rintro ⟨a,ha,e⟩;have ha':a < place.size:=by simpa using ha
  exact ⟨a,ha',by simpa [Array.getD,ha'] using e⟩
 ·rintro ⟨a,ha,e⟩;exact ⟨a,by simpa using ha,by simpa [Array.getD,ha] using e⟩
theorem Jd9 {t:SetTable} (hr:Ris t.place) {a:Nat} (ha:a < t.place.size):t.slot (t.place.getD a 0)=.live a:=by
 obtain ⟨b1,b2,b3⟩:=Jgw hr (t.place.getD a 0);have e:below t.place (t.place.getD a 0)=a:=by
  rcases Nat.lt_trichotomy (below t.place (t.place.getD a 0)) a with h | h | h
  ·have:=b3 _ (Nat.le_refl _) (by omega);have:=hr _ a h ha;omega
  ·exact h
  ·have:=b2 a h;omega
 unfold SetTable.slot;dsimp only;rw [e];have e2:t.place[a]?=some (t.place.getD a 0):=by simp [Array.getD,ha]
 rw [e2];simp
theorem Jf7 {t:SetTable} (hr:Ris t.place) (hd:t.dummies=#[]) {j:Nat} (h:Yu t.place j=false):t.slot j=.empty:=by
 unfold SetTable.slot;dsimp only;have hn:(t.place[below t.place j]? == some j)=false:=by
  cases hb:(t.place[below t.place j]? == some j) with
  | false=>rfl
  | true =>
   have z:t.place[below t.place j]?=some j:=by simpa using hb
   obtain ⟨hlt,e⟩:=Array.getElem?_eq_some_iff.mp z;have:Yu t.place j=true:=JdE.mpr ⟨_,hlt,by simp [Array.getD,hlt,e]⟩;rw [h] at this; cases this
 rw [hn,hd];have hh:has #[] j=false:=by unfold has; simp
 rw [hh];rfl
theorem Jnf {t:SetTable} (hr:Ris t.place) {j:Nat} (h:Yu t.place j=true):∃ i,t.slot j=.live i:=by
 obtain ⟨a,ha,rfl⟩:=JdE.mp h;exact ⟨a,Jd9 hr ha⟩
theorem JoB {t:SetTable} (hr:Ris t.place) (hd:t.dummies=#[]) {j i:Nat} (h:t.slot j=.live i):i < t.place.size∧t.place.getD i 0=j:=by
 cases ho:Yu t.place j with
 | false=>rw [Jf7 hr hd ho] at h; cases h
 | true =>
  obtain ⟨a,ha,rfl⟩:=JdE.mp ho;rw [Jd9 hr ha] at h;cases h;exact ⟨ha,rfl⟩
theorem JcR:∀ {l r:List Nat},l.Nodup→(∀ x∈l,x∈r)→l.length≤r.length
 | [],_,_,_=>Nat.zero_le _
 | x :: l,r,hn,hs=>by
  have hx:=hs x (List.mem_cons_self ..);have h1:=List.nodup_cons.mp hn;have z:=JcR (l:=l) (r:=r.erase x) h1.2 fun y hy=>(List.mem_erase_of_ne (by rintro rfl; exact h1.1 hy)).mpr (hs y (List.mem_cons_of_mem _ hy))
  rw [List.length_erase_of_mem hx] at z;have:0 < r.length:=List.length_pos_of_mem hx;simp only [List.length_cons];omega
theorem JoG {place:Array Nat} {m:Nat} (h:place.size≤m):∃ j,j≤m∧Yu place j=false:=by
 by_cases hx:∃ j,j≤m∧Yu place j=false
 ·exact hx
 ·exfalso;have z:=JcR (l:=List.range (m + 1)) (r:=place.toList) List.nodup_range fun x hx2=>by
   cases ho:Yu place x with
   | false=>exact absurd ⟨x,by have:=List.mem_range.mp hx2; omega,ho⟩ hx
   | true=>exact List.contains_iff_mem.mp ho
  rw [List.length_range,Array.length_toList] at z;omega
end HS
namespace HS
open PySem PySem.SetTable
def JgA (m:Nat) (occ:Nat→Bool) (h:Int) (j:Nat):Prop:=∃ k,(J8 m k (Ym m h)).j=j∧∀ k',k' < k→occ (J8 m k' (Ym m h)).j=true
theorem JgA.mono {m:Nat} {occ occ':Nat→Bool} {h:Int} {j:Nat} (r:JgA m occ h j) (ho:∀ j,occ j=true→occ' j=true):JgA m occ' h j:=let ⟨k,e,a⟩:=r; ⟨k,e,fun k' hk=>ho _ (a k' hk)⟩
structure Tab (t:SetTable) (es:Array (Int×Value)):Prop where
 msk:Msk t.mask
 dum:t.dummies=#[]
 siz:t.place.size=es.size
 ris:Ris t.place
 ub:∀ j∈t.place.toList,j≤t.mask
 cap:es.size≤t.mask
 rch:∀ z∈t.place.toList.zip es.toList,JgA t.mask (Yu t.place) z.2.1 z.1
theorem Tab.fits {t:SetTable} {es:Array (Int×Value)} (T:Tab t es):t.fits es.size=true:=by
 unfold SetTable.fits SetTable.fill;rw [T.dum,T.siz];have:=T.cap;simp;exact this
theorem Tab.first {t:SetTable} {es:Array (Int×Value)} (T:Tab t es) (h:Int):∃ k,k < 10 * turns t.mask∧Jbq t.mask (Yu t.place) (Ym t.mask h) k:=by
 obtain ⟨j,hj,ho⟩:=JoG (place:=t.place) (m:=t.mask) (by rw [T.siz]; exact T.cap);exact Jnp T.msk hj ho
theorem Tab.met {t:SetTable} {es:Array (Int×Value)} (T:Tab t es) {h:Int} {k a:Nat} {e:Int×Value} (hF:Jbq t.mask (Yu t.place) (Ym t.mask h) k) (he:es.toList[a]?=some e) (hh:e.1=h) :
  ∃ n,n < k∧t.slot (J8 t.mask n (Ym t.mask h)).j=.live a:=by
 have ha:a < es.size:=by
  have:=(List.getElem?_eq_some_iff.mp he).1;simpa using this
 have ha':a < t.place.size:=by rw [T.siz]; exact ha
 have hz:(t.place.getD a 0,e)∈t.place.toList.zip es.toList:=by
  refine List.mem_of_getElem? (i:=a) ?_;rw [List.getElem?_zip_eq_some];refine ⟨?_,he⟩;simp [Array.getD,ha']
 obtain ⟨n,e1,e2⟩:=T.rch _ hz;have hh':(Ym t.mask e.1)=Ym t.mask h:=by rw [hh]
 dsimp only at e1 e2;rw [hh'] at e1;rw [hh'] at e2;have hocc:Yu t.place (t.place.getD a 0)=true:=JdE.mpr ⟨a,ha',rfl⟩;refine ⟨n,?_,by rw [e1]; exact Jd9 T.ris ha'⟩;rcases Nat.lt_trichotomy n k with q | q | q
 ·exact q
 ·subst q;have:=hF.1;rw [e1,hocc] at this;cases this
 ·have:=e2 k q;rw [hF.1] at this;cases this
theorem JgU {xs:Array Nat}:Ris xs↔xs.toList.Pairwise (· < ·):=by
 rw [List.pairwise_iff_getElem];constructor
 ·intro h i j hi hj hij;have hi':i < xs.size:=by simpa using hi
  have hj':j < xs.size:=by simpa using hj
  have:=h i j hij hj';simpa [Array.getD,hi',hj'] using this
 ·intro h a b hab hb;have ha:a < xs.size:=by omega
  have:=h a b (by simpa using ha) (by simpa using hb) hab;simpa [Array.getD,ha,hb] using this
theorem Jcw {α β:Type} {P:List α} {E:List β} {z:α×β}:z∈P.zip E↔∃ i:Nat,P[i]?=some z.1∧E[i]?=some z.2:=by
 rw [List.mem_iff_getElem?];constructor
 ·rintro ⟨i,e⟩;exact ⟨i,List.getElem?_zip_eq_some.mp e⟩
 ·rintro ⟨i,e⟩;exact ⟨i,List.getElem?_zip_eq_some.mpr e⟩
theorem Jka {α β:Type} {P:List α} {E:List β} {p:Nat} {s:α} {e:β} (h:P.length=E.length) {z:α×β} (hz:z∈(P.take p ++ s :: P.drop p).zip (E.take p ++ e :: E.drop p)):z∈P.zip E∨z=(s,e):=by
 rw [List.zip_append (by rw [List.length_take,List.length_take,h]),List.zip_cons_cons] at hz;rcases List.mem_append.mp hz with q | q
 ·obtain ⟨i,e1,e2⟩:=Jcw.mp q;rw [List.getElem?_take] at e1 e2;refine .inl (Jcw.mpr ⟨i,?_,?_⟩)
  ·split at e1
   ·exact e1
   ·cases e1
  ·split at e2
   ·exact e2
   ·cases e2
 ·rcases List.mem_cons.mp q with q | q
  ·exact .inr q
  ·obtain ⟨i,e1,e2⟩:=Jcw.mp q;rw [List.getElem?_drop] at e1 e2;exact .inl (Jcw.mpr ⟨_,e1,e2⟩)
theorem Jpd {t:SetTable} {es:Array (Int×Value)} (T:Tab t es) (j:Nat):t.put j=({ t with place:=insertAt t.place (below t.place j) j,dummies:=#[] },below t.place j):=by
 unfold SetTable.put;have hh:has #[] j=false:=by unfold has; simp
 simp only [T.dum,hh,Bool.false_eq_true,if_false]
theorem Jgh {place:Array Nat} {p j j':Nat}:Yu (insertAt place p j) j'=true↔j'=j∨Yu place j'=true:=by
 unfold Yu;rw [List.contains_iff_mem,List.contains_iff_mem,SetTable.toList_insertAt,List.mem_append,List.mem_cons];constructor
 ·rintro (h | h | h)
  ·exact .inr (List.mem_of_mem_take h)
  ·exact .inl h
  ·exact .inr (List.mem_of_mem_drop h)
 ·rintro (h | h)
  ·exact .inr (.inl h)
  ·rw [← List.take_append_drop p place.toList] at h;rcases List.mem_append.mp h with h | h
   ·exact .inl h
   ·exact .inr (.inr h)
theorem Tab.put {t:SetTable} {es:Array (Int×Value)} (T:Tab t es) {h:Int} {x:Value} {k:Nat} (b:Bool) (hF:Jbq t.mask (Yu t.place) (Ym t.mask h) k) (hc:es.size + 1≤t.mask) :
  Tab { mask:=t.mask,place:=insertAt t.place (below t.place (J8 t.mask k (Ym t.mask h)).j) (J8 t.mask k (Ym t.mask h)).j,dummies:=#[],finger:=t.finger,led:=t.led,moves:=t.moves,plain:=b }
   (insertAt es (below t.place (J8 t.mask k (Ym t.mask h)).j) (h,x)):=by
 generalize hj:(J8 t.mask k (Ym t.mask h)).j=j;have ho:Yu t.place j=false:=by rw [← hj]; exact hF.1
 have hle:j≤t.mask:=by
  have:=Jgl (m:=t.mask) (k:=k) (Jfq t.mask h);omega
 obtain ⟨b1,b2,b3⟩:=Jgw T.ris j;have mono:∀ j',Yu t.place j'=true→Yu (insertAt t.place (below t.place j) j) j'=true:=fun j' q=>Jgh.mpr (.inr q)
 refine ⟨T.msk,rfl,?_,?_,?_,?_,?_⟩
 ·have e1:(insertAt t.place (below t.place j) j).size=t.place.size + 1:=by
   rw [← Array.length_toList,(SetTable.insertAt_perm t.place _ j).length_eq,Array.length_toList,Array.size_push]
  have e2:(insertAt es (below t.place j) (h,x)).size=es.size + 1:=by
   rw [← Array.length_toList,(SetTable.insertAt_perm es _ (h,x)).length_eq,Array.length_toList,Array.size_push]
  show (insertAt t.place (below t.place j) j).size=_;rw [e1,e2,T.siz]
 ·rw [JgU];show (insertAt t.place (below t.place j) j).toList.Pairwise _;rw [SetTable.toList_insertAt];have hp:=JgU.mp T.ris;rw [List.pairwise_append,List.pairwise_cons];refine ⟨hp.sublist (List.take_sublist _ _),⟨fun a ha=>?_,hp.sublist (List.drop_sublist _ _)⟩,fun a ha c hc=>?_⟩
  ·obtain ⟨i,hi,e⟩:=List.mem_iff_getElem.mp ha;rw [List.getElem_drop] at e;have hi2:below t.place j + i < t.place.size:=by
    rw [List.length_drop,Array.length_toList] at hi;omega
   have e2:t.place.getD (below t.place j + i) 0=a:=by rw [← e]; simp [Array.getD,hi2]
   have h1:=b3 _ (Nat.le_add_right _ i) hi2;have h2:a≠j:=fun q=>by
    have:=JdE.mpr ⟨_,hi2,e2.trans q⟩;rw [ho] at this; cases this
   omega
  ·have hlt:∀ a∈t.place.toList.take (below t.place j),a < j:=fun a ha=>by
    obtain ⟨i,hi,e⟩:=List.mem_iff_getElem.mp ha;rw [List.getElem_take] at e;rw [List.length_take,Array.length_toList] at hi;have hi2:i < t.place.size:=by omega
    have e2:t.place.getD i 0=a:=by rw [← e]; simp [Array.getD,hi2]
    have:=b2 i (by omega);omega
   rcases List.mem_cons.mp hc with q | q
   ·rw [q]; exact hlt a ha
   ·have hp2:=hp;rw [← List.take_append_drop (below t.place j) t.place.toList,List.pairwise_append] at hp2;exact hp2.2.2 a ha c q
 ·intro a ha;have:Yu (insertAt t.place (below t.place j) j) a=true:=List.contains_iff_mem.mpr ha;rcases Jgh.mp this with q | q
  ·rw [q]; exact hle
  ·exact T.ub a (List.contains_iff_mem.mp q)
 ·rw [← Array.length_toList,(SetTable.insertAt_perm es _ (h,x)).length_eq,Array.length_toList,Array.size_push];exact hc
 ·intro z hz;have hz':z∈(insertAt t.place (below t.place j) j).toList.zip (insertAt es (below t.place j) (h,x)).toList:=hz;rw [SetTable.toList_insertAt,SetTable.toList_insertAt] at hz';rcases Jka (by rw [Array.length_toList,Array.length_toList,T.siz]) hz' with q | q
  ·exact (T.rch z q).mono mono
  ·rw [q];exact ⟨k,hj,fun k' hk=>mono _ (hF.2 k' hk)⟩
def Zi (owner:Array (Option Nat)) (j:Nat):Bool:=(owner.getD j (some 0)).isSome
theorem JhI {m:Nat} {owner:Array (Option Nat)}:∀ (fuel i q:Nat),i≤m→(∃ L,L < fuel∧Zi owner (Zq m L (i,q)).1=false) →
  ∃ k,layClean.free m owner fuel i q=some (J8 m k (st m i q)).j∧Jbq m (Zi owner) (st m i q) k
 | 0,i,q,hi,⟨L,hL,_⟩=>absurd hL (Nat.not_lt_zero _)
 | fuel + 1,i,q,hi,⟨L,hL,hf⟩=>by
  have hr:=JjK m i;have hge:i≤runEnd m i:=by unfold runEnd; split <;> omega
  unfold layClean.free;cases hx:(List.range (runEnd m i + 1 - i)).find? fun k=>(owner.getD (i + k) (some 0)).isNone with
  | some k =>
   obtain ⟨h1,h2,h3⟩:=List.find?_range_eq_some.mp hx;have hk:k≤runEnd m i - i:=by have:=List.mem_range.mp h2; omega
   refine ⟨k,?_,?_,fun k' hk'=>?_⟩
   ·rw [JcB hk]
   ·rw [JcB hk];show (owner.getD (i + k) (some 0)).isSome=false;cases ho:owner.getD (i + k) (some 0) with
    | none=>rfl
    | some a=>rw [ho] at h1; cases h1
   ·rw [JcB (by omega)];have z:=h3 k' hk';show (owner.getD (i + k') (some 0)).isSome=true;cases ho:owner.getD (i + k') (some 0) with
    | none=>rw [ho] at z; simp at z
    | some a=>rfl
  | none =>
   have hn:=List.find?_eq_none.mp hx;have occd:∀ d,d≤runEnd m i - i→Zi owner (i + d)=true:=fun d hd=>by
    have z:=hn d (List.mem_range.mpr (by omega));show (owner.getD (i + d) (some 0)).isSome=true;cases ho:owner.getD (i + d) (some 0) with
    | none=>rw [ho] at z; simp at z
    | some a=>rfl
   cases L with
   | zero =>
    have z:=occd 0 (Nat.zero_le _);rw [Nat.add_zero] at z;have hf':Zi owner i=false:=hf;rw [z] at hf'; cases hf'
   | succ L =>
    obtain ⟨k,e,hF⟩:=JhI fuel (leap m i q).1 (leap m i q).2 (Jg1 m i q) ⟨L,by omega,hf⟩;have eI:∀ n,J8 m (runEnd m i - i + 1 + n) (st m i q)=J8 m n (st m (leap m i q).1 (leap m i q).2):=fun n=>by rw [JcC,Ji2]
    refine ⟨runEnd m i - i + 1 + k,?_,?_,fun k' hk'=>?_⟩
    ·rw [eI]; exact e
    ·rw [eI]; exact hF.1
    ·by_cases hs:k'≤runEnd m i - i
     ·rw [JcB hs]; exact occd k' hs
     ·obtain ⟨n,rfl⟩:∃ n,k'=runEnd m i - i + 1 + n:=⟨k' - (runEnd m i - i + 1),by omega⟩
      rw [eI];exact hF.2 n (by omega)
structure Own (m:Nat) (owner:Array (Option Nat)) (done:List Int):Prop where
 siz:owner.size=m + 1
 all:∀ a,a < done.length→∃ j,j≤m∧owner.getD j none=some a
 has:∀ j a,owner.getD j none=some a→∃ h,done[a]?=some h∧JgA m (Zi owner) h j
 inj:∀ j j' a,owner.getD j none=some a→owner.getD j' none=some a→j=j'
theorem Own.lt {m:Nat} {owner:Array (Option Nat)} {done:List Int} (O:Own m owner done) {j a:Nat} (h:owner.getD j none=some a):j≤m∧a < done.length:=by
 obtain ⟨hh,e,_⟩:=O.has j a h;refine ⟨?_,(List.getElem?_eq_some_iff.mp e).1⟩;by_cases hj:j < owner.size
 ·have:=O.siz; omega
 ·rw [show owner.getD j none=none by simp [Array.getD,hj]] at h; cases h
theorem Jei {owner:Array (Option Nat)} {j:Nat} (hj:j < owner.size):owner.getD j (some 0)=owner.getD j none:=by simp [Array.getD,hj]
theorem Own.free {m:Nat} {owner:Array (Option Nat)} {done:List Int} (O:Own m owner done) (h:done.length≤m):∃ j,j≤m∧Zi owner j=false:=by
 by_cases hx:∃ j,j≤m∧Zi owner j=false
 ·exact hx
 ·exfalso;have hall:∀ j,j≤m→∃ a,owner.getD j none=some a:=fun j hj=>by
   cases ho:Zi owner j with
   | false=>exact absurd ⟨j,hj,ho⟩ hx
   | true =>
    unfold Zi at ho;rw [Jei (by rw [O.siz]; omega)] at ho;exact Option.isSome_iff_exists.mp ho
  have hnd:((List.range (m + 1)).map fun j=>(owner.getD j none).getD 0).Nodup:=by
   rw [List.Nodup,List.pairwise_map];refine List.Pairwise.imp_of_mem ?_ (List.pairwise_lt_range (n:=m + 1));intro a b ha hb hlt e;obtain ⟨x,ex⟩:=hall a (by have:=List.mem_range.mp ha; omega);obtain ⟨y,ey⟩:=hall b (by have:=List.mem_range.mp hb; omega);rw [ex,ey] at e;have e':x=y:=e;subst e';have:=O.inj a b x ex ey;omega
  have z:=JcR (r:=List.range done.length) hnd fun x hx2=>by
   obtain ⟨j,hj,e⟩:=List.mem_map.mp hx2;obtain ⟨y,ey⟩:=hall j (by have:=List.mem_range.mp hj; omega);rw [ey] at e;have e':y=x:=e;subst e';exact List.mem_range.mpr (O.lt ey).2
  rw [List.length_map,List.length_range,List.length_range] at z;omega
theorem Own.step {m:Nat} {owner:Array (Option Nat)} {done:List Int} (hm:Msk m) (O:Own m owner done) (h:done.length≤m) (x:Int) :
  ∃ j,layClean.free m owner (turns m) (bits x % (m + 1)) (bits x)=some j∧Own m (owner.setIfInBounds j (some done.length)) (done ++ [x]):=by
 obtain ⟨f,hf,ho⟩:=O.free h;obtain ⟨L,hL,eL⟩:=Jma hm (JeT m x) (Jj8 x) hf;obtain ⟨k,e,hF⟩:=JhI (owner:=owner) (turns m) (bits x % (m + 1)) (bits x) (JeT m x) ⟨L,by unfold turns; omega,by rw [eL]; exact ho⟩;generalize hj:(J8 m k (st m (bits x % (m + 1)) (bits x))).j=j at e;have hjm:j≤m:=by
  have:=Jgl (m:=m) (k:=k) (Jfq m x);have e2:(J8 m k (Ym m x)).j=j:=hj;omega
 have hjs:j < owner.size:=by rw [O.siz]; omega
 have hj0:owner.getD j none=none:=by
  have z:=hF.1;rw [hj] at z;unfold Zi at z;rw [Jei hjs] at z;cases q:owner.getD j none with
  | none=>rfl
  | some a=>rw [q] at z; cases z
 have get:∀ i,(owner.setIfInBounds j (some done.length)).getD i none=if i=j then some done.length else owner.getD i none:=fun i=>by
  rw [Array.getD_eq_getD_getElem?,Array.getElem?_setIfInBounds];by_cases q:i=j
  ·subst q; simp [hjs]
  ·have q':¬ j=i:=fun w=>q w.symm
   rw [if_neg q',if_neg q,Array.getD_eq_getD_getElem?]
 have mono:∀ i,Zi owner i=true→Zi (owner.setIfInBounds j (some done.length)) i=true:=fun i q=>by
  unfold Zi at q ⊢;by_cases hi:i < owner.size
  ·rw [Jei (by simpa using hi),get];rw [Jei hi] at q;by_cases w:i=j
   ·rw [if_pos w]; rfl
   ·rw [if_neg w]; exact q
  ·simp [Array.getD,hi]
 refine ⟨j,e,by simpa using O.siz,fun a ha=>?_,fun i a hi=>?_,fun i i' a hi hi'=>?_⟩
 ·by_cases hlt:a < done.length
  ·obtain ⟨i,hi,ei⟩:=O.all a hlt;refine ⟨i,hi,?_⟩;rw [get,if_neg (fun q=>by rw [q,hj0] at ei; cases ei)];exact ei
  ·rw [List.length_append,List.length_singleton] at ha;have:a=done.length:=by omega
   subst this;exact ⟨j,hjm,by rw [get,if_pos rfl]⟩
 ·rw [get] at hi;split at hi
  ·rename_i q;cases hi;refine ⟨x,by simp,?_⟩;rw [q];exact ⟨k,hj,fun k' hk=>mono _ (hF.2 k' hk)⟩
  ·obtain ⟨hh,e1,r⟩:=O.has i a hi;exact ⟨hh,by rw [List.getElem?_append_left (List.getElem?_eq_some_iff.mp e1).1]; exact e1,r.mono mono⟩
 ·rw [get] at hi hi';split at hi <;> split at hi'
  ·rename_i q q'; rw [q,q']
  ·cases hi;have:=(O.lt hi').2;omega
  ·cases hi';have:=(O.lt hi).2;omega
  ·exact O.inj i i' a hi hi'
def JiZ (m:Nat) (acc:Option (Array (Option Nat)×Nat)) (h:Int):Option (Array (Option Nat)×Nat):=do
 let (owner,k) ← acc;let j ← layClean.free m owner (turns m) (bits h % (m + 1)) (bits h)
 pure (owner.setIfInBounds j (some k),k + 1)
theorem JiY {m:Nat} (hm:Msk m):∀ (todo done:List Int) (owner:Array (Option Nat)),Own m owner done→done.length + todo.length≤m→∃ owner',todo.foldl (JiZ m) (some (owner,done.length))=some (owner',done.length + todo.length)∧Own m owner' (done ++ todo)
 | [],done,owner,O,_=>⟨owner,by simp,by simpa using O⟩
 | x :: todo,done,owner,O,h=>by
  simp only [List.length_cons] at h;obtain ⟨j,e,O2⟩:=O.step hm (by omega) x;obtain ⟨o3,e3,O3⟩:=JiY hm todo (done ++ [x]) _ O2 (by rw [List.length_append,List.length_singleton]; omega);refine ⟨o3,?_,by simpa using O3⟩;rw [List.foldl_cons];have e4:JiZ m (some (owner,done.length)) x=some (owner.setIfInBounds j (some done.length),done.length + 1):=by
   unfold JiZ;simp [e]
  rw [e4];rw [List.length_append,List.length_singleton] at e3;rw [e3];simp only [List.length_cons];congr 2;omega
theorem JlO {m:Nat} (hm:Msk m) (hashes:Array Int) (h:hashes.size≤m):∃ owner,layClean m hashes=some owner∧Own m owner hashes.toList:=by
 have O0:Own m (Array.replicate (m + 1) none) []:=by
  have g:∀ j,(Array.replicate (m + 1) (none:Option Nat)).getD j none=none:=fun j=>by
   rw [Array.getD_eq_getD_getElem?,Array.getElem?_replicate];split <;> rfl
  refine ⟨by simp,fun a ha=>absurd ha (Nat.not_lt_zero _),fun j a e=>?_,fun j j' a e=>?_⟩
  ·rw [g] at e; cases e
  ·rw [g] at e; cases e
 obtain ⟨owner,e,O⟩:=JiY hm hashes.toList [] _ O0 (by simpa using h);refine ⟨owner,?_,by simpa using O⟩;unfold layClean;have e2:(hashes.foldl (init:=some (Array.replicate (m + 1) none,0)) fun acc h=>do
  let (owner,k) ← acc;let j ← layClean.free m owner (turns m) (bits h % (m + 1)) (bits h)
  pure (owner.setIfInBounds j (some k),k + 1))=hashes.toList.foldl (JiZ m) (some (Array.replicate (m + 1) none,0)):=by
  rw [← Array.foldl_toList];rfl
 rw [e2];have e3:hashes.toList.foldl (JiZ m) (some (Array.replicate (m + 1) none,0))=some (owner,0 + hashes.toList.length):=e;rw [e3];rfl
theorem Jie {es:Array (Int×Value)}:∀ {live:List (Nat×Nat)},(∀ x∈live,x.2 < es.size)→((live.map (·.2)).filterMap (es[·]?)).length=live.length ∧
  ∀ z∈(live.map (·.1)).zip ((live.map (·.2)).filterMap (es[·]?)),∃ x∈live,z.1=x.1∧es[x.2]?=some z.2
 | [],_=>⟨rfl,fun z hz=>nomatch hz⟩
 | x :: r,h=>by
  obtain ⟨a,b⟩:=Jie (live:=r) fun y hy=>h y (List.mem_cons_of_mem _ hy)
  have hx:=h x (List.mem_cons_self ..);have e:es[x.2]?=some es[x.2]:=Array.getElem?_eq_getElem hx;rw [List.map_cons,List.filterMap_cons_some e,List.map_cons,List.zip_cons_cons];refine ⟨by rw [List.length_cons,List.length_cons,a],fun z hz=>?_⟩;rcases List.mem_cons.mp hz with q | q
  ·exact ⟨x,List.mem_cons_self ..,by rw [q],by rw [q]; exact e⟩
  ·obtain ⟨y,hy,e1,e2⟩:=b z q;exact ⟨y,List.mem_cons_of_mem _ hy,e1,e2⟩
theorem JpX {m:Nat} (hm:Msk m) (finger moves:Nat) (led plain:Bool) (es:Array (Int×Value)) (h:es.size≤m) :
  ∃ t order,laid m finger moves led plain (es.map (·.1))=some (t,order)∧Tab t (order.filterMap (es[·]?))∧(order.filterMap (es[·]?)).size=es.size∧(∀ e,e∈(order.filterMap (es[·]?)).toList↔e∈es.toList)∧t.mask=m:=by
 obtain ⟨owner,eo,O⟩:=JlO hm (es.map (·.1)) (by simpa using h);have hlen:(es.map (·.1)).toList.length=es.size:=by simp
 let live:=(List.range (m + 1)).filterMap fun j=>(owner.getD j none).map (j,·)
 have hlive:∀ x,x∈live↔owner.getD x.1 none=some x.2:=fun x=>by
  rw [List.mem_filterMap];constructor
  ·rintro ⟨j,hj,e⟩;obtain ⟨a,ea,e2⟩:=Option.map_eq_some_iff.mp e;rw [← e2];exact ea
  ·intro e;exact ⟨x.1,List.mem_range.mpr (by have:=(O.lt e).1; omega),by rw [e]; rfl⟩
 have hlt:∀ x∈live,x.2 < es.size:=fun x hx=>by rw [← hlen]; exact (O.lt ((hlive x).mp hx)).2
 obtain ⟨zl,zm⟩:=Jie hlt;have efst:live.map (·.1)=(List.range (m + 1)).filter fun j=>(owner.getD j none).isSome:=by
  show ((List.range (m + 1)).filterMap fun j=>(owner.getD j none).map (j,·)).map (·.1)=_;rw [List.map_filterMap]
  induction List.range (m + 1) with
  | nil=>rfl
  | cons a r ih =>
   cases ho:owner.getD a none with
   | none=>simp only [List.filterMap_cons,List.filter_cons,ho,Option.map_none,Option.isSome_none,Bool.false_eq_true,if_false]; exact ih
   | some b=>simp only [List.filterMap_cons,List.filter_cons,ho,Option.map_some,Option.isSome_some,if_true]; rw [ih]
 have hocc:∀ j,Zi owner j=true→j≤m→Yu (live.map (·.1)).toArray j=true:=fun j q hj=>by
  unfold Yu;rw [List.contains_iff_mem,List.toList_toArray,efst,List.mem_filter];refine ⟨List.mem_range.mpr (by omega),?_⟩;unfold Zi at q;rw [Jei (by rw [O.siz]; omega)] at q;exact q
 have hcount:live.length=es.size:=by
  have n1:(live.map (·.2)).Nodup:=by
   rw [List.Nodup,List.pairwise_map];refine List.Pairwise.imp_of_mem (R:=fun x y=>x.1 < y.1) ?_ ?_
   ·intro x y hx hy hxy e;have e1:=(hlive x).mp hx;have e2:=(hlive y).mp hy;rw [← e] at e2;have:=O.inj _ _ _ e1 e2;omega
   ·have z:(live.map (·.1)).Pairwise (· < ·):=by rw [efst]; exact List.pairwise_lt_range.sublist List.filter_sublist
    exact List.pairwise_map.mp z
  have a1:=JcR n1 (r:=List.range es.size) fun x hx=>by
   obtain ⟨y,hy,e⟩:=List.mem_map.mp hx;rw [← e];exact List.mem_range.mpr (hlt y hy)
  have a2:=JcR (l:=List.range es.size) (r:=live.map (·.2)) List.nodup_range fun x hx=>by
   obtain ⟨j,hj,e⟩:=O.all x (by rw [hlen]; exact List.mem_range.mp hx);exact List.mem_map.mpr ⟨(j,x),(hlive _).mpr e,rfl⟩
  rw [List.length_map,List.length_range] at a1 a2;omega
 have efm:((live.map (·.2)).toArray.filterMap (es[·]?)).toList=(live.map (·.2)).filterMap (es[·]?):=by rw [Array.toList_filterMap]
 have esz:((live.map (·.2)).toArray.filterMap (es[·]?)).size=es.size:=by rw [← Array.length_toList,efm,zl,hcount]
 refine ⟨{ mask:=m,place:=(live.map (·.1)).toArray,dummies:=#[],finger,led,moves,plain },(live.map (·.2)).toArray,?_,⟨hm,rfl,?_,?_,?_,?_,?_⟩,esz,fun e=>?_,rfl⟩
 ·unfold laid;rw [eo];rfl
 ·rw [esz];show (live.map (·.1)).toArray.size=es.size;rw [List.size_toArray,List.length_map,hcount]
 ·rw [JgU];show (live.map (·.1)).toArray.toList.Pairwise _;rw [List.toList_toArray,efst];exact List.pairwise_lt_range.sublist List.filter_sublist
 ·intro j hj;have hj':j∈(live.map (·.1)).toArray.toList:=hj;rw [List.toList_toArray] at hj';obtain ⟨x,hx,e⟩:=List.mem_map.mp hj';rw [← e];exact (O.lt ((hlive x).mp hx)).1
 ·rw [esz]; exact h
 ·intro z hz;rw [efm] at hz;have hz':z∈(live.map (·.1)).zip ((live.map (·.2)).filterMap (es[·]?)):=by simpa using hz
  obtain ⟨x,hx,e1,e2⟩:=zm z hz';obtain ⟨hh,e3,r⟩:=O.has _ _ ((hlive x).mp hx);have e4:hh=z.2.1:=by
   rw [Array.getElem?_toList,Array.getElem?_map,e2] at e3;exact (Option.some.inj e3).symm
  rw [e1,← e4];obtain ⟨k,ek,ak⟩:=r;refine ⟨k,ek,fun k' hk=>hocc _ (ak k' hk) ?_⟩;have:=Jgl (m:=m) (k:=k') (Jfq m hh);show (J8 m k' (Ym m hh)).j≤m;omega
 ·rw [efm,List.mem_filterMap];constructor
  ·rintro ⟨a,_,q⟩;exact List.mem_of_getElem? (by rw [Array.getElem?_toList]; exact q)
  ·intro he;obtain ⟨a,ha,q⟩:=List.mem_iff_getElem.mp he;have ha':a < es.size:=by simpa using ha
   obtain ⟨j,hj,e⟩:=O.all a (by rw [hlen]; exact ha');refine ⟨a,List.mem_map.mpr ⟨(j,a),(hlive _).mpr e,rfl⟩,?_⟩;rw [Array.getElem?_eq_getElem ha'];simpa using q
end HS
namespace HS
open PySem PySem.SetTable L2
section
variable {prog:Program} {w:World} {A:Around} {E:Value→Shared→Prop} {s:Shared}
abbrev TK (prog:Program) (w:World):=IsTupleKey (J9 prog w)
abbrev hsh (prog:Program) (w:World) (ks:List JI):Int:=tupleKeyHash (J9 prog w) ks
theorem Jjy (n:Nat) {v:Value} (h:carriedByValue v=true):ofAClassStatement n v=pure false:=by
 cases v with
 | ref a=>simp [carriedByValue] at h
 | _=>first | rfl | simp [ofAClassStatement] | (unfold ofAClassStatement; rfl)
theorem Jfh {ks:List JI} {a:Addr} {Q:Bool→Shared→Prop} (hk:TK prog w s.heap ks a) (h:Q false s):wpAny (model prog w) A (ofAClassStatement 8 (.ref a)) Q E s:=by
 obtain ⟨o,items,n,ho,hc,hd,hi⟩:=hk;unfold ofAClassStatement;refine wpAny_bind (PySem.W.Looks.here (show PySem.W.Looks _ s.heap (typeOf (.ref a)) (.type "tuple") from hc ▸ (PySem.W.Looks.ld ho).andThen .now) ?_);dsimp only;rw [if_pos (by decide)];refine wpAny_bind (wpAny_pure ?_);rw [if_neg (by decide)];refine wpAny_bind (wpAny_seqItems ho hd ?_);dsimp only;refine wpAny_bind ?_;rw [← Array.forIn_toList];refine wpAny_forIn_list _ (fun rest r s'=>r=(none,())∧s'=s∧∀ v∈rest,carriedByValue v=true) _ ?_ ?_ _ _ ⟨rfl,rfl,hi.byValue⟩
 ·rintro v rest r s' ⟨hr,rfl,hall⟩;rw [Jjy _ (hall v List.mem_cons_self)];refine wpAny_bind (wpAny_pure ?_);rw [if_neg (by decide)];exact wpAny_pure ⟨rfl,rfl,fun u hu'=>hall u (List.mem_cons_of_mem _ hu')⟩
 ·rintro r s' ⟨hr,rfl,_⟩;subst hr;exact wpAny_pure h
theorem Jog {ks:List JI} {x:Addr} {stored:List Value} {Q:Bool→Shared→Prop} (hk:TK prog w s.heap ks x) (hall:∀ v∈stored,∃ a k',v=.ref a∧TK prog w s.heap k' a) (h:Q false s) :
  wpAny (model prog w) A (searchCouldBeSeen (.ref x) stored) Q E s:=by
 unfold searchCouldBeSeen;refine wpAny_bind ?_;refine wpAny_forIn_list _ (fun rest r s'=>r=(none,())∧s'=s∧∀ v∈rest,∃ a k',v=.ref a∧TK prog w s.heap k' a) _ ?_ ?_ _ _ ⟨rfl,rfl,hall⟩
 ·rintro v rest r s' ⟨hr,rfl,hall⟩;obtain ⟨a,k',rfl,hk'⟩:=hall v List.mem_cons_self;have rest_ok:∀ v∈rest,∃ a k',v=Value.ref a∧TK prog w s'.heap k' a:=fun u hu'=>hall u (List.mem_cons_of_mem _ hu')
  dsimp only;split
  ·exact wpAny_pure ⟨rfl,rfl,rest_ok⟩
  ·refine wpAny_bind (wpAny_eqIsQuiet_tuple hk ?_);rw [if_neg (by decide)];refine wpAny_bind (wpAny_eqIsQuiet_tuple hk' ?_);rw [if_neg (by decide)];refine wpAny_bind (Jfh hk ?_);rw [if_neg (by decide)];refine wpAny_bind (Jfh hk' ?_);rw [if_neg (by decide)];exact wpAny_pure ⟨rfl,rfl,rest_ok⟩
 ·rintro r s' ⟨hr,rfl,_⟩;subst hr;exact wpAny_pure h
structure Jdf (prog:Program) (w:World) (h:Heap) (S:Addr) (es:Array (Int×Value)) (t:SetTable) (D:List (List JI)):Prop where
 tab:Tab t es
 full:es.size * 5 < t.mask * 3
 els:∀ e∈es.toList,∃ ks∈D,∃ a,e=(hsh prog w ks,.ref a)∧TK prog w h ks a
 all:∀ ks∈D,∃ a,(hsh prog w ks,.ref a)∈es.toList∧TK prog w h ks a
 siz:es.size=D.length
theorem Jko {S x:Addr} {ks:List JI} {o:Obj} {es:Array (Int×Value)} {ep:Nat} {t:SetTable} {D:List (List JI)} {Q:SetFound→Shared→Prop} (hu:A.units < cLine) (ho:s.heap.get? S=some o) (hd:o.data=.set es ep t)
  (SA:Jdf prog w s.heap S es t D) (hk:TK prog w s.heap ks x) :
  ∀ (k fuel:Nat) (sd:Option Probe),k < fuel→k < 10 * turns t.mask→Jbq t.mask (Yu t.place) (sd.getD (t.probeStart (hsh prog w ks))) k→(sd.getD (t.probeStart (hsh prog w ks))).dummy=none →
   ((∃ n i a,n < k∧t.slot (J8 t.mask n (sd.getD (t.probeStart (hsh prog w ks)))).j=.live i∧es.toList[i]?=some (hsh prog w ks,.ref a)∧TK prog w s.heap ks a)→Q (.there none) s) →
   ((∀ n i a,n < k→t.slot (J8 t.mask n (sd.getD (t.probeStart (hsh prog w ks)))).j=.live i→es.toList[i]?=some (hsh prog w ks,.ref a)→TK prog w s.heap ks a→False)→Q (.free (J8 t.mask k (sd.getD (t.probeStart (hsh prog w ks)))).j false) s) →
   wpAny (model prog w) A (setSearchFrom S (.ref x) (hsh prog w ks) true fuel sd) Q E s:=by
 intro k
 induction k using Nat.strongRecOn with
 | _ k ih =>
  intro fuel sd hf hb hF hdm h1 h2;obtain ⟨fuel,rfl⟩:∃ f,fuel=f + 1:=⟨fuel - 1,by omega⟩
  unfold setSearchFrom;refine wpAny_bind (wpAny_setState_of ho hd SA.tab.fits ?_);dsimp only;have hg:¬ t.gaveWay=true:=by
   unfold SetTable.gaveWay;rcases SA.tab.msk with e | e | e <;> rw [e] <;> decide
  rw [if_neg hg];have spec:=JjX (t:=t) (hashAt:=fun i=>(es[i]?.map (·.1)).getD 0) (h:=hsh prog w ks) (fun j=>Jnf SA.tab.ris) (fun j=>Jf7 SA.tab.ris SA.tab.dum) k (10 * turns t.mask) (sd.getD (t.probeStart (hsh prog w ks))) hb hF hdm;split
  ·rename_i met hmet;rcases spec with ⟨n,i,a1,a2,a3,a4,a5⟩ | ⟨a1,a2⟩
   ·have e:=Option.some.inj (hmet.symm.trans a5);subst e;dsimp only;obtain ⟨hi,hpl⟩:=JoB SA.tab.ris SA.tab.dum a2;have hie:i < es.size:=by rw [← SA.tab.siz]; exact hi
    obtain ⟨k',hk'D,b,eb,hkb⟩:=SA.els es[i] (by simp);have hei:es[i]?=some (hsh prog w k',.ref b):=by rw [Array.getElem?_eq_getElem hie,eb]
    have heL:es.toList[i]?=some (hsh prog w k',.ref b):=by rw [Array.getElem?_toList]; exact hei
    have hhash:hsh prog w k'=hsh prog w ks:=by
     rw [hei] at a3;exact a3
    have eI:∀ j,J8 t.mask j (J8 t.mask (n + 1) (sd.getD (t.probeStart (hsh prog w ks))))=J8 t.mask (n + 1 + j) (sd.getD (t.probeStart (hsh prog w ks))):=fun j=>(JcC t.mask (n + 1) j _).symm
    have again:k'≠ks→wpAny (model prog w) A (setSearchFrom S (.ref x) (hsh prog w ks) true fuel (some (J8 t.mask (n + 1) (sd.getD (t.probeStart (hsh prog w ks)))))) Q E s:=fun he=>by
     have ek:n + 1 + (k - (n + 1))=k:=by omega
     refine ih (k - (n + 1)) (by omega) fuel (some (J8 t.mask (n + 1) (sd.getD (t.probeStart (hsh prog w ks))))) (by omega) (by omega) ⟨?_,fun j hj=>?_⟩ ?_ (fun q=>?_) (fun q=>?_)
     ·show Yu t.place (J8 t.mask _ (J8 t.mask (n + 1) _)).j=false;rw [eI,ek]; exact hF.1
     ·show Yu t.place (J8 t.mask _ (J8 t.mask (n + 1) _)).j=true;rw [eI]; exact hF.2 _ (by omega)
     ·show (J8 t.mask (n + 1) _).dummy=none;rw [Jeu]; exact hdm
     ·obtain ⟨n2,i2,c,c1,c2,c3,c4⟩:=q;have c2':t.slot (J8 t.mask n2 (J8 t.mask (n + 1) (sd.getD (t.probeStart (hsh prog w ks))))).j=.live i2:=c2;rw [eI] at c2';exact h1 ⟨_,i2,c,by omega,c2',c3,c4⟩
     ·show Q (.free (J8 t.mask _ (J8 t.mask (n + 1) (sd.getD (t.probeStart (hsh prog w ks))))).j false) s;rw [eI,ek];refine h2 fun n2 i2 c c1 c2 c3 c4=>?_
      rcases Nat.lt_trichotomy n2 n with g | g | g
      ·exact a4 n2 i2 g c2 (by rw [← Array.getElem?_toList,c3]; rfl)
      ·subst g;rw [a2] at c2;cases c2;rw [heL] at c3;have e5:=congrArg (fun z=>z.2) (Option.some.inj c3);have e6:b=c:=Value.ref.inj e5;subst e6;exact he (hkb.inj c4)
      ·refine q (n2 - (n + 1)) i2 c (by omega) ?_ c3 c4;show t.slot (J8 t.mask _ (J8 t.mask (n + 1) _)).j=_;rw [eI,show n + 1 + (n2 - (n + 1))=n2 by omega];exact c2
    cases hl:t.led
    ·rw [if_pos (by rfl)];refine wpAny_bind (Jog hk (fun v hv=>?_) ?_)
     ·obtain ⟨e,he,rfl⟩:=List.mem_map.mp hv;have he2:e∈es.toList:=by
       have:=Array.mem_toList_iff.mp he;exact Array.mem_toList_iff.mpr (Array.mem_filter.mp this).1
      obtain ⟨k2,_,b2,rfl,hb2⟩:=SA.els e he2;exact ⟨b2,k2,rfl,hb2⟩
     ·rw [if_neg (by decide)];rw [hei];dsimp only;refine wpAny_bind (wpAny_holding (wpAny_eqBool_tuple hu hkb hk ?_));refine wpAny_bind (wpAny_setState_of ho hd SA.tab.fits ?_);dsimp only;by_cases he:k'=ks
      ·subst he;rw [decide_eq_true rfl,if_pos (by decide)];exact wpAny_pure (h1 ⟨n,i,b,a1,a2,heL,hkb⟩)
      ·rw [decide_eq_false he,if_neg (by decide)];have hsm:t.sameMemory t.moves t.mask=some true:=by unfold SetTable.sameMemory; rw [if_pos (by simp)]
       rw [hsm];dsimp only;rw [if_pos rfl,a2];dsimp only;rw [hei];dsimp only;refine wpAny_bind (wpAny_isSame_ref_self ?_);rw [if_pos rfl];refine wpAny_bind (wpAny_pure ?_);dsimp only;rw [if_neg (by decide)];exact again he
    ·rw [if_neg (by decide)];rw [hei];dsimp only;refine wpAny_bind (wpAny_holding (wpAny_eqBool_tuple hu hkb hk ?_));refine wpAny_bind (wpAny_setState_of ho hd SA.tab.fits ?_);dsimp only;by_cases he:k'=ks
     ·subst he;rw [decide_eq_true rfl,if_pos (by decide)];exact wpAny_pure (h1 ⟨n,i,b,a1,a2,heL,hkb⟩)
     ·rw [decide_eq_false he,if_neg (by decide)];have hsm:t.sameMemory t.moves t.mask=some true:=by unfold SetTable.sameMemory; rw [if_pos (by simp)]
      rw [hsm];dsimp only;rw [if_pos rfl,a2];dsimp only;rw [hei];dsimp only;refine wpAny_bind (wpAny_isSame_ref_self ?_);rw [if_pos rfl];refine wpAny_bind (wpAny_pure ?_);dsimp only;rw [if_neg (by decide)];exact again he
   ·have e:=Option.some.inj (hmet.symm.trans a2);subst e;exact wpAny_pure (h2 fun n i a hn hs he hka=>a1 n i hn hs (by
     show (es[i]?.map (·.1)).getD 0=_;rw [← Array.getElem?_toList,he]; rfl))
  ·rename_i hmet;exfalso;rcases spec with ⟨n,i,a1,a2,a3,a4,a5⟩ | ⟨a1,a2⟩
   ·exact hmet _ a5
   ·exact hmet _ a2
open Classical in
noncomputable def dd (D:List (List JI)) (ks:List JI):List (List JI):=if ks∈D then D else D ++ [ks]
theorem TK.stay {h h':Heap} {S a:Addr} {o:Obj} {ks:List JI} {es:Array (Int×Value)} {ep:Nat} {t:SetTable} (hk:TK prog w h ks a) (ho:h.get? S=some o) (hd:o.data=.set es ep t) (hs:Heap.SameBut S h h'):TK prog w h' ks a:=by
 obtain ⟨o',items,n,ho',hc,hd',hi⟩:=hk;have hne:a≠S:=by
  rintro rfl;obtain rfl:o'=o:=Option.some.inj (ho'.symm.trans ho);rw [hd] at hd';exact nomatch hd'
 exact ⟨o',items,n,(hs.2 a hne).trans ho',hc,hd',hi⟩
theorem JoE {M:Model} {ks:List JI} {a:Addr} {Q:Bool→Shared→Prop} (hk:TK prog w s.heap ks a) (h:∀ b,Q b s):wpAny (model prog w) A (hashByValue 8 (.ref a)) Q E s:=by
 have hT:=hk.typeIs;obtain ⟨o,items,n,ho,hc,hd,hi⟩:=hk;unfold hashByValue;refine wpAny_bind (wpAny_specialOf hT F.slot_tuple_hash.lookup ?_);dsimp only;refine wpAny_bind (wpAny_seqItems ho hd ?_);refine wpAny_bind ?_;show wpAny _ _ (forIn items _ _) _ _ s;rw [← Array.forIn_toList];refine wpAny_forIn_list _ (fun rest r s'=>r=(none,())∧s'=s∧∀ v∈rest,carriedByValue v=true) _ ?_ ?_ _ _ ⟨rfl,rfl,hi.byValue⟩
 ·rintro v rest r s' ⟨hr,rfl,hall⟩;have hb:∃ b,hashByValue 7 v=pure b:=by
   have hv:=hall v List.mem_cons_self;cases v <;> first | exact ⟨_,rfl⟩ | (simp [carriedByValue] at hv; done)
  obtain ⟨b,eb⟩:=hb;rw [eb];refine wpAny_bind (wpAny_pure ?_);cases b with
  | true =>
   rw [if_neg (by decide)];exact wpAny_pure ⟨rfl,rfl,fun u hu'=>hall u (List.mem_cons_of_mem _ hu')⟩
  | false =>
   rw [if_pos (by decide)];exact wpAny_pure (wpAny_pure (h _))
 ·rintro r s' ⟨hr,rfl,_⟩;subst hr;exact wpAny_pure (h _)
theorem Jmy {S x:Addr} {ks:List JI} {o:Obj} {es es1:Array (Int×Value)} {ep:Nat} {t t1:SetTable} {D:List (List JI)} {Q:Bool→Shared→Prop} (ho:s.heap.get? S=some o) (hex:o.ExactSet) (hd:o.data=.set es ep t)
  (SA:Jdf prog w s.heap S es t D) (hk:TK prog w s.heap ks x) (hn:D.length < 64) (T1:Tab t1 es1) (hsz:es1.size=es.size + 1) (hmk:t1.mask=t.mask) (hmem:∀ e,e∈es1.toList↔e∈es.toList∨e=(hsh prog w ks,.ref x))
  (h:∀ b h' es' ep' t' o',Heap.SameBut S s.heap h'→h'.get? S=some o'→o'.ExactSet→o'.data=.set es' ep' t'→Jdf prog w h' S es' t' (D ++ [ks])→Q b { s with heap:=h' }) :
  wpAny (model prog w) A (do
   storeSet S es1 t1
   if (!false && t1.tooFull)=true then do
    setRelay S (grown (es.size + 1))
    pure true
   else pure true) Q E s:=by
 have hes:=SA.siz;have bound:∀ n,n≤1000→n≤sizeLine:=fun n hn=>by rw [sizeLine_eq]; omega
 have mk:∀ {h':Heap} {es':Array (Int×Value)} {t':SetTable},Heap.SameBut S s.heap h'→Tab t' es'→es'.size * 5 < t'.mask * 3→es'.size=es1.size→(∀ e,e∈es'.toList↔e∈es1.toList)→Jdf prog w h' S es' t' (D ++ [ks]):=fun {h' es' t'} hs T f z m=>by
  refine ⟨T,f,fun e he=>?_,fun k2 hk2=>?_,by rw [z,hsz,hes,List.length_append]; rfl⟩
  ·rcases (hmem e).mp ((m e).mp he) with q | q
   ·obtain ⟨k2,a1,a,a2,a3⟩:=SA.els e q;exact ⟨k2,List.mem_append_left _ a1,a,a2,a3.stay ho hd hs⟩
   ·exact ⟨ks,List.mem_append_right _ (List.mem_singleton.mpr rfl),x,q,hk.stay ho hd hs⟩
  ·rcases List.mem_append.mp hk2 with q | q
   ·obtain ⟨a,a1,a2⟩:=SA.all k2 q;exact ⟨a,(m _).mpr ((hmem _).mpr (.inl a1)),a2.stay ho hd hs⟩
   ·rw [List.mem_singleton.mp q];exact ⟨x,(m _).mpr ((hmem _).mpr (.inr rfl)),hk.stay ho hd hs⟩
 refine wpAny_bind (wpAny_storeSet_of ho hd ?_ (bound _ (by omega)));have hg:∀ {hh:Heap} {o:Obj} {es es':Array (Int×Value)} {ep:Nat} {t t':SetTable},hh.get? S=some o→o.data=.set es ep t→(hh.update S (Obj.putSet es' t')).get? S=some { o with data:=.set es' (ep + 1) t' }:=fun {hh o es es' ep t t'} ho hd=>by
  have z:=Heap.get?_update_self (Obj.putSet es' t') ho (by rw [putSet_of es' t' hd]; rfl);rw [putSet_of es' t' hd] at z;exact z
 have ho1:=hg (es':=es1) (t':=t1) ho hd;have hs1:=Heap.SameBut.update s.heap S (Obj.putSet es1 t1);have hfill:t1.fill=es1.size:=by unfold SetTable.fill; rw [T1.dum,T1.siz]; rfl
 by_cases hf:t1.tooFull=true
 ·rw [if_pos (by rw [hf]; rfl)];have hfull:=SA.full;unfold SetTable.tooFull at hf;rw [hfill,decide_eq_true_eq,hmk] at hf;obtain ⟨m',hm',hw,hcap⟩:∃ m',Msk m'∧sizeAbove (grown (es.size + 1))=m' + 1∧es1.size * 5 < m' * 3:=by
   rcases SA.tab.msk with e | e | e
   ·refine ⟨31,.inr (.inl rfl),?_,by omega⟩;have e4:es.size=4:=by omega
    rw [e4]; decide
   ·refine ⟨127,.inr (.inr rfl),?_,by omega⟩;have e4:es.size=18:=by omega
    rw [e4]; decide
   ·omega
  have hm127:m'≤127:=by rcases hm' with e | e | e <;> omega
  obtain ⟨t2,order,e2,T2,z2,m2,_⟩:=JpX hm' t1.finger (t1.movedTo m') t1.led t1.plain es1 (by omega);have erel:t1.relaid (es1.map (·.1)) (grown (es.size + 1))=some (t2,order):=by
   unfold SetTable.relaid;rw [hw];exact e2
  unfold setRelay;refine wpAny_bind (wpAny_bind (wpAny_setState_of (s:={ s with heap:=s.heap.update S (Obj.putSet es1 t1) }) ho1 rfl T1.fits ?_));dsimp only;rw [if_neg (by rw [hw]; exact Nat.not_lt.mpr (bound _ (by omega)))];refine wpAny_bind ?_;rw [erel];show wpAny _ _ (if ((order.filterMap (es1[·]?)).size != es1.size)=true then _ else _) _ _ _;rw [if_neg (by rw [z2]; simp)];refine wpAny_pure ?_;dsimp only;refine wpAny_storeSet_of (s:={ s with heap:=s.heap.update S (Obj.putSet es1 t1) }) ho1 rfl ?_ (bound _ (by omega));have hs2:=hs1.trans (Heap.SameBut.update (s.heap.update S (Obj.putSet es1 t1)) S (Obj.putSet (order.filterMap (es1[·]?)) t2));exact wpAny_pure (h _ _ _ _ _ _ hs2 (hg ho1 rfl) hex rfl (mk hs2 T2 (by rw [z2]; have:=T2.cap; omega) z2 m2))
 ·rw [if_neg (by simpa using hf)];refine wpAny_pure (h _ _ es1 _ t1 _ hs1 ho1 hex rfl (mk hs1 T1 ?_ rfl fun _=>Iff.rfl));unfold SetTable.tooFull at hf;rw [hfill,decide_eq_true_eq] at hf;omega
theorem JoM {S x:Addr} {ks:List JI} {o:Obj} {es:Array (Int×Value)} {ep:Nat} {t:SetTable} {D:List (List JI)} {Q:Bool→Shared→Prop} (hu:A.units < cLine) (ho:s.heap.get? S=some o) (hex:o.ExactSet) (hd:o.data=.set es ep t)
  (SA:Jdf prog w s.heap S es t D) (hk:TK prog w s.heap ks x) (hn:D.length < 64)
  (h:∀ b h' tk es' ep' t' o',Heap.SameBut S s.heap h'→h'.get? S=some o'→o'.ExactSet→o'.data=.set es' ep' t'→Jdf prog w h' S es' t' (dd D ks)→Q b { s with heap:=h',toks:=tk }) :
  wpAny (model prog w) A (setAdd S (.ref x)) Q E s:=by
 unfold setAdd;refine wpAny_holding (wpAny_bind (wpAny_pyHash_tuple hu hk ?_));unfold setAddHashed setAddHashedIn;refine wpAny_holding (wpAny_bind (wpAny_setState_of ho hd SA.tab.fits ?_));dsimp only;have hbs:byScan (.ref x) es=false:=rfl;rw [hbs,if_neg (by decide)];obtain ⟨k,hk1,hF⟩:=SA.tab.first (hsh prog w ks);have hm:t.mask≤127:=by rcases SA.tab.msk with e | e | e <;> omega
 have SA2:Jdf prog w ({ s with toks:=s.toks + (ks.length + 1) }:Shared).heap S es t D:=SA;refine wpAny_bind (Jko (s:={ s with toks:=s.toks + (ks.length + 1) }) hu ho hd SA2 hk k 100000 none (by unfold turns at hk1; omega) hk1 hF rfl ?_ ?_)
 ·rintro ⟨n,i,a,g1,g2,g3,g4⟩;dsimp only;have hin:ks∈D:=by
   obtain ⟨k2,hk2,b,e,hb⟩:=SA.els _ (List.mem_of_getElem? g3);have e6:a=b:=Value.ref.inj (congrArg (fun z=>z.2) e);subst e6;rw [IsTupleKey.inj g4 hb];exact hk2
  have e:dd D ks=D:=by unfold dd; exact if_pos hin
  exact wpAny_pure (h _ s.heap _ es ep t o (Heap.SameBut.refl S s.heap) ho hex hd (by rw [e]; exact SA))
 ·intro hno;dsimp only;have hnin:ks∉D:=fun hin=>by
   obtain ⟨a,ha,hka⟩:=SA.all ks hin;obtain ⟨i,hi⟩:=List.mem_iff_getElem?.mp ha;obtain ⟨n,hn1,hn2⟩:=SA.tab.met hF hi rfl;exact hno n i a hn1 hn2 hi hka
  have edd:dd D ks=D ++ [ks]:=by unfold dd; exact if_neg hnin
  refine wpAny_bind (wpAny_setState_of ho hd SA.tab.fits ?_);dsimp only;have hc:es.size + 1≤t.mask:=by
   have:=SA.full;rcases SA.tab.msk with e | e | e <;> omega
  have hmem:∀ (p:Nat) e,e∈(insertAt es p (hsh prog w ks,Value.ref x)).toList↔e∈es.toList∨e=(hsh prog w ks,.ref x):=fun p e=>by
   rw [(SetTable.insertAt_perm es p _).mem_iff,Array.toList_push,List.mem_append,List.mem_singleton]
  have hsz:∀ p:Nat,(insertAt es p (hsh prog w ks,Value.ref x)).size=es.size + 1:=fun p=>by
   rw [← Array.length_toList,(SetTable.insertAt_perm es p _).length_eq,Array.length_toList,Array.size_push]
  have fin:=fun (b:Bool)=>Jmy (prog:=prog) (w:=w) (A:=A) (E:=E) (s:={ s with toks:=s.toks + (ks.length + 1) }) (Q:=Q) ho hex hd SA2 hk hn (SA.tab.put (x:=.ref x) b hF hc) (hsz _) rfl (hmem _) fun b h' es' ep' t' o' a1 a2 a3 a4 a5=>h b h' _ es' ep' t' o' a1 a2 a3 a4 (by rw [edd]; exact a5)
  have ep2:=Jpd SA.tab (J8 t.mask k (Ym t.mask (hsh prog w ks))).j;have ep3:t.put (J8 t.mask k ((none:Option Probe).getD (t.probeStart (hsh prog w ks)))).j=_:=ep2;rw [ep3];dsimp only;by_cases hp:t.plain=true
  ·rw [if_pos hp];refine wpAny_bind (JoE (M:=model prog w) hk fun b=>?_);cases b with
   | true=>exact fin t.plain
   | false=>exact fin false
  ·rw [if_neg hp];refine wpAny_bind (wpAny_pure ?_);exact fin t.plain
end
end HS
set_option maxHeartbeats 3200000
namespace HS
open PySem PySem.SetTable L2
section
variable {prog:Program} {w:World} {A:Around} {E:Value→Shared→Prop} {s:Shared} {R:Result→Shared→Prop}
theorem JmN {S I l:Addr} {items:Array Value} (hh:A.in1.handled=none) (hlI:l≠I) (hSI:S≠I) (hSl:S≠l) (J:Nat→Heap→Prop)
  (hJ:∀ i j h h',J i h→h.IsListIter I l j→(∀ b o,b≠I→h.get? b=some o→h'.get? b=some o)→J i h')
  (hadd:∀ i v (s':Shared) (E':Value→Shared→Prop) (Q:Bool→Shared→Prop),items[i]?=some v→J i s'.heap→(∀ b h' tk,Heap.SameBut S s'.heap h'→J (i + 1) h'→Q b { s' with heap:=h',toks:=tk })→wpAny (model prog w) A.in1 (setAdd S v) Q E' s') :
  ∀ (k i:Nat) (h:Heap) (tk:Nat),items.size - i=k→i≤items.size→h.IsListIter I l i→h.IsList l items→J i h →
   (∀ h' tk',(∀ b o,b≠S→b≠I→h.get? b=some o→h'.get? b=some o)→J items.size h'→R (.ok (.ret .none)) { s with heap:=h',toks:=tk' }) →
   codeAny (model prog w) A (.builtin "set.update.loop" ⟨[.ref S,.ref I],[]⟩) R { s with heap:=h,toks:=tk }:=by
 have W:=Walks.list (prog:=prog) (w:=w) hh I l hlI items;intro k
 induction k with
 | zero =>
  intro i h tk e0 e1 it li j hR;obtain rfl:i=items.size:=by omega
  refine codeAny_builtin PyProof.Rows.F.entry_set_update_loop (by
   rw [Around.under_plainId PyProof.Rows.F.plain_set_update_loop _];show wpAny _ A.in1 (pyNext (.ref I) >>= _) _ _ _;refine wpAny_bind (W.done _ _ _ ⟨it,li⟩ fun h' tk' kk=>?_);exact wpAny_pure (hR h' tk' (fun b o _ hb e=>kk b o (by simpa using hb) e) (hJ _ _ _ _ j it fun b o hb e=>kk b o (by simpa using hb) e)))
 | succ k ih =>
  intro i h tk e0 e1 it li j hR;have hlt:i < items.size:=by omega
  refine codeAny_builtin PyProof.Rows.F.entry_set_update_loop (by
   rw [Around.under_plainId PyProof.Rows.F.plain_set_update_loop _];show wpAny _ A.in1 (pyNext (.ref I) >>= _) _ _ _;refine wpAny_bind (W.item i _ _ _ hlt ⟨it,li⟩ fun v h1 tk1 hv st1 kk=>?_);have j1:J i h1:=hJ _ _ _ _ j it fun b o hb e=>kk b o (by simpa using hb) e
   show wpAny _ A.in1 (holding [v] (setAdd S v) >>= _) _ _ _;refine wpAny_bind (wpAny_holding (hadd i v { s with heap:=h1,toks:=tk1 } _ _ hv j1 fun b h2 tk2 sb j2=>?_));have it2:h2.IsListIter I l (i + 1):=st1.1.at fun o e=>(sb.2 I (Ne.symm hSI)).trans e
   have li2:h2.IsList l items:=st1.2.at fun o e=>(sb.2 l (Ne.symm hSl)).trans e
   refine wpAny_pure ⟨plainId_quiet PyProof.Rows.F.plain_set_update_loop _,ih (i + 1) h2 tk2 (by omega) hlt it2 li2 j2 fun h3 tk3 keep j3=>hR h3 tk3 (fun b o hb hbI e=>keep b o hb hbI ((sb.2 b hb).trans (kk b o (by simpa using hbI) e))) j3⟩)
theorem Jfn {l:Addr} {items:Array Value} {Q:Value→Shared→Prop} (hh:A.handled=none) (hl:s.heap.IsList l items) (J:Addr→Nat→Heap→Prop)
  (h0:∀ (led:Bool) (h':Heap),h'.get? s.heap.objs.size=some { cls:=.type "set",dict:=none,data:=.set #[] 0 (.fresh 0 0 led) }→(∀ b o,s.heap.get? b=some o→h'.get? b=some o)→J s.heap.objs.size 0 h')
  (hJ:∀ S I i j h h',J S i h→h.IsListIter I l j→(∀ b o,b≠I→h.get? b=some o→h'.get? b=some o)→J S i h')
  (hadd:∀ S i v (A':Around) (s':Shared) (E':Value→Shared→Prop) (Q':Bool→Shared→Prop),A'.units≤A.units + 4→items[i]?=some v→J S i s'.heap→(∀ b h' tk,Heap.SameBut S s'.heap h'→J S (i + 1) h'→Q' b { s' with heap:=h',toks:=tk })→wpAny (model prog w) A' (setAdd S v) Q' E' s')
  (h:∀ (h':Heap) (tk:Nat),J s.heap.objs.size items.size h'→(∀ b o,b < s.heap.objs.size→s.heap.get? b=some o→h'.get? b=some o)→Q (.ref s.heap.objs.size) { s with heap:=h',toks:=tk }) :
  wpAny (model prog w) A (call (.type "set") [.ref l]) Q E s:=by
 obtain ⟨c,tl,hmro⟩:=F.called_set.mro;have made:=F.called_set.made;have sub:=F.called_set.sub;refine wpAny_call (codeAny_of_tree (wpAny_pure ⟨Code.quiet_builtin _ (by decide +kernel),codeAny_builtin F.entry_type_call ?_⟩));rw [Around.under_plain (weight_type_call_type "set" [.ref l] []) rfl];have n1:=F.called_set.notType;have n2:=F.called_set.canCreate;have n3:=F.typeCall_set_1 (.ref l)
 repeat (any_goals (first | assumption | wp_step))
 let fresh (led:Bool):Obj:={ cls:=.type "set",dict:=none,data:=.set #[] 0 (.fresh 0 0 led) }
 refine codeAny_mono (code_set_new_1 (.ref l) (E:=E) (Q₁:=fun obj s1=>∃ led,obj=.ref s.heap.objs.size∧s1={ s with heap:=s.heap.push (fresh led) }) fun led=>⟨led,rfl,rfl⟩) fun r s1 hr=>?_
 rcases r with e | f
 ·exact hr
 cases f with
 | ret obj =>
  obtain ⟨led,rfl,rfl⟩:=hr;have gS:(s.heap.push (fresh led)).get? s.heap.objs.size=some (fresh led):=Heap.get?_push_size _ rfl;have tS:Shared.TypeIs { s with heap:=s.heap.push (fresh led) } (.ref s.heap.objs.size) "set":=⟨_,gS,rfl⟩
  have i1:=F.called_set.init.lookup;have i2:=F.called_set.init.bind (.ref s.heap.objs.size)
  repeat (any_goals (first | assumption | wp_step))
  refine codeAny_mono (codeAny_call_builtin (R:=wants (fun r s2=>r=.none∧∃ h' tk,s2={ s with heap:=h',toks:=tk }∧J s.heap.objs.size items.size h'∧∀ b o,b < s.heap.objs.size→s.heap.get? b=some o→h'.get? b=some o) E)
   F.called_set.init.plain F.entry_set_init (check_set_init_1 tS ?_)) fun r2 s2 hr2=>?_
  ·obtain ⟨ol,gl,cl,nl,dl⟩:=hl;obtain ⟨k1,k2,k3,k4⟩:=ol;simp only at cl dl;subst cl dl;have gl1:(s.heap.push (fresh led)).get? l=some { cls:=.type "list",dict:=k2,data:=.seq items nl,slots:=k4 }:=Heap.get?_push_of_some _ gl;have z1:=F.sub_list_set;have z2:=F.sub_list_frozenset;have z3:(Value.type "list" == Value.type "dict")=false:=by decide
   have ll:(s.heap.push (fresh led)).IsList l items:=⟨_,gl1,rfl,nl,rfl⟩
   have lS:l < s.heap.objs.size:=Heap.lt_size gl;unfold Builtin.«set.__init__» noKeywords Builtin.Frozenset.updateFrom;generalize pe:pyIter=PI
   wp_walk
   subst pe;refine wpAny_pyIter_list ll (wpAny_bind (wpAny_runValue ?_));have szp:(s.heap.push (fresh led)).objs.size=s.heap.objs.size + 1:=Heap.size_push ..;refine JmN (s:={ s with heap:=s.heap.push (fresh led) }) (I:=(s.heap.push (fresh led)).objs.size) (l:=l) (items:=items) (by simp [hh]) (Nat.ne_of_lt (by rw [szp]; exact Nat.lt_succ_of_lt lS)) (Nat.ne_of_lt (by rw [szp]; exact Nat.lt_succ_self _)) (Nat.ne_of_gt lS) (J s.heap.objs.size) (fun i j h h'=>hJ _ _ i j h h')
    (fun i v s' E' Q' hv j q=>hadd _ i v _ s' E' Q' (by show A.units + 1 + 1 + 1≤A.units + 4; omega) hv j q) (items.size - 0) 0 _ _ rfl (Nat.zero_le _) ⟨_,Heap.get?_push_size _ rfl,rfl,rfl⟩ (ll.push _) ?_ ?_
   ·exact h0 led _ (Heap.get?_push_of_some _ gS) fun b o e=>Heap.get?_push_of_some _ (Heap.get?_push_of_some _ e)
   ·intro h' tk' keep j;refine wpAny_pure (wpAny_pure ⟨rfl,h',tk',rfl,j,fun b o hb e=>keep b o (Nat.ne_of_lt hb) (Nat.ne_of_lt (by rw [szp]; exact Nat.lt_succ_of_lt hb)) (Heap.get?_push_of_some _ (Heap.get?_push_of_some _ e))⟩)
  ·rcases r2 with e | f2
   ·exact hr2
   cases f2 with
   | ret r =>
    obtain ⟨rfl,h',tk,rfl,j,keep⟩:=hr2
    repeat (any_goals (first | assumption | wp_step))
    exact h _ _ j keep
   | _=>exact hr2.elim
 | _=>exact hr.elim
end
end HS
namespace L2
open PySem PySem.Spec PyProof.Rows HS
open Classical in
noncomputable def dg {α:Type} (D:List α) (x:α):List α:=if x∈D then D else D ++ [x]
theorem JkQ {α:Type} {D:List α} {x:α} (h:x∈D):dg D x=D:=by unfold dg; exact if_pos h
theorem Jgq {α:Type} {D:List α} {x:α} (h:¬ x∈D):dg D x=D ++ [x]:=by unfold dg; exact if_neg h
noncomputable def JeF {α:Type} (l:List α):List α:=l.foldl dg []
theorem Je8 {α:Type}:∀ (l D:List α),(l.foldl dg D).length≤D.length + l.length
 | [],D=>Nat.le_refl _
 | x :: l,D=>by
  rw [List.foldl_cons];have z:=Je8 l (dg D x);by_cases h:x∈D
  ·rw [JkQ h] at z ⊢; simp only [List.length_cons]; omega
  ·rw [Jgq h] at z ⊢; rw [List.length_append] at z; simp only [List.length_cons,List.length_nil] at z ⊢; omega
theorem Jj1 {α:Type} (l:List α):(JeF l).length≤l.length:=by have:=Je8 l []; simpa [JeF] using this
theorem Jgn {α:Type}:∀ (l D:List α),(D ++ l).Nodup→l.foldl dg D=D ++ l
 | [],D,_=>by simp
 | x :: l,D,h=>by
  have hx:¬ x∈D:=fun q=>by
   rw [List.nodup_append] at h;exact h.2.2 x q x (List.mem_cons_self ..) rfl
  rw [List.foldl_cons,Jgq hx,Jgn l (D ++ [x]) (by simpa using h)];simp
theorem Jgp {α:Type} {l:List α} (h:l.Nodup):(JeF l).length=l.length:=by unfold JeF; rw [Jgn l [] (by simpa using h)]; simp
theorem Jex {α:Type} {l:List α} {i:Nat} {x:α} (h:l[i]?=some x):(l.take (i + 1)).foldl dg []=dg ((l.take i).foldl dg []) x:=by
 rw [List.take_succ,h];simp
def szO (a:Addr) (n:Nat):HO:=.ext fun h=>∃ o es ep t,h.get? a=some o∧o.ExactSet∧o.data=.set es ep t∧t.fits es.size=true∧es.size=n∧n≤1000
theorem Jk7 {P:Program} {w:World} {H:Hp} {h:Heap} {a:Addr} {n:Nat} {o:Obj} {es:Array (Int×Value)} {ep:Nat} {t:SetTable} (h1:h.get? a=some o) (h2:o.ExactSet) (h3:o.data=.set es ep t) (h4:t.fits es.size=true) (h5:es.size=n) (h6:n≤1000) :
  Yd P w H h a (szO a n):=⟨⟨o,es,ep,t,h1,h2,h3,h4,h5,h6⟩,⟨o,h1⟩,fun g1 g2 ⟨o,es,ep,t,e1,r⟩ k=>⟨o,es,ep,t,k o e1,r⟩⟩
section
variable {X:Cx}
theorem JjD:Y9 X (.builtin "len") (fun xs H Q=>∃ a n,xs=[.ref a]∧H a=some (szO a n)∧Q (.int n) H):=by
 intro pins s σ H xs us Q I r h;obtain ⟨a,n,rfl,hn,q⟩:=h;obtain ⟨u,rfl,ru⟩:=Jz.one r;cases ru;obtain ⟨⟨o,es,ep,t,e1,e2,e3,e4,rfl,e6⟩,_⟩:=(show Yd X.prog X.w H s.heap a (szO a n) from I.hok a _ hn)
 exact call_len_set e1 e2 e3 e4 (by omega) ⟨.int es.size,H,(I.tok _).tok _,⟨_,rfl⟩,q⟩
theorem Jcz:∀ {vs:List V} {us:List Value} {i:Nat} {x:V},Jz vs us→vs[i]?=some x→∃ u,us[i]?=some u∧JF x u
 | _,_,i,x,.nil,h=>by simp at h
 | _,_,0,x,.cons r t,h=>by
  cases h;exact ⟨_,rfl,r⟩
 | _,_,i + 1,x,.cons r t,h=>Jcz (i:=i) t (by simpa using h)
def JdM (K:PySem.W.Frag) (H:Hp) (vs:List V) (kss:List (List JI)):Prop:=vs.length=kss.length∧∀ (i:Nat) v ks,vs[i]?=some v→kss[i]?=some ks→∃ a,v=.ref a∧JK K H a (ks.map kV)
theorem Ji3 {P:Program} {w:World}:∀ {ks:List JI} {us:List Value},Jz (ks.map kV) us→ItemsAre (J9 P w) ks us
 | [],_,r=>by cases r; exact .nil
 | k :: ks,_,r=>by
  cases r with
  | cons r rr=>exact .cons (Je5 r) (Ji3 rr)
theorem Jke {pins:List (Addr×Obj)} {σ:St} {H:Hp} {s:Shared} {a:Addr} {ks:List JI} (I:Jk X pins σ H s) (h:JK X.K H a (ks.map kV)):TK X.prog X.w s.heap ks a:=by
 obtain ⟨its,r,⟨o,e,c,n,d⟩,_⟩:=I.tuple h;exact ⟨o,its.toArray,n,e,c,d,by simpa using Ji3 r⟩
theorem JgH {prog:Program} {w:World} {h h':Heap} {ks:List JI} {a:Addr} (hk:TK prog w h ks a) (k:∀ o,h.get? a=some o→(∃ its n,o.data=.seq its n)→h'.get? a=some o):TK prog w h' ks a:=by
 obtain ⟨o,its,n,e,c,d,i⟩:=hk;exact ⟨o,its,n,k o e ⟨its,n,d⟩,c,d,i⟩
def JnK (K:PySem.W.Frag):List V→Hp→VK→Prop:=fun xs H Q=>∃ l vs kss,xs=[.ref l]∧Js K H l vs∧JdM K H vs kss∧kss.length≤64∧∀ p,H p=none→Q (.ref p) (upd H p (szO p (JeF kss).length))
theorem Jmc (hc:X.calm=true) (hu:X.A.units + 64 < cLine):Y9 X (.type "set") (JnK X.K):=by
 intro pins s σ H xs us Q I r h;obtain ⟨l,vs,kss,rfl,hl,⟨tl,tt⟩,hz,q⟩:=h;obtain ⟨u,rfl,ru⟩:=Jz.one r;cases ru;obtain ⟨its,rv,pl,_⟩:=I.list hl;have rlen:=rv.length;have at_:∀ (i:Nat) v,its.toArray[i]?=some v→∃ ks a,kss[i]?=some ks∧v=.ref a∧TK X.prog X.w s.heap ks a:=fun i v hv=>by
  have hi:i < its.length:=by
   have:=(Array.getElem?_eq_some_iff.mp hv).1;simpa using this
  obtain ⟨x,hx⟩:∃ x,vs[i]?=some x:=⟨vs[i],List.getElem?_eq_getElem (by omega)⟩
  obtain ⟨ks,hks⟩:∃ ks,kss[i]?=some ks:=⟨kss[i],List.getElem?_eq_getElem (by omega)⟩
  obtain ⟨a,rfl,ha⟩:=tt i x ks hx hks;obtain ⟨u,hu1,hu2⟩:=Jcz rv hx;have e:v=u:=by
   rw [List.getElem?_toArray] at hv;exact Option.some.inj (hv.symm.trans hu1)
  subst e;cases (show v=.ref a from hu2);exact ⟨ks,a,hks,rfl,Jke I ha⟩
 have hsz:its.toArray.size=kss.length:=by rw [List.size_toArray]; omega
 refine Jfn (J:=fun S i h'=>(∀ b o,b < s.heap.objs.size→s.heap.get? b=some o→(∃ its n,o.data=.seq its n)→h'.get? b=some o)∧∃ o es ep t,h'.get? S=some o∧o.ExactSet∧o.data=.set es ep t∧Jdf X.prog X.w h' S es t ((kss.take i).foldl dg []))
  (I.ok.hd hc) pl.isList ?_ ?_ ?_ ?_
 ·intro led h' g keep;refine ⟨fun b o _ e _=>keep b o e,_,#[],0,_,g,⟨rfl,rfl,rfl⟩,rfl,⟨.inl rfl,rfl,rfl,fun a b _ hb=>absurd hb (Nat.not_lt_zero _),fun j hj=>by simp [SetTable.fresh] at hj,Nat.zero_le _,fun z hz=>by simp [SetTable.fresh] at hz⟩,?_,fun e he=>by simp at he,fun ks hks=>?_,rfl⟩
  ·show 0 * 5 < 7 * 3
   decide
  ·rw [List.take_zero] at hks; exact nomatch hks
 ·rintro S Ia i j h1 h2 ⟨k1,o,es,ep,t,e1,e2,e3,SA⟩ ⟨oi,i1,i2,i3⟩ keep;have seq:∀ b o',h1.get? b=some o'→(∃ its n,o'.data=.seq its n)→h2.get? b=some o':=fun b o' e ⟨its,n,d⟩=>keep b o' (by
   rintro rfl;rw [i1] at e; cases e;rw [i3] at d; cases d) e
  refine ⟨fun b o' hb e d=>seq b o' (k1 b o' hb e d) d,o,es,ep,t,keep S o (by
   rintro rfl;rw [i1] at e1; cases e1;rw [i3] at e3; cases e3) e1,e2,e3,SA.tab,SA.full,fun e he=>?_,fun ks hks=>?_,SA.siz⟩
  ·obtain ⟨ks,a1,a,a2,a3⟩:=SA.els e he;exact ⟨ks,a1,a,a2,JgH a3 fun o' e' d=>seq _ _ e' d⟩
  ·obtain ⟨a,a1,a2⟩:=SA.all ks hks;exact ⟨a,a1,JgH a2 fun o' e' d=>seq _ _ e' d⟩
 ·rintro S i v A' s' E' Q' hA hv ⟨k1,o,es,ep,t,e1,e2,e3,SA⟩ hQ;obtain ⟨ks,a,hks,rfl,hk⟩:=at_ i v hv;have hk':TK X.prog X.w s'.heap ks a:=JgH hk fun o' e' d=>k1 a o' (Heap.lt_size e') e' d
  have hlt:((kss.take i).foldl dg []).length < 64:=by
   have z:=Je8 (kss.take i) [];have z2:=(List.getElem?_eq_some_iff.mp hks).1;rw [List.length_take] at z;simp only [List.length_nil] at z;omega
  refine JoM (by omega) e1 e2 e3 SA hk' hlt fun b h' tk es' ep' t' o' sb g1 g2 g3 g4=>hQ b h' tk sb ⟨fun b' o2 hb e d=>?_,o',es',ep',t',g1,g2,g3,?_⟩
  ·have z:=k1 b' o2 hb e d;have hne:b'≠S:=by
    rintro rfl;rw [e1] at z; cases z;obtain ⟨its,n,d⟩:=d;rw [e3] at d; cases d
   exact (sb.2 b' hne).trans z
  ·rw [Jex hks];have e:dg ((kss.take i).foldl dg []) ks=dd ((kss.take i).foldl dg []) ks:=by unfold dg dd; split <;> rfl
   rw [e];exact g4
 ·rintro h' tk ⟨_,o,es,ep,t,e1,e2,e3,SA⟩ keep;rw [hsz,List.take_length] at SA;have hf:H s.heap.objs.size=none:=I.hok.fresh (Nat.le_refl _);refine ⟨.ref s.heap.objs.size,_,I.laid (fun b u e=>keep b u (Heap.lt_size e) e) (Nat.le_refl _) (Jk7 e1 e2 e3 SA.tab.fits SA.siz ?_),rfl,q _ hf⟩;have:=Jj1 kss;show (JeF kss).length≤1000;omega
def JnL (K:PySem.W.Frag):List V→Hp→VK→Prop:=fun xs H Q=>∃ l ss,xs=[.ref l]∧Js K H l (ss.map V.str)∧ss.length≤64∧∀ p,H p=none→Q (.ref p) (upd H p (szO p (JeF ss).length))
theorem Jmd (hc:X.calm=true):Y9 X (.type "set") (JnL X.K):=by
 intro pins s σ H xs us Q I r h;obtain ⟨l,ss,rfl,hl,hz,q⟩:=h;obtain ⟨u,rfl,ru⟩:=Jz.one r;cases ru;obtain ⟨its,rv,pl,_⟩:=I.list hl;have rlen:=rv.length;rw [List.length_map] at rlen;have at_:∀ (i:Nat) v,its.toArray[i]?=some v→∃ x t,ss[i]?=some x∧v=.str x t:=fun i v hv=>by
  have hi:i < its.length:=by
   have:=(Array.getElem?_eq_some_iff.mp hv).1;simpa using this
  obtain ⟨x,hx⟩:∃ x,ss[i]?=some x:=⟨ss[i],List.getElem?_eq_getElem (by omega)⟩
  obtain ⟨u,hu1,hu2⟩:=Jcz (i:=i) (x:=.str x) rv (by rw [List.getElem?_map,hx]; rfl);have e:v=u:=by
   rw [List.getElem?_toArray] at hv;exact Option.some.inj (hv.symm.trans hu1)
  subst e;obtain ⟨t,e⟩:=hu2;exact ⟨x,t,hx,e⟩
 have hsz:its.toArray.size=ss.length:=by rw [List.size_toArray]; omega
 refine Jfn (J:=fun S i h'=>∃ f,h'.SetOf (J9 X.prog X.w) S f ((ss.take i).foldl dg []).length∧∀ x:Str,f (.inr x)=true↔x∈(ss.take i).foldl dg []) (I.ok.hd hc) pl.isList ?_ ?_ ?_ ?_
 ·intro led h' g keep;refine ⟨fun _=>false,⟨_,#[],0,_,g,⟨rfl,rfl,rfl⟩,rfl,fun e he=>by simp at he,fun k=>by simp,by decide,rfl,rfl⟩,fun x=>?_⟩;rw [List.take_zero];simp
 ·rintro S Ia i j h1 h2 ⟨f,⟨o,es,ep,t,e1,e2,e3,r⟩,hf⟩ ⟨oi,i1,i2,i3⟩ keep;refine ⟨f,⟨o,es,ep,t,keep S o ?_ e1,e2,e3,r⟩,hf⟩;rintro rfl;rw [i1] at e1; cases e1;rw [i3] at e3; cases e3
 ·rintro S i v A' s' E' Q' hA hv ⟨f,hS,hf⟩ hQ;obtain ⟨x,t,hx,rfl⟩:=at_ i v hv;have hlt:((ss.take i).foldl dg []).length + 1 < scanBound:=by
   have z:=Je8 (ss.take i) [];have z2:=(List.getElem?_eq_some_iff.mp hx).1;rw [List.length_take] at z;simp only [List.length_nil] at z;show _ + 1 < 4096;omega
  unfold setAdd;refine wpAny_holding (wpAny_bind ((J9 X.prog X.w).pyHash (JaU X.prog X.w x t) ?_));refine wpAny_setAddHashed_of (knd:=J9 X.prog X.w) (s:={ s' with toks:=s'.toks + 1 }) (JaU X.prog X.w x t) rfl hS hlt fun h' sb hS2=>?_
  refine hQ _ h' _ sb ⟨fun k'=>f k' || decide (k'=.inr x),?_,?_⟩
  ·rw [Jex hx];by_cases hin:x∈(ss.take i).foldl dg []
   ·rw [JkQ hin];have e:=(hf x).mpr hin;rw [if_pos e] at hS2;exact hS2
   ·rw [Jgq hin];have e:¬ f (.inr x)=true:=fun w=>hin ((hf x).mp w)
    rw [if_neg e] at hS2;rw [List.length_append];exact hS2
  ·intro y;rw [Jex hx,Bool.or_eq_true,hf y,decide_eq_true_eq];by_cases hin:x∈(ss.take i).foldl dg []
   ·rw [JkQ hin];exact ⟨fun z=>z.elim id fun e=>(Sum.inr.inj e) ▸ hin,.inl⟩
   ·rw [Jgq hin,List.mem_append,List.mem_singleton];exact ⟨fun z=>z.imp id fun e=>Sum.inr.inj e,fun z=>z.imp id fun e=>by rw [e]⟩
 ·rintro h' tk ⟨f,⟨o,es,ep,t,e1,e2,e3,_,_,_,e7,e8⟩,hf⟩ keep;rw [hsz,List.take_length] at e8;have hfr:H s.heap.objs.size=none:=I.hok.fresh (Nat.le_refl _);refine ⟨.ref s.heap.objs.size,_,I.laid (fun b u e=>keep b u (Heap.lt_size e) e) (Nat.le_refl _) (Jk7 e1 e2 e3 e7 e8 ?_),rfl,q _ hfr⟩;have:=Jj1 ss;show (JeF ss).length≤1000;omega
def JpZ (K:PySem.W.Frag):List V→Hp→VK→Prop:=fun xs H Q=>JnL K xs H Q∨JnK K xs H Q
theorem Jme (hc:X.calm=true) (hu:X.A.units + 64 < cLine):Y9 X (.type "set") (JpZ X.K):=by
 intro pins s σ H xs us Q I r h;rcases h with h | h
 ·exact Jmd hc pins s σ H xs us Q I r h
 ·exact Jmc hc hu pins s σ H xs us Q I r h
end
end L2
namespace KS
open PySem PySem.W PyProof.Rows
section
variable {O:KeyOrd} {key:Nat→O.α} {n:Nat}
def Ok (O:KeyOrd) (key:Nat→O.α) (n:Nat) {α:Type} (Post:α→Prop):KasT α→Prop
 | .ret a=>Post a
 | .ask i j k=>i < n∧j < n∧Ok O key n Post (k (O.blt (key i) (key j)))
theorem Ok.bind {α β:Type} {Post:β→Prop} {f:α→KasT β}:∀ {t:KasT α},Ok O key n (fun a=>Ok O key n Post (f a)) t→Ok O key n Post (t.bind f)
 | .ret _,h=>h
 | .ask _ _ _,h=>⟨h.1,h.2.1,Ok.bind h.2.2⟩
theorem Ok.wp {α:Type} {Post:α→Prop} {cmp:Nat→Nat→(Bool→Shared→Prop)→Shared→Prop} {Q:α→Shared→Prop} {s:Shared} (hc:∀ i j C,i < n→j < n→C (O.blt (key i) (key j)) s→cmp i j C s) (hq:∀ a,Post a→Q a s):∀ {t:KasT α},Ok O key n Post t→t.kasWp cmp Q s
 | .ret _,h=>hq _ h
 | .ask i j k,h=>hc i j _ h.1 h.2.1 (Ok.wp hc hq h.2.2)
def Pm (n:Nat) (p:Array Nat):Prop:=p.Perm (List.toArray (List.range n))
theorem Pm.size {p:Array Nat} (h:Pm n p):p.size=n:=by rw [Array.Perm.size_eq h]; simp
theorem Pm.lt {p:Array Nat} (h:Pm n p) (h0:0 < n) (i:Nat):p.getD i 0 < n:=by
 by_cases hi:i < p.size
 ·have hm:p[i]∈p:=Array.getElem_mem hi;have hm2:p[i]∈List.toArray (List.range n):=h.mem_iff.mp hm;rw [List.mem_toArray,List.mem_range] at hm2;simpa [Array.getD,hi] using hm2
 ·simpa [Array.getD,hi] using h0
def Kp (key:Nat→O.α) (p:Array Nat) (i:Nat):O.α:=key (p.getD i 0)
def Srt (O:KeyOrd) (key:Nat→O.α) (p:Array Nat) (m:Nat):Prop:=∀ i j,i≤j→j < m→O.kle (Kp key p i) (Kp key p j)
def Fal (O:KeyOrd) (key:Nat→O.α) (p:Array Nat) (m:Nat):Prop:=∀ i j,i≤j→j < m→O.kle (Kp key p j) (Kp key p i)
theorem JdJ {p q:Array Nat} {i j:Nat} (h:p[i]?=q[j]?):p.getD i 0=q.getD j 0:=by rw [Array.getD_eq_getD_getElem?,Array.getD_eq_getD_getElem?,h]
theorem Jga {p:Array Nat} {i j:Nat} (hj:j≤p.size) (k:Nat):Kp key (kas_rev p i j) k=if i≤k∧k < j then Kp key p (i + j - 1 - k) else Kp key p k:=by
 have e:=getElem?_mirror_all (i:=i) hj k;unfold Kp kas_rev;split
 ·rename_i h;rw [if_pos h] at e;rw [JdJ e]
 ·rename_i h;rw [if_neg h] at e;rw [JdJ e]
theorem Jeg {p:Array Nat} (i j:Nat) (h:Pm n p):Pm n (kas_rev p i j):=(mirror_perm p i j _).trans h
theorem Jpz {p:Array Nat} {s d:Nat} (hs:s < p.size) (hd:d≤s) (k:Nat):Kp key (bubble p s d) k=if k=s - d then Kp key p s else if s - d < k∧k≤s then Kp key p (k - 1) else Kp key p k:=by
 have e:=getElem?_bubble hs d hd k;unfold Kp;by_cases h1:k=s - d
 ·rw [if_pos h1] at e ⊢; rw [JdJ e]
 ·rw [if_neg h1] at e ⊢;by_cases h2:s - d < k∧k≤s
  ·rw [if_pos h2] at e ⊢; rw [JdJ e]
  ·rw [if_neg h2] at e ⊢; rw [JdJ e]
theorem nlt {a b:O.α} (h:¬ O.blt a b=true):O.kle b a:=by
 show O.blt a b=false;simpa using h
theorem Jjl {Post:Nat→Prop} {p:Array Nat} (hp:Pm n p) (h0:0 < n):∀ (f a:Nat),1≤a→Srt O key p a→(∀ m,a≤m→m≤a + f→Srt O key p m→(m < a + f→O.klt (Kp key p m) (Kp key p (m - 1)))→Post m)→Ok O key n Post (kas_asc p f a)
 | 0,a,h1,hs,hq=>hq a (Nat.le_refl _) (Nat.le_refl _) hs fun h=>absurd h (Nat.lt_irrefl _)
 | f + 1,a,h1,hs,hq=>by
  refine ⟨hp.lt h0 _,hp.lt h0 _,?_⟩;dsimp only;by_cases hc:O.blt (key (p.getD a 0)) (key (p.getD (a - 1) 0))=true
  ·rw [if_pos hc];exact hq a (Nat.le_refl _) (by omega) hs fun _=>hc
  ·rw [if_neg hc];have hle:O.kle (Kp key p (a - 1)) (Kp key p a):=nlt hc;refine Jjl hp h0 f (a + 1) (by omega) (fun i j hij hj=>?_) fun m g1 g2 g3 g4=>hq m (by omega) (by omega) g3 fun h=>g4 (by omega)
   by_cases hja:j < a
   ·exact hs i j hij hja
   ·obtain rfl:j=a:=by omega
    by_cases hia:i=j
    ·subst hia; exact O.kle_refl _
    ·exact O.kle_trans (hs i (j - 1) (by omega) (by omega)) hle
def Dsc (O:KeyOrd) (key:Nat→O.α) (p:Array Nat) (a q:Nat):Prop:=q + 1≤a∧Fal O key p a∧∀ i,a - (q + 1)≤i→i < a→O.kle (Kp key p i) (Kp key p (a - 1))
theorem Dsc.rev {p:Array Nat} {a q:Nat} (ha:a≤p.size) (h:Dsc O key p a q):(∀ k,Kp key (kas_rev p (a - (q + 1)) a) k=Kp key p k):=by
 obtain ⟨h1,h2,h3⟩:=h;have same:∀ i,a - (q + 1)≤i→i < a→Kp key p i=Kp key p (a - 1):=fun i g1 g2=>O.kle_antisymm (h3 i g1 g2) (h2 i (a - 1) (by omega) (by omega))
 intro k;rw [Jga ha];split
 ·rename_i h;rw [same _ (by omega) (by omega),same k h.1 h.2]
 ·rfl
theorem Dsc.congr {p p':Array Nat} {a q:Nat} (h:Dsc O key p a q) (e:∀ k,Kp key p' k=Kp key p k):Dsc O key p' a q :=
 ⟨h.1,fun i j hij hj=>by rw [e,e]; exact h.2.1 i j hij hj,fun i g1 g2=>by rw [e,e]; exact h.2.2 i g1 g2⟩
theorem Dsc.next {p:Array Nat} {a q:Nat} (h:Dsc O key p a q) (hlt:O.klt (Kp key p a) (Kp key p (a - 1))):Dsc O key p (a + 1) 0:=by
 refine ⟨by omega,fun i j hij hj=>?_,fun i g1 g2=>?_⟩
 ·by_cases hja:j < a
  ·exact h.2.1 i j hij hja
  ·obtain rfl:j=a:=by omega
   by_cases hia:i=j
   ·subst hia; exact O.kle_refl _
   ·have:=h.1;exact O.kle_trans (O.kle_of_klt hlt) (h.2.1 i (j - 1) (by omega) (by omega))
 ·obtain rfl:i=a:=by omega
  exact O.kle_refl _
theorem Dsc.same {p:Array Nat} {a q:Nat} (h:Dsc O key p a q) (e:Kp key p a=Kp key p (a - 1)):Dsc O key p (a + 1) (q + 1):=by
 have h1:=h.1;refine ⟨by omega,fun i j hij hj=>?_,fun i g1 g2=>?_⟩
 ·by_cases hja:j < a
  ·exact h.2.1 i j hij hja
  ·obtain rfl:j=a:=by omega
   by_cases hia:i=j
   ·subst hia; exact O.kle_refl _
   ·rw [e];exact h.2.1 i (j - 1) (by omega) (by omega)
 ·show O.kle (Kp key p i) (Kp key p (a + 1 - 1));rw [Nat.add_sub_cancel,e];by_cases hia:i=a
  ·subst hia; rw [e]; exact O.kle_refl _
  ·exact h.2.2 i (by omega) (by omega)
theorem Je9 {Post:Array Nat×Nat×Nat→Prop} (h0:0 < n):∀ (f:Nat) (p:Array Nat) (a q:Nat),Pm n p→a + f≤n→Dsc O key p a q→(∀ p' a' q',Pm n p'→a≤a'→a'≤a + f→Dsc O key p' a' q'→Post (p',a',q'))→Ok O key n Post (kas_desc f p a q)
 | 0,p,a,q,hp,hn,hd,hq=>hq p a q hp (Nat.le_refl _) (Nat.le_refl _) hd
 | f + 1,p,a,q,hp,hn,hd,hq=>by
  have hz:=hp.size;refine ⟨hp.lt h0 _,hp.lt h0 _,?_⟩;dsimp only;by_cases hc:O.blt (key (p.getD a 0)) (key (p.getD (a - 1) 0))=true
  ·rw [if_pos hc];have hd2:=hd.next hc;by_cases hq0:q > 0
   ·rw [if_pos hq0];have e:=hd.rev (by omega);exact Je9 h0 f _ (a + 1) 0 (Jeg _ _ hp) (by omega) (hd2.congr e) fun p' a' q' g1 g2 g3 g4=>hq p' a' q' g1 (by omega) (by omega) g4
   ·rw [if_neg hq0];exact Je9 h0 f p (a + 1) 0 hp (by omega) hd2 fun p' a' q' g1 g2 g3 g4=>hq p' a' q' g1 (by omega) (by omega) g4
  ·rw [if_neg hc];refine ⟨hp.lt h0 _,hp.lt h0 _,?_⟩;dsimp only;by_cases hc2:O.blt (key (p.getD (a - 1) 0)) (key (p.getD a 0))=true
   ·rw [if_pos hc2];exact hq p a q hp (Nat.le_refl _) (by omega) hd
   ·rw [if_neg hc2];have e:Kp key p a=Kp key p (a - 1):=O.kle_antisymm (nlt hc2) (nlt hc);exact Je9 h0 f p (a + 1) (q + 1) hp (by omega) (hd.same e) fun p' a' q' g1 g2 g3 g4=>hq p' a' q' g1 (by omega) (by omega) g4
theorem Jij {Post:Nat×Array Nat→Prop} (h0:0 < n) {a nrem:Nat} {p:Array Nat} (hp:Pm n p) (h1:1≤a) (ha:a≤nrem) (hn:nrem≤n) (hf:Fal O key p a) (hq:∀ m p',Pm n p'→1≤m→m≤nrem→Srt O key p' m→Post (m,p')):Ok O key n Post (kas_tail3 a nrem p):=by
 have hz:=hp.size;unfold kas_tail3;refine Ok.bind (Jjl (Jeg 0 a hp) h0 (nrem - a) a h1 (fun i j hij hj=>?_) fun m g1 g2 g3 _=>hq m _ (Jeg 0 a hp) (by omega) (by omega) g3);rw [Jga (by omega),Jga (by omega),if_pos ⟨Nat.zero_le _,by omega⟩,if_pos ⟨Nat.zero_le _,hj⟩];exact hf _ _ (by omega) (by omega)
theorem Jfl {Post:Nat×Array Nat→Prop} (h0:0 < n) {a nrem:Nat} {p:Array Nat} (hp:Pm n p) (h1:1≤a) (ha:a + 1≤nrem) (hn:nrem≤n) (hf:Fal O key p a) (hlt:O.klt (Kp key p a) (Kp key p (a - 1))) (hq:∀ m p',Pm n p'→1≤m→m≤nrem→Srt O key p' m→Post (m,p')) :
  Ok O key n Post (kas_descPart a nrem p):=by
 have hd:Dsc O key p a 0:=⟨h1,hf,fun i g1 g2=>by
  obtain rfl:i=a - 1:=by omega
  exact O.kle_refl _⟩
 unfold kas_descPart;refine Ok.bind (Je9 h0 _ p (a + 1) 0 hp (by omega) (hd.next hlt) fun p' a' q' g1 g2 g3 g4=>?_);have hz:=g1.size;dsimp only;split
 ·refine Jij h0 (Jeg _ _ g1) (by omega) (by omega) hn (fun i j hij hj=>?_) hq;rw [g4.rev (by omega),g4.rev (by omega)];exact g4.2.1 i j hij hj
 ·exact Jij h0 g1 (by omega) (by omega) hn g4.2.1 hq
theorem Jns {Post:Nat×Array Nat→Prop} (h0:0 < n) {p:Array Nat} (hp:Pm n p) (hq:∀ m p',Pm n p'→1≤m→m≤n→Srt O key p' m→Post (m,p')):Ok O key n Post (kas_count n p):=by
 have hz:=hp.size;unfold kas_count;refine Ok.bind (Jjl hp h0 (n - 1) 1 (Nat.le_refl _) (fun i j hij hj=>?_) fun m g1 g2 g3 g4=>?_)
 ·obtain rfl:i=j:=by omega
  exact O.kle_refl _
 ·by_cases hm:(m == n)=true
  ·rw [if_pos hm];exact hq m p hp g1 (by omega) g3
  ·rw [if_neg hm];have hmn:m≠n:=fun e=>hm (by simp [e])
   have hlt:=g4 (by omega);by_cases hm1:m > 1
   ·rw [if_pos hm1];refine ⟨hp.lt h0 _,hp.lt h0 _,?_⟩;dsimp only;by_cases hc:O.blt (key (p.getD 0 0)) (key (p.getD (m - 1) 0))=true
    ·rw [if_pos hc];exact hq m p hp g1 (by omega) g3
    ·rw [if_neg hc];have all:∀ i,i < m→Kp key p i=Kp key p (m - 1):=fun i hi=>by
      refine O.kle_antisymm (g3 i (m - 1) (by omega) (by omega)) ?_;exact O.kle_trans (nlt hc) (g3 0 i (Nat.zero_le _) hi)
     have e:∀ k,Kp key (kas_rev p 0 m) k=Kp key p k:=fun k=>by
      rw [Jga (by omega)];split
      ·rename_i h;rw [all _ (by omega),all k h.2]
      ·rfl
     refine Jfl h0 (Jeg 0 m hp) g1 (by omega) (Nat.le_refl _) (fun i j hij hj=>?_) (by rw [e,e]; exact hlt) hq;rw [e,e,all i (by omega),all j hj];exact O.kle_refl _
   ·rw [if_neg hm1];refine Jfl h0 hp g1 (by omega) (Nat.le_refl _) (fun i j hij hj=>?_) hlt hq;obtain rfl:i=j:=by omega
    exact O.kle_refl _
theorem Jfx {Post:Nat→Prop} (h0:0 < n) {p:Array Nat} (hp:Pm n p) {k:Nat} (hs:Srt O key p k):∀ (f l r:Nat),l≤r→r≤k→r - l≤f→(∀ i,i < l→O.kle (Kp key p i) (Kp key p k))→(∀ i,r≤i→i < k→O.klt (Kp key p k) (Kp key p i)) →
  (∀ m,m≤k→(∀ i,i < m→O.kle (Kp key p i) (Kp key p k))→(∀ i,m≤i→i < k→O.klt (Kp key p k) (Kp key p i))→Post m)→Ok O key n Post (kas_place p k f l r)
 | 0,l,r,h1,h2,h3,h4,h5,hq=>by
  obtain rfl:l=r:=by omega
  exact hq l h2 h4 h5
 | f + 1,l,r,h1,h2,h3,h4,h5,hq=>by
  unfold kas_place;by_cases hlr:l≥r
  ·rw [if_pos hlr];obtain rfl:l=r:=by omega
   exact hq l h2 h4 h5
  ·rw [if_neg hlr];refine ⟨hp.lt h0 _,hp.lt h0 _,?_⟩;dsimp only;by_cases hc:O.blt (key (p.getD k 0)) (key (p.getD ((l + r) / 2) 0))=true
   ·rw [if_pos hc];refine Jfx h0 hp hs f l _ (by omega) (by omega) (by omega) h4 (fun i g1 g2=>?_) hq;exact O.klt_of_klt_of_kle hc (hs ((l + r) / 2) i g1 g2)
   ·rw [if_neg hc];refine Jfx h0 hp hs f _ r (by omega) h2 (by omega) (fun i g=>?_) h5 hq;exact O.kle_trans (hs i ((l + r) / 2) (by omega) (by omega)) (nlt hc)
theorem Jml {Post:Array Nat→Prop} (h0:0 < n):∀ (f:Nat) (p:Array Nat) (k:Nat),Pm n p→k + f=n→Srt O key p k→(∀ p',Pm n p'→Srt O key p' n→Post p')→Ok O key n Post (kas_bin f p k)
 | 0,p,k,hp,hk,hs,hq=>hq p hp (by rw [← hk]; exact hs)
 | f + 1,p,k,hp,hk,hs,hq=>by
  have hz:=hp.size;unfold kas_bin;refine Ok.bind (Jfx h0 hp hs k 0 k (Nat.zero_le _) (Nat.le_refl _) (by omega) (fun i g=>absurd g (Nat.not_lt_zero _)) (fun i g1 g2=>by omega) fun m g1 g2 g3=>?_);have e:∀ i,Kp key (bubble p k (k - m)) i=if i=m then Kp key p k else if m < i∧i≤k then Kp key p (i - 1) else Kp key p i:=fun i=>by
   have z:=Jpz (key:=key) (p:=p) (s:=k) (d:=k - m) (by omega) (by omega) i;rw [show k - (k - m)=m by omega] at z;exact z
  refine Jml h0 f _ (k + 1) ((bubble_perm p k (k - m)).trans hp) (by omega) (fun i j hij hj=>?_) hq;rw [e,e];rcases Nat.lt_trichotomy i m with a | a | a
  ·rw [if_neg (by omega),if_neg (by omega)];rcases Nat.lt_trichotomy j m with b | b | b
   ·rw [if_neg (by omega),if_neg (by omega)];exact hs i j hij (by omega)
   ·rw [if_pos b];exact g2 i a
   ·rw [if_neg (by omega),if_pos ⟨b,by omega⟩];exact hs i (j - 1) (by omega) (by omega)
  ·rw [if_pos a];by_cases b:j=m
   ·rw [if_pos b]; exact O.kle_refl _
   ·rw [if_neg b,if_pos ⟨by omega,by omega⟩];exact O.kle_of_klt (g3 (j - 1) (by omega) (by omega))
  ·rw [if_neg (by omega),if_pos ⟨a,by omega⟩,if_neg (by omega),if_pos ⟨by omega,by omega⟩];exact hs (i - 1) (j - 1) (by omega) (by omega)
theorem Joe {Post:Array Nat→Prop} (h0:0 < n) (hq:∀ p,Pm n p→Srt O key p n→Post p):Ok O key n Post (kas_sort n):=by
 unfold kas_sort;refine Ok.bind (Jns h0 (Array.Perm.refl _) fun m p g1 g2 g3 g4=>?_);dsimp only;split
 ·rename_i h;have e:max m 1=m:=by omega
  rw [e];exact Jml h0 (n - m) p m g1 (by omega) g4 hq
 ·obtain rfl:m=n:=by omega
  exact hq p g1 g4
end
end KS
namespace KS
open PySem PySem.W PyProof.Rows
def YT:KeyOrd where
 α:=List Nat×List Nat
 blt a b:=if a.1=b.1 then decide (a.2 < b.2) else decide (a.1 < b.1)
 irrefl a:=by rw [if_pos rfl]; exact strKind.irrefl a.2
 trans a b c h1 h2:=by
  by_cases e1:a.1=b.1
  ·rw [if_pos e1] at h1;by_cases e2:b.1=c.1
   ·rw [if_pos e2] at h2;rw [if_pos (e1.trans e2)];exact strKind.trans _ _ _ h1 h2
   ·rw [if_neg e2] at h2;rw [if_neg (fun e=>e2 (e1.symm.trans e)),e1];exact h2
  ·rw [if_neg e1] at h1;by_cases e2:b.1=c.1
   ·rw [if_pos e2] at h2;rw [if_neg (fun e=>e1 (e.trans e2.symm)),← e2];exact h1
   ·rw [if_neg e2] at h2;have h3:=strKind.trans _ _ _ h1 h2;have hne:¬ a.1=c.1:=fun e=>by
     rw [e] at h3;have:=strKind.irrefl c.1;rw [this] at h3;cases h3
    rw [if_neg hne];exact h3
 negTrans a b c h:=by
  by_cases e1:a.1=b.1
  ·by_cases e2:b.1=c.1
   ·rw [if_pos (e1.trans e2)] at h;rw [if_pos e1,if_pos e2];exact strKind.negTrans _ _ _ h
   ·rw [if_neg (fun e=>e2 (e1.symm.trans e))] at h;rw [if_neg e2,← e1];exact .inr h
  ·by_cases e2:b.1=c.1
   ·rw [if_neg (fun e=>e1 (e.trans e2.symm))] at h;rw [if_neg e1,e2];exact .inl h
   ·rw [if_neg e1,if_neg e2];by_cases e3:a.1=c.1
    ·rw [if_pos e3] at h;cases h4:decide (a.1 < b.1) with
     | true=>exact .inl rfl
     | false =>
      refine .inr ?_;cases h5:decide (b.1 < c.1) with
      | true=>rfl
      | false =>
       rw [← e3] at h5;exact absurd (strKind.total _ _ h4 h5) e1
    ·rw [if_neg e3] at h;exact strKind.negTrans _ _ _ h
 total a b h1 h2:=by
  by_cases e:a.1=b.1
  ·rw [if_pos e] at h1;rw [if_pos e.symm] at h2;exact Prod.ext e (strKind.total _ _ h1 h2)
  ·rw [if_neg e] at h1;rw [if_neg (fun q=>e q.symm)] at h2;exact absurd (strKind.total _ _ h1 h2) e
section
variable {prog:Program} {w:World} {A:Around} {E:Value→Shared→Prop} {s:Shared}
def Jc4 (h:Heap) (a:Addr) (x y:Str):Prop:=∃ o n t u,h.get? a=some o∧o.cls=.type "tuple"∧o.data=.seq #[.str x t,.str y u] n
def pk (x:Str×Str):YT.α:=(x.1.cps.toList,x.2.cps.toList)
theorem Jj6 {x y:Str} (h:x.cps.toList=y.cps.toList):x=y:=by
 cases x; cases y;congr 1;exact Array.toList_inj.mp h
theorem Jj0 {x y:Str} {t u:Tok} {Q:Bool→Shared→Prop} (h:Q (decide (x=y)) s):wpAny (model prog w) A (eqBool (.str x t) (.str y u)) Q E s:=by
 refine (L2.J9 prog w).eqBool (L2.JaU prog w x t) (L2.JaU prog w y u) ?_;rw [L2.JlQ];exact h
theorem Jnv {a b:Addr} {p q:Str×Str} {Q:Bool→Shared→Prop} (ha:Jc4 s.heap a p.1 p.2) (hb:Jc4 s.heap b q.1 q.2) (h:Q (YT.blt (pk p) (pk q)) s):wpAny (model prog w) A (keyLt' (tuples' true) (.ref a) (.ref b)) Q E s:=by
 obtain ⟨o,n,t,u,h1,_,h3⟩:=ha;obtain ⟨o',n',t',u',g1,_,g3⟩:=hb;refine kat_lt h1 h3 g1 g3 (kat_cons (Jj0 (kat_go (fun e=>?_) (fun e=>?_))))
 ·have e1:p.1=q.1:=of_decide_eq_true e;refine kat_yes (kat_cons (Jj0 (kat_go (fun e=>?_) (fun e=>?_))))
  ·have e2:p.2=q.2:=of_decide_eq_true e;refine kat_yes (kat_nil ?_);have hf:YT.blt (pk p) (pk q)=false:=by
    have:pk p=pk q:=by unfold pk; rw [e1,e2]
    rw [this];exact YT.irrefl _
   rw [hf] at h;exact h
  ·refine kat_no (kat_one _ _ ?_);have hf:YT.blt (pk p) (pk q)=decide (p.2.cps.toList < q.2.cps.toList):=by
    show (if p.1.cps.toList=q.1.cps.toList then _ else _)=_;rw [if_pos (by rw [e1])];rfl
   rw [hf] at h;exact PySem.P.lt_str h
 ·have e1:¬ p.1=q.1:=of_decide_eq_false e;refine kat_no ?_;have hf:YT.blt (pk p) (pk q)=decide (p.1.cps.toList < q.1.cps.toList):=by
   show (if p.1.cps.toList=q.1.cps.toList then _ else _)=_;rw [if_neg (fun z=>e1 (Jj6 z))];rfl
  rw [hf] at h;exact oneLt_str h
def dfl:Str×Str:=(Str.empty,Str.empty)
def ky (ps:List (Str×Str)) (i:Nat):YT.α:=pk (ps.getD i dfl)
def Jac (vs:List Value) (p:Array Nat):Array Value:=List.toArray (p.toList.map fun i=>vs.getD i Value.none)
theorem JiD (n:Nat):Pm n (List.toArray (List.range n)):=Array.Perm.refl _
theorem Jlx (vs:List Value):Jac vs (List.toArray (List.range vs.length))=vs.toArray:=by
 unfold Jac;congr 1;apply List.ext_getElem?;intro i;rw [List.getElem?_map];by_cases hi:i < vs.length
 ·simp [hi]
 ·simp [hi]
theorem Jll {a:Addr} {vs:List Value} {ps:List (Str×Str)} {n:Nat} {P:PySem.Fin→Shared→Prop} (ho:s.heap.get? a=some (seqObj "list" vs.toArray n)) (hlen:vs.length=ps.length) (h64:vs.length < 64)
  (hp:∀ (i:Nat) v p,vs[i]?=some v→ps[i]?=some p→∃ b,b≠a∧v=.ref b∧Jc4 s.heap b p.1 p.2)
  (h:∀ p:Array Nat,Pm vs.length p→Srt YT (ky ps) p vs.length→P (.done (.ret .none)) { s with heap:=sortedHeap s.heap a vs (Jac vs p) }) :
  wpAny (model prog w) A (Builtin.«list.sort» ⟨[.ref a],[]⟩) P E s:=by
 have hlt:a < s.heap.objs.size:=Heap.lt_size ho;obtain ⟨e1,g1⟩:∃ e1,(s.heap.update a (Obj.mapSeq fun _=>#[])).get? a=some (seqObj "list" #[] e1):=⟨_,get?_update_seq ho fun _=>#[]⟩
 have big:vs.length≤sizeLine:=by rw [sizeLine_eq]; omega
 rw [list_sort_plain];refine wpAny_bind (listItems_at ho rfl (wpAny_bind (listUpdate_at ho rfl (wpAny_bind (seqEpoch_at g1 rfl (wpAny_bind (wpAny_newTuple (wpAny_bind (wpAny_newList (wpAny_holding ?_))) (by simpa using big))))) (by simpa using big))));generalize hh6:(((s.heap.update a (Obj.mapSeq fun _=>#[])).push (seqObj "tuple" vs.toArray 0)).push (seqObj "list" #[] 0))=h6;have g6:h6.get? a=some (seqObj "list" #[] e1):=by
  rw [← hh6];exact Heap.get?_push_of_some _ (Heap.get?_push_of_some _ g1)
 have keep:∀ b o,b≠a→s.heap.get? b=some o→h6.get? b=some o:=fun b o hb e=>by
  rw [← hh6];refine Heap.get?_push_of_some _ (Heap.get?_push_of_some _ ?_);rw [Heap.get?_update_ne _ _ _ _ hb];exact e
 have hp6:∀ (i:Nat) v p,vs[i]?=some v→ps[i]?=some p→∃ b,v=.ref b∧Jc4 h6 b p.1 p.2:=fun i v p hv hq=>by
  obtain ⟨b,hb,e,o,n,t,u,z1,z2⟩:=hp i v p hv hq;exact ⟨b,e,o,n,t,u,keep b o hb z1,z2⟩
 have hfin:∀ p:Array Nat,Pm vs.length p→(Jac vs p).size≤sizeLine + 1:=fun p hpm=>by
  unfold Jac;rw [List.size_toArray,List.length_map,Array.length_toList,hpm.size];exact Nat.le_succ_of_le big
 have eH:∀ out,h6.update a (Obj.mapSeq fun _=>out)=sortedHeap s.heap a vs out:=fun out=>by rw [← hh6]; rfl
 have sz:vs.toArray.size=vs.length:=List.size_toArray;show wpAny (model prog w) A _ P E { s with heap:=h6 };dsimp only;rw [sz];by_cases h2:vs.length < 2
 ·rw [if_pos h2,if_pos h2];refine wpAny_bind (wpAny_pure ?_);rw [StateT.run_pure];refine wpAny_bind (wpAny_pure ?_);dsimp only;have eo:(arrOf (SortSt.mk' general' (vs.toArray.zip vs.toArray) #[] 7 none)).map (·.2)=Jac vs (List.toArray (List.range vs.length)):=by
   rw [Jlx];show (vs.toArray.zip vs.toArray).map (·.2)=_;simp [List.map_snd_zip]
  rw [eo];refine wpAny_bind (seqEpoch_at g6 rfl (wpAny_bind (listUpdate_at g6 rfl ?_ (hsz2:=hfin _ (JiD _)))));rw [if_neg (by simp)];show wpAny _ _ _ _ _ { s with heap:=h6.update a (Obj.mapSeq fun _=>Jac vs (List.toArray (List.range vs.length))) };rw [eH];refine wpAny_pure (h _ (JiD _) fun i j hij hj=>?_);obtain rfl:i=j:=by omega
  exact YT.kle_refl _
 ·rw [if_neg h2,if_neg h2];have tups:∀ (vs:List Value) (ps:List (Str×Str)),vs.length=ps.length→(∀ (i:Nat) v p,vs[i]?=some v→ps[i]?=some p→∃ b,v=.ref b∧Jc4 h6 b p.1 p.2)→∃ fs:List Value,KatTups h6 vs fs∧fs.length=vs.length∧∀ v∈fs,∃ x t,v=.str x t:=by
   intro vs
   induction vs with
   | nil=>exact fun ps _ _=>⟨[],.nil,rfl,fun v hv=>nomatch hv⟩
   | cons v r ih =>
    intro ps hl hq;cases ps with
    | nil=>cases hl
    | cons p ps =>
     obtain ⟨b,rfl,o,n,t,u,z1,z2,z3⟩:=hq 0 v p rfl rfl;obtain ⟨fs,y1,y2,y3⟩:=ih ps (by simpa using hl) fun i v' p' a1 a2=>hq (i + 1) v' p' (by simpa using a1) (by simpa using a2)
     refine ⟨.str p.1 t :: fs,.cons z1 z2 z3 rfl y1,by simp [y2],fun v' hv'=>?_⟩;rcases List.mem_cons.mp hv' with rfl | q
     ·exact ⟨_,_,rfl⟩
     ·exact y3 v' q
  obtain ⟨fs,f1,f2,f3⟩:=tups vs ps hlen hp6;refine wpAny_bind (kat_kind (s:={ s with heap:=h6 }) f1 (by omega) (T:=.type "str") (fun v hv=>?_) (by decide) ?_)
  ·obtain ⟨x,t,rfl⟩:=f3 v hv;exact .now
  have ek:(Value.type "str" != Value.type "tuple")=true:=by decide
  rw [ek];refine wpAny_bind (wpAny_mono (kat_run (E:=E) (ks:=vs) (vs:=vs) (G:=fun p s'=>s'={ s with heap:=h6 }∧Pm vs.length p∧Srt YT (ky ps) p vs.length)
   (Q:=fun st' s'=>∃ p:Array Nat,s'={ s with heap:=h6 }∧Pm vs.length p∧Srt YT (ky ps) p vs.length∧arrOf st'=p.map (kas_item (vs.toArray.zip vs.toArray))∧failedOf st'=none) rfl (by omega) h64
   (fun p st' s' b1 b2 b3 b4=>⟨p,b4.1,b4.2.1,b4.2.2,b2,b3⟩) ?_) ?_ fun _ _ e=>e)
  ·refine Ok.wp (O:=YT) (key:=ky ps) (n:=vs.length) (Post:=fun p=>Pm vs.length p∧Srt YT (ky ps) p vs.length) (fun i j C hi hj hC=>?_) (fun p q=>⟨rfl,q.1,q.2⟩) (Joe (by omega) fun p q1 q2=>⟨q1,q2⟩);have at_:∀ i,i < vs.length→∃ b,vs.getD i Value.none=.ref b∧Jc4 h6 b (ps.getD i dfl).1 (ps.getD i dfl).2:=fun i hi=>by
    have hi':i < ps.length:=by omega
    obtain ⟨b,e,pb⟩:=hp6 i vs[i] ps[i] (List.getElem?_eq_getElem hi) (List.getElem?_eq_getElem hi');refine ⟨b,?_,?_⟩
    ·rw [List.getD_eq_getElem?_getD,List.getElem?_eq_getElem hi]; exact e
    ·rw [List.getD_eq_getElem?_getD,List.getElem?_eq_getElem hi']; exact pb
   obtain ⟨b,eb,pb⟩:=at_ i hi;obtain ⟨c,ec,pc⟩:=at_ j hj;show wpAny (model prog w) A (keyLt' (tuples' true) (vs.getD i Value.none) (vs.getD j Value.none)) C (fun _ _=>False) { s with heap:=h6 };rw [eb,ec];exact Jnv (s:={ s with heap:=h6 }) pb pc hC
  ·rintro ⟨⟨⟩,st'⟩ s' ⟨p,rfl,q1,q2,q3,q4⟩;dsimp only;have eo:(arrOf st').map (·.2)=Jac vs p:=kat_snds rfl q3;rw [eo,q4];refine wpAny_bind (seqEpoch_at g6 rfl (wpAny_bind (listUpdate_at g6 rfl ?_ (hsz2:=hfin p q1))));dsimp only;rw [if_neg (by simp)];show wpAny _ _ _ _ _ { s with heap:=h6.update a (Obj.mapSeq fun _=>Jac vs p) };rw [eH];exact wpAny_pure (h p q1 q2)
theorem Jis {l:Addr} {vs:List Value} {ps:List (Str×Str)} {Q:Value→Shared→Prop} (hl:s.heap.IsList l vs.toArray) (hlen:vs.length=ps.length) (h64:vs.length < 64)
  (hp:∀ (i:Nat) v p,vs[i]?=some v→ps[i]?=some p→∃ b,v=.ref b∧Jc4 s.heap b p.1 p.2)
  (h:∀ p:Array Nat,Pm vs.length p→Srt YT (ky ps) p vs.length→Q (.ref (s.heap.objs.size + 1)) { s with heap:=sortedAll s.heap vs (Jac vs p) }) :
  wpAny (model prog w) A (call (.builtin "sorted") [.ref l]) Q E s:=by
 have big:vs.length≤sizeLine:=by rw [sizeLine_eq]; omega
 refine Calls.call_function_entry kind_sorted plain_sorted entry_sorted (args_sorted1 _) ?_;unfold Builtin.«sorted»;refine wpAny_bind (m:=checkCount "sorted" 1 1 _) (wpAny_pure (wpAny_bind (collect_list hl (wpAny_bind (wpAny_newList ?_ (by simpa using big))) (by simpa using big))));generalize hh1:((s.heap.push (seqObj "list" #[] 0)).update s.heap.objs.size (Obj.mapSeq (· ++ vs.toArray)))=h1;have z1:h1.objs.size=s.heap.objs.size + 1:=by rw [← hh1,Heap.size_update,size_push']
 have g1:(h1.push (seqObj "list" vs.toArray 0)).get? (s.heap.objs.size + 1)=some (seqObj "list" vs.toArray 0):=by rw [← z1]; exact Heap.get?_push_size _ rfl
 have keep:∀ b o,s.heap.get? b=some o→(h1.push (seqObj "list" vs.toArray 0)).get? b=some o:=fun b o q=>by
  have hb:b < s.heap.objs.size:=Heap.lt_size q;refine Heap.get?_push_of_some _ ?_;rw [← hh1,Heap.get?_update_ne _ _ _ _ (Nat.ne_of_lt hb)];exact Heap.get?_push_of_some _ q
 show wpAny _ _ _ _ _ { s with heap:=h1.push (seqObj "list" vs.toArray 0) };rw [z1];refine wpAny_bind (wpAny_holding (wpAny_call_entry slot_list_sort ⟨_,g1,rfl⟩ entry_list_sort (Jll (s:={ s with heap:=h1.push (seqObj "list" vs.toArray 0) }) g1 hlen h64 (fun i v p hv hq=>?_) fun p q1 q2=>⟨_,rfl,?_⟩) (args_list_sort _)))
 ·obtain ⟨b,e,o,n,t,u,y1,y2⟩:=hp i v p hv hq;exact ⟨b,Nat.ne_of_lt (Nat.lt_succ_of_lt (Heap.lt_size y1)),e,o,n,t,u,keep b o y1,y2⟩
 ·refine wpAny_pure ⟨_,rfl,?_⟩;have z:=h p q1 q2;unfold sortedAll at z;rw [hh1] at z;exact z
end
end KS
namespace L2
open PySem PySem.Spec PyProof.Rows KS
def sle (a b:Str):Prop:=strKind.kle a.cps.toList b.cps.toList
def ple (p q:Str×Str):Prop:=YT.kle (pk p) (pk q)
theorem Jlm {a b c:Str} (h1:sle a b) (h2:sle b c):sle a c:=KeyOrd.kle_trans h1 h2
theorem JmM {a b:Str} (h1:sle a b) (h2:sle b a):a=b:=Jj6 (KeyOrd.kle_antisymm h1 h2)
theorem Jf9:∀ {p:Str} {l:List Str},risingS p l=true→(∀ x∈l,sle p x)∧l.Pairwise sle
 | p,[],_=>⟨(fun x hx=>nomatch hx),.nil⟩
 | p,x :: r,h=>by
  have h':(!ltCps x.cps.toList p.cps.toList && risingS x r)=true:=h;rw [Bool.and_eq_true] at h';obtain ⟨a,b⟩:=Jf9 h'.2;have hx:sle p x:=by
   have z:=h'.1;rw [ltCps_eq] at z;show decide (x.cps.toList < p.cps.toList)=false;simpa using z
  refine ⟨fun y hy=>?_,List.pairwise_cons.mpr ⟨a,b⟩⟩;rcases List.mem_cons.mp hy with rfl | hy
  ·exact hx
  ·exact Jlm hx (a y hy)
theorem Jkl {l:List Str} (h:sortedS l=true):l.Pairwise sle:=by
 cases l with
 | nil=>exact .nil
 | cons x r =>
  obtain ⟨a,b⟩:=Jf9 (p:=x) (l:=r) h;exact List.pairwise_cons.mpr ⟨a,b⟩
theorem Jhn:∀ {us:List Value} {ss:List Str},StrsAre us ss→Jz (ss.map V.str) us
 | _,_,.nil=>.nil
 | _,_,.cons x t h=>.cons ⟨t,rfl⟩ (Jhn h)
section
variable {X:Cx}
def Jpb (K:PySem.W.Frag):List V→Hp→VK→Prop:=fun xs H Q=>∃ (l:Addr) (ss:List Str),xs=[.ref l]∧Js K H l (ss.map V.str)∧ss.length < 64∧∀ (p:Addr) (ss':List Str),H p=none→ss'.Perm ss→ss'.Pairwise sle→Q (.ref p) (upd H p (.lst (ss'.map V.str)))
theorem Jd2:Y9 X (.builtin "sorted") (Jpb X.K):=by
 intro pins s σ H xs us Q I r h;obtain ⟨l,ss,rfl,hl,hz,q⟩:=h;obtain ⟨u,rfl,ru⟩:=Jz.one r;cases ru;obtain ⟨its,rv,pl,_⟩:=I.list hl;have rlen:=rv.length;rw [List.length_map] at rlen;refine sorted_strs pl.isList (JgI rv) (by omega) fun out ss' a1 a2 a3=>?_
 obtain ⟨e,he⟩:=sortedAll_at s.heap its out;have hf:H (s.heap.objs.size + 1)=none:=I.hok.fresh (Nat.le_succ _);have hv:=Jhn a1;refine ⟨.ref (s.heap.objs.size + 1),_,I.laid (t':=s.toks) (o:=.lst (ss'.map V.str)) (fun b u=>sortedAll_old) (Nat.le_succ _) ⟨?_,out.toList,e,hv,he⟩,rfl,q _ ss' hf a2 (Jkl a3)⟩;rw [List.length_map,a2.length_eq];exact Nat.le_trans (Nat.le_of_lt hz) (by decide)
def YV (K:PySem.W.Frag) (H:Hp) (zs:List (V×(Str×Str))):Prop:=∀ z∈zs,∃ a,z.1=.ref a∧JK K H a [.str z.2.1,.str z.2.2]
def Jpa (K:PySem.W.Frag):List V→Hp→VK→Prop:=fun xs H Q=>∃ (l:Addr) (zs:List (V×(Str×Str))),xs=[.ref l]∧Js K H l (zs.map (·.1))∧YV K H zs∧zs.length < 64∧∀ (p:Addr) (zs':List (V×(Str×Str))),H p=none→zs'.Perm zs→(zs'.map (·.2)).Pairwise ple→Q (.ref p) (upd H p (.lst (zs'.map (·.1))))
theorem Jk3:∀ {vs:List V} {us:List Value},Jz vs us→∀ (p:List Nat),(∀ i∈p,i < vs.length)→Jz (p.map fun i=>vs.getD i .non) (p.map fun i=>us.getD i Value.none):=by
 intro vs us r p
 induction p with
 | nil=>exact fun _=>.nil
 | cons i p ih =>
  intro h;have hi:=h i (List.mem_cons_self ..);obtain ⟨u,hu,ru⟩:=Jcz (i:=i) r (List.getElem?_eq_getElem hi);refine .cons ?_ (ih fun j hj=>h j (List.mem_cons_of_mem _ hj));show JF (vs.getD i .non) (us.getD i Value.none);rw [List.getD_eq_getElem?_getD,List.getD_eq_getElem?_getD,hu,List.getElem?_eq_getElem hi];exact ru
theorem Jls {α:Type} {l:List α} {d:α} {p:Array Nat} (h:Pm l.length p):(p.toList.map fun i=>l.getD i d).Perm l:=by
 have h1:p.toList.Perm (List.range l.length):=by
  have:=Array.perm_iff_toList_perm.mp h;simpa using this
 have h2:=h1.map fun i=>l.getD i d
 refine h2.trans (List.Perm.of_eq ?_);apply List.ext_getElem?;intro i;rw [List.getElem?_map];by_cases hi:i < l.length
 ·simp [hi]
 ·simp [hi]
theorem JkT:Y9 X (.builtin "sorted") (Jpa X.K):=by
 intro pins s σ H xs us Q I r h;obtain ⟨l,zs,rfl,hl,hp,hz,q⟩:=h;obtain ⟨u,rfl,ru⟩:=Jz.one r;cases ru;obtain ⟨its,rv,pl,_⟩:=I.list hl;have rlen:=rv.length;rw [List.length_map] at rlen;refine Jis (ps:=zs.map (·.2)) pl.isList (by rw [List.length_map]; omega) (by omega) (fun i v p hv hq=>?_) fun p pm so=>?_
 ·rw [List.getElem?_map] at hq;obtain ⟨z,hz1,hz2⟩:=Option.map_eq_some_iff.mp hq;obtain ⟨a,ea,ha⟩:=hp z (List.mem_of_getElem? hz1);obtain ⟨u,hu,ru⟩:=Jcz (i:=i) (x:=z.1) rv (by rw [List.getElem?_map,hz1]; rfl);rw [hv] at hu;cases hu;rw [ea] at ru;cases (show v=.ref a from ru);obtain ⟨its',r',⟨o,e,c,n,d⟩,_⟩:=I.tuple ha;cases r' with
  | cons r1 rr =>
   cases rr with
   | cons r2 rr =>
    cases rr;obtain ⟨t,e1⟩:=r1;obtain ⟨t',e2⟩:=r2;subst e1 e2;rw [← hz2];exact ⟨a,rfl,o,n,t,t',e,c,d⟩
 ·obtain ⟨e,he⟩:=sortedAll_at s.heap its (Jac its p);have hf:H (s.heap.objs.size + 1)=none:=I.hok.fresh (Nat.le_succ _);have pmz:Pm zs.length p:=by rw [rlen]; exact pm
  have hlt:∀ i∈p.toList,i < zs.length:=fun i hi=>by
   have:=(Array.perm_iff_toList_perm.mp pmz).mem_iff.mp hi;simpa using this
  let d:V×(Str×Str):=(.non,dfl)
  have e1:(p.toList.map fun i=>zs.getD i d).map (·.1)=p.toList.map fun i=>(zs.map (·.1)).getD i .non:=by
   rw [List.map_map];refine List.map_congr_left fun i hi=>?_
   have:=hlt i hi;simp [List.getD_eq_getElem?_getD,List.getElem?_eq_getElem this]
  have e2:(p.toList.map fun i=>zs.getD i d).map (·.2)=p.toList.map fun i=>(zs.map (·.2)).getD i dfl:=by
   rw [List.map_map];refine List.map_congr_left fun i hi=>?_
   have:=hlt i hi;simp [List.getD_eq_getElem?_getD,List.getElem?_eq_getElem this]
  have hv:Jz ((p.toList.map fun i=>zs.getD i d).map (·.1)) (Jac its p).toList:=by
   rw [e1];have z:=Jk3 rv p.toList (fun i hi=>by rw [List.length_map]; exact hlt i hi);unfold Jac;rw [List.toList_toArray];exact z
  refine ⟨.ref (s.heap.objs.size + 1),_,I.laid (t':=s.toks) (o:=.lst ((p.toList.map fun i=>zs.getD i d).map (·.1))) (fun b u=>sortedAll_old) (Nat.le_succ _) ⟨?_,(Jac its p).toList,e,hv,he⟩,rfl,q _ (p.toList.map fun i=>zs.getD i d) hf (Jls pmz) ?_⟩
  ·rw [List.length_map,List.length_map,Array.length_toList,pmz.size];exact Nat.le_trans (Nat.le_of_lt hz) (by decide)
  ·rw [e2,List.pairwise_map,List.pairwise_iff_getElem];intro i j hi hj hij;rw [Array.length_toList] at hi hj;have z:=so i j (Nat.le_of_lt hij) (by rw [← rlen,← pmz.size]; exact hj);unfold Kp ky at z;rw [Array.getD_eq_getD_getElem?,Array.getD_eq_getD_getElem?,Array.getElem?_eq_getElem hi,Array.getElem?_eq_getElem hj] at z;exact z
theorem JhG {P P':Program} {w w':World}:∀ {ks:List JI} {us:List Value},ItemsAre (J9 P w) ks us→ItemsAre (J9 P' w') ks us
 | _,_,.nil=>.nil
 | _,_,.cons h t=>.cons h (JhG t)
theorem Jk6 {P P':Program} {w w':World} {h:Heap} {ks:List JI} {a:Addr} (hk:HS.TK P w h ks a):HS.TK P' w' h ks a:=let ⟨o,its,n,e,c,d,i⟩:=hk; ⟨o,its,n,e,c,d,JhG i⟩
theorem Jqa {A:Around} {s:Shared} {P:Program} {w:World} {x y:List JI} {a b:Addr} (hu:A.units < cLine) (hx:HS.TK P w s.heap x a) (hy:HS.TK P w s.heap y b):SeqAt.EqAt A s (.ref a) (.ref b) (decide (x=y)) :=
 fun prog w E Q hq=>wpAny_eqBool_tuple hu (Jk6 hx) (Jk6 hy) hq
open Classical in
def JqI (K:PySem.W.Frag) (neg:Bool):R2:=fun x y H Q=>∃ a l vs ks kss,x=.ref a∧y=.ref l∧JK K H a (ks.map kV)∧Js K H l vs∧JdM K H vs kss∧Q (.bl (if neg then !decide (ks∈kss) else decide (ks∈kss))) H
open Classical in
theorem Jh5 (hu:X.A.units + 1 < cLine):ZP X (compareOp .NotIn) (JqI X.K true):=by
 intro pins s σ H x y v u Q I rx ry h;obtain ⟨a,l,vs,ks,kss,rfl,rfl,ha,hl,⟨tl,tt⟩,q⟩:=h;cases rx;cases ry;obtain ⟨its,rv,pl,_⟩:=I.list hl;have rlen:=rv.length;have hk:=Jke I ha;let e:Value→Bool:=fun u=>match u with
  | .ref b=>decide (HS.TK X.prog X.w s.heap ks b)
  | _=>false
 have at_:∀ (i:Nat) v,its[i]?=some v→∃ k2 b,kss[i]?=some k2∧v=.ref b∧HS.TK X.prog X.w s.heap k2 b:=fun i v hv=>by
  have hi:=(List.getElem?_eq_some_iff.mp hv).1;obtain ⟨x,hx⟩:∃ x,vs[i]?=some x:=⟨vs[i],List.getElem?_eq_getElem (by omega)⟩
  obtain ⟨k2,hk2⟩:∃ k2,kss[i]?=some k2:=⟨kss[i],List.getElem?_eq_getElem (by omega)⟩
  obtain ⟨b,rfl,hb⟩:=tt i x k2 hx hk2;obtain ⟨u,hu1,hu2⟩:=Jcz rv hx;rw [hv] at hu1;cases hu1;cases (show v=.ref b from hu2);exact ⟨k2,b,hk2,rfl,Jke I hb⟩
 have same:∀ {k2:List JI} {b:Addr},HS.TK X.prog X.w s.heap k2 b→decide (k2=ks)=decide (HS.TK X.prog X.w s.heap ks b):=fun {k2 b} hb=>by
  refine decide_eq_decide.mpr ⟨fun e=>e ▸ hb,fun h=>IsTupleKey.inj hb h⟩
 refine SeqAt.notIn_listAt e pl.isList (fun w hw=>?_) ⟨.bl _,H,I,rfl,?_⟩
 ·obtain ⟨i,hi⟩:=List.mem_iff_getElem?.mp (show w∈its by simpa using hw);obtain ⟨k2,b,_,rfl,hb⟩:=at_ i w hi;have z:=Jqa (A:=X.A.in1) hu hb hk;rw [same hb] at z;exact z
 ·have e2:its.toArray.any e=decide (ks∈kss):=by
   rw [show its.toArray.any e=its.any e by simp,Bool.eq_iff_iff,List.any_eq_true,decide_eq_true_eq];constructor
   ·rintro ⟨w,hw,he⟩;obtain ⟨i,hi⟩:=List.mem_iff_getElem?.mp hw;obtain ⟨k2,b,h2,rfl,hb⟩:=at_ i w hi;have he':decide (HS.TK X.prog X.w s.heap ks b)=true:=he;rw [← same hb] at he';rw [← of_decide_eq_true he'];exact List.mem_of_getElem? h2
   ·intro hin;obtain ⟨i,hi⟩:=List.mem_iff_getElem?.mp hin;have hlt:=(List.getElem?_eq_some_iff.mp hi).1;obtain ⟨k2,b,h2,h3,hb⟩:=at_ i its[i] (List.getElem?_eq_getElem (by omega));rw [hi] at h2;cases h2;refine ⟨its[i],List.getElem_mem _,?_⟩;rw [h3];exact decide_eq_true hb
  rw [e2];exact q
def Jpc (K:PySem.W.Frag):R2:=fun x y H Q=>∃ a l vs,x=.ref a∧y=.ref l∧Js K H a vs∧Js K H l []∧Q (.bl vs.isEmpty) H
theorem JfA (hu:X.A.units < cLine):ZP X (compareOp .Eq) (Jpc X.K):=by
 intro pins s σ H x y v u Q I rx ry h;obtain ⟨a,l,vs,rfl,rfl,ha,hl,q⟩:=h;cases rx;cases ry;obtain ⟨its,rv,pl,_⟩:=I.list ha;obtain ⟨its2,rv2,pl2,_⟩:=I.list hl;cases rv2;have rlen:=rv.length;cases vs with
 | nil =>
  cases rv;refine SeqAt.eq_listAt (e:=fun _=>true) pl.isList pl2.isList rfl hu (fun j h1 h2=>absurd h1 (Nat.not_lt_zero _)) ⟨.bl _,H,I,rfl,q⟩
 | cons v r=>exact SeqAt.eq_list_lengthsAt pl.isList pl2.isList (by rw [List.size_toArray,← rlen]; rfl) hu ⟨.bl _,H,I,rfl,q⟩
end
section
variable {tc:TT} {te:TE} {σc:St} {D:Addr} {H1:Hp} {Q:Hp→Prop} {K:PySem.W.Frag}
theorem Jgr {a:Addr} {xs:List V} (Pv:Nat→List V→Hp→Prop) (h00:σc[0]?=some none) (h01:σc[1]?=some none) (hq:∀ i ys H,Pv i ys H→Js K H a xs) (h0:Pv 0 [] (upd H1 D (.lst []))) (hl:∀ i ys H,Pv i ys H→H D=some (.lst ys))
  (hs:∀ i x ys H,xs[i]?=some x→Pv i ys H→∃ b u v,x=.ref b∧JK K H b [u,v]∧tc ((σc.set 0 (some u)).set 1 (some v)) H fun c H3=>if c=true then te ((σc.set 0 (some u)).set 1 (some v)) H3 fun v' H4=>H4 D=some (.lst ys)∧ys.length < sizeLine∧Pv (i + 1) (ys ++ [v']) (upd H4 D (.lst (ys ++ [v']))) else Pv (i + 1) ys H3)
  (hd:∀ ys H,Pv xs.length ys H→Q H):JbV (Itl K a) (JkI K 2 (JkJ (Jaf 0) (JkJ (Jaf 1) Jpu))) tc te σc D H1 Q:=by
 refine ⟨fun i m ys H=>m=xs.length - i∧i≤xs.length∧Pv i ys H,⟨xs.length,by simp,Nat.zero_le _,h0⟩,?_⟩;rintro i m ys H ⟨rfl,hi,p⟩;refine ⟨hl _ _ _ p,?_⟩;by_cases hlt:i < xs.length
 ·refine .inr ⟨⟨xs,xs[i],hq _ _ _ p,by simp [hlt]⟩,Pv (i + 1),fun zs H' p'=>⟨xs.length - (i + 1),by omega,rfl,hlt,p'⟩,fun x H' y=>?_⟩;obtain ⟨e,y⟩:=y;subst e;have hx:=y xs (hq _ _ _ p);obtain ⟨b,u,v,rfl,hb,z⟩:=hs i x ys _ hx p;exact ⟨b,[u,v],rfl,hb,rfl,u,[v],rfl,v,[],rfl,rfl,((Jdi.refl σc).set h00).set h01,z⟩
 ·have e:i=xs.length:=by omega
  subst e;exact .inl ⟨⟨xs,hq _ _ _ p,Nat.le_refl _⟩,hd _ _ p⟩
end
end L2
namespace L2
open PySem PySem.Spec PyProof.Rows
structure Md (K:PySem.W.Frag) (C:Addr) (x qual:Str) (st:Stmt) (ps:List Str) (f:Addr) (fd:FuncData):Prop where
 F:Fun K x qual st f fd
 b:JbW K fd ps []
 m:JnB K C x f
theorem Y1 {X:Cx}:Jbp (Y3 X.prog X.w) X E0:=fun pins σ H s e s' I h=>by
 obtain ⟨ea,C,B,H2,_,_,_,_,q⟩:=h;exact q.elim
section
variable {tc:TT} {te:TE} {σc:St} {D:Addr} {H1:Hp} {Q:Hp→Prop} {K:PySem.W.Frag}
theorem JfQ {a:Addr} {xs:List V} (Pv:Nat→List V→Hp→Prop) (h00:σc[0]?=some none) (hq:∀ i ys H,Pv i ys H→JK K H a xs) (h0:Pv 0 [] (upd H1 D (.lst []))) (hl:∀ i ys H,Pv i ys H→H D=some (.lst ys))
  (hs:∀ i x ys H,xs[i]?=some x→Pv i ys H→tc (σc.set 0 (some x)) H fun b H3=>if b=true then te (σc.set 0 (some x)) H3 fun v H4=>H4 D=some (.lst ys)∧ys.length < sizeLine∧Pv (i + 1) (ys ++ [v]) (upd H4 D (.lst (ys ++ [v]))) else Pv (i + 1) ys H3)
  (hd:∀ ys H,Pv xs.length ys H→Q H):JbV (Itt K a) (Jaf 0) tc te σc D H1 Q :=
 Jfb (n:=xs.length) (X1:=fun i x=>xs[i]?=some x) Pv h00 (fun i H hi ⟨ys,p⟩=>⟨⟨xs,xs[i],hq _ _ _ p,by simp [hi]⟩,fun x H' y=>⟨y.1,y.2 xs (hq _ _ _ p)⟩⟩) (fun H ⟨ys,p⟩=>⟨xs,hq _ _ _ p,Nat.le_refl _⟩) h0 hl (fun i x ys H _ hx p=>hs i x ys H hx p) hd
end
theorem Jf6 {α:Type} {R:α→α→Prop} (anti:∀ a b,R a b→R b a→a=b):∀ {l r:List α},l.Perm r→l.Pairwise R→r.Pairwise R→l=r
 | [],r,p,_,_=>(p.symm.eq_nil).symm
 | x :: l,[],p,_,_=>absurd p.eq_nil (by simp)
 | x :: l,y :: r,p,h1,h2=>by
  have hx:=List.pairwise_cons.mp h1;have hy:=List.pairwise_cons.mp h2;have e:x=y:=by
   have m1:x∈y :: r:=p.mem_iff.mp (List.mem_cons_self ..);have m2:y∈x :: l:=p.mem_iff.mpr (List.mem_cons_self ..);rcases List.mem_cons.mp m1 with q | q
   ·exact q
   ·rcases List.mem_cons.mp m2 with q' | q'
    ·exact q'.symm
    ·exact anti _ _ (hx.1 _ q') (hy.1 _ q)
  subst e;rw [Jf6 anti (List.perm_cons _ |>.mp p) hx.2 hy.2]
end L2
namespace L2
open PySem PySem.Spec PyProof.Rows
section
variable {X:Cx}
theorem JjW {ns:List Int} {us:List Value} (r:Jz (ns.map V.int) us):∃ xs:Array (Int×Tok),us.toArray=intItems xs∧ns=xs.toList.map (·.1):=by
 induction ns generalizing us with
 | nil=>cases r; exact ⟨#[],by simp [intItems],rfl⟩
 | cons n ns ih =>
  cases r with
  | cons r1 r2 =>
   obtain ⟨t,rfl⟩:=r1;obtain ⟨xs,h1,h2⟩:=ih r2;refine ⟨((n,t) :: xs.toList).toArray,?_,by rw [h2]; rfl⟩;have e:∀ {a b:List Value},a.toArray=b.toArray→a=b:=fun h=>by simpa using h
   unfold intItems at h1 ⊢;rw [List.map_toArray];have h3:=congrArg Array.toList h1;rw [Array.toList_map] at h3;simp only [List.map_cons];rw [← h3]
def Jp1 (K:PySem.W.Frag):List V→Hp→VK→Prop:=fun xs H Q=>∃ (l:Addr) (ns:List Int),xs=[.ref l]∧Js K H l (ns.map V.int)∧0 < ns.length∧∀ M,M∈ns→(∀ a∈ns,a≤M)→Q (.int M) H
def Jp0 (K:PySem.W.Frag):List V→Hp→VK→Prop:=fun xs H Q=>∃ (l:Addr) (ns:List Int),xs=[.ref l]∧Js K H l (ns.map V.int)∧0 < ns.length∧∀ M,M∈ns→(∀ a∈ns,M≤a)→Q (.int M) H
theorem Jmh (hc:X.calm=true):Y9 X (.builtin "max") (Jp1 X.K):=by
 intro pins s σ H xs us Q I r h;obtain ⟨l,ns,rfl,hl,hne,q⟩:=h;obtain ⟨u,rfl,ru⟩:=Jz.one r;cases ru;obtain ⟨its,rv,pl,_⟩:=I.list hl;obtain ⟨zs,e,rfl⟩:=JjW rv;have hsz:0 < zs.size:=by rw [List.length_map,Array.length_toList] at hne; exact hne
 have hl':=pl.isList;rw [e] at hl';refine max_intList (I.ok.hd hc) hl' hsz fun v h' tk hv hk=>?_
 obtain ⟨t,rfl⟩:=intItems_at hv;obtain ⟨h1,h2⟩:=argBest_gt (numAt zs) (zs.size - 1);refine ⟨.int (numAt zs _),H,I.kept hk,⟨_,rfl⟩,q _ ?_ fun a ha=>?_⟩
 ·rw [numAt_eq]; exact getD_mem (by rw [List.length_map,Array.length_toList]; omega)
 ·obtain ⟨j,hj,rfl⟩:=mem_getD ha;rw [List.length_map,Array.length_toList] at hj;rw [← numAt_eq]; exact h2 j (by omega)
theorem Jmf (hc:X.calm=true):Y9 X (.builtin "min") (Jp0 X.K):=by
 intro pins s σ H xs us Q I r h;obtain ⟨l,ns,rfl,hl,hne,q⟩:=h;obtain ⟨u,rfl,ru⟩:=Jz.one r;cases ru;obtain ⟨its,rv,pl,_⟩:=I.list hl;obtain ⟨zs,e,rfl⟩:=JjW rv;have hsz:0 < zs.size:=by rw [List.length_map,Array.length_toList] at hne; exact hne
 have hl':=pl.isList;rw [e] at hl';refine min_intList (I.ok.hd hc) hl' hsz fun v h' tk hv hk=>?_
 obtain ⟨t,rfl⟩:=intItems_at hv;obtain ⟨h1,h2⟩:=argBest_lt (numAt zs) (zs.size - 1);refine ⟨.int (numAt zs _),H,I.kept hk,⟨_,rfl⟩,q _ ?_ fun a ha=>?_⟩
 ·rw [numAt_eq]; exact getD_mem (by rw [List.length_map,Array.length_toList]; omega)
 ·obtain ⟨j,hj,rfl⟩:=mem_getD ha;rw [List.length_map,Array.length_toList] at hj;rw [← numAt_eq]; exact h2 j (by omega)
end
end L2
namespace L2
def Jav:List Int→Int
 | []=>0
 | [a]=>a
 | a :: b :: l=>if a≤Jav (b :: l) then Jav (b :: l) else a
def Jau:List Int→Int
 | []=>0
 | [a]=>a
 | a :: b :: l=>if Jau (b :: l)≤a then Jau (b :: l) else a
theorem Jeq:∀ {l:List Int},l≠[]→Jav l∈l∧∀ x∈l,x≤Jav l
 | [],h=>absurd rfl h
 | [a],_=>⟨List.mem_singleton.mpr rfl,fun x hx=>by rw [List.mem_singleton.mp hx]; exact Int.le_refl _⟩
 | a :: b :: l,_=>by
  obtain ⟨h1,h2⟩:=Jeq (l:=b :: l) (by simp);show (if a≤Jav (b :: l) then Jav (b :: l) else a)∈_∧∀ x∈_,x≤(if a≤Jav (b :: l) then Jav (b :: l) else a);by_cases h:a≤Jav (b :: l)
  ·rw [if_pos h];refine ⟨List.mem_cons_of_mem _ h1,fun x hx=>?_⟩;rcases List.mem_cons.mp hx with q | q
   ·rw [q]; exact h
   ·exact h2 x q
  ·rw [if_neg h];refine ⟨List.mem_cons_self ..,fun x hx=>?_⟩;rcases List.mem_cons.mp hx with q | q
   ·rw [q]; exact Int.le_refl _
   ·have:=h2 x q; omega
theorem Jep:∀ {l:List Int},l≠[]→Jau l∈l∧∀ x∈l,Jau l≤x
 | [],h=>absurd rfl h
 | [a],_=>⟨List.mem_singleton.mpr rfl,fun x hx=>by rw [List.mem_singleton.mp hx]; exact Int.le_refl _⟩
 | a :: b :: l,_=>by
  obtain ⟨h1,h2⟩:=Jep (l:=b :: l) (by simp);show (if Jau (b :: l)≤a then Jau (b :: l) else a)∈_∧∀ x∈_,(if Jau (b :: l)≤a then Jau (b :: l) else a)≤x;by_cases h:Jau (b :: l)≤a
  ·rw [if_pos h];refine ⟨List.mem_cons_of_mem _ h1,fun x hx=>?_⟩;rcases List.mem_cons.mp hx with q | q
   ·rw [q]; exact h
   ·exact h2 x q
  ·rw [if_neg h];refine ⟨List.mem_cons_self ..,fun x hx=>?_⟩;rcases List.mem_cons.mp hx with q | q
   ·rw [q]; exact Int.le_refl _
   ·have:=h2 x q; omega
theorem JoA {l:List Int} {m:Int} (h1:m∈l) (h2:∀ x∈l,x≤m):m=Jav l:=by
 have hne:l≠[]:=fun e=>by rw [e] at h1; cases h1
 obtain ⟨h3,h4⟩:=Jeq hne;have:=h2 _ h3;have:=h4 _ h1;omega
theorem Joy {l:List Int} {m:Int} (h1:m∈l) (h2:∀ x∈l,m≤x):m=Jau l:=by
 have hne:l≠[]:=fun e=>by rw [e] at h1; cases h1
 obtain ⟨h3,h4⟩:=Jep hne;have:=h2 _ h3;have:=h4 _ h1;omega
section
variable {α:Type}
def J5 (W:α→List α) (g:α→Bool) (c:Int):Nat→α→Bool→Int
 | 0,p,_=>if g p=true then 0 else c + 1
 | t + 1,p,r=>if g p=true then 0 else if (W p).isEmpty=true then c + 1 else
   if r=true then (if (Jau ((W p).map fun w=>J5 W g c t w false) + Jav ((W p).map fun w=>J5 W g c t w true)) / 2 > Jau ((W p).map fun w=>J5 W g c t w false) then (Jau ((W p).map fun w=>J5 W g c t w false) + Jav ((W p).map fun w=>J5 W g c t w true)) / 2 else Jau ((W p).map fun w=>J5 W g c t w false))
   else (if (Jau ((W p).map fun w=>J5 W g c t w false) + Jav ((W p).map fun w=>J5 W g c t w true) + 1) / 2 < Jav ((W p).map fun w=>J5 W g c t w true) then (Jau ((W p).map fun w=>J5 W g c t w false) + Jav ((W p).map fun w=>J5 W g c t w true) + 1) / 2 else Jav ((W p).map fun w=>J5 W g c t w true))
def Zj (W:α→List α) (g:α→Bool) (c:Int) (t:Nat) (p:α) (r:Bool):Int:=Jau ((W p).map fun w=>J5 W g c t w r)
def Zl (W:α→List α) (g:α→Bool) (c:Int) (t:Nat) (p:α) (r:Bool):Int:=Jav ((W p).map fun w=>J5 W g c t w r)
variable {W:α→List α} {g:α→Bool} {c:Int} {t:Nat} {p:α} {r:Bool}
theorem Jb2 (h:g p=true):J5 W g c t p r=0:=by
 cases t with
 | zero=>show (if g p=true then 0 else c + 1)=0; rw [if_pos h]
 | succ t=>unfold J5; rw [if_pos h]
theorem Jb1 (h:g p=false) (hw:W p=[]):J5 W g c t p r=c + 1:=by
 cases t with
 | zero=>show (if g p=true then 0 else c + 1)=_; rw [if_neg (by rw [h]; exact Bool.false_ne_true)]
 | succ t=>unfold J5; rw [if_neg (by rw [h]; exact Bool.false_ne_true),if_pos (by rw [hw]; rfl)]
theorem JhA (h:g p=false):J5 W g c 0 p r=c + 1:=by
 show (if g p=true then 0 else c + 1)=_; rw [if_neg (by rw [h]; exact Bool.false_ne_true)]
theorem JhH {l:List α} (h:l≠[]):¬ (l.isEmpty=true):=fun e=>h (List.isEmpty_iff.mp e)
theorem Jeo (h:g p=false) (hw:W p≠[]):J5 W g c (t + 1) p true=if (Zj W g c t p false + Zl W g c t p true) / 2 > Zj W g c t p false then (Zj W g c t p false + Zl W g c t p true) / 2 else Zj W g c t p false:=by
 unfold J5 Zj Zl; rw [if_neg (by rw [h]; exact Bool.false_ne_true),if_neg (JhH hw),if_pos rfl]
theorem Jen (h:g p=false) (hw:W p≠[]):J5 W g c (t + 1) p false=if (Zj W g c t p false + Zl W g c t p true + 1) / 2 < Zl W g c t p true then (Zj W g c t p false + Zl W g c t p true + 1) / 2 else Zl W g c t p true:=by
 unfold J5 Zj Zl; rw [if_neg (by rw [h]; exact Bool.false_ne_true),if_neg (JhH hw),if_neg Bool.false_ne_true]
theorem JbA (hw:W p≠[]):(∃ w∈W p,Zj W g c t p r=J5 W g c t w r)∧∀ w∈W p,Zj W g c t p r≤J5 W g c t w r:=by
 have hne:(W p).map (fun w=>J5 W g c t w r)≠[]:=fun e=>hw (List.map_eq_nil_iff.mp e)
 obtain ⟨h1,h2⟩:=Jep hne;obtain ⟨w,h3,h4⟩:=List.mem_map.mp h1;exact ⟨⟨w,h3,h4.symm⟩,fun w hw=>h2 _ (List.mem_map.mpr ⟨w,hw,rfl⟩)⟩
theorem JbC (hw:W p≠[]):(∃ w∈W p,Zl W g c t p r=J5 W g c t w r)∧∀ w∈W p,J5 W g c t w r≤Zl W g c t p r:=by
 have hne:(W p).map (fun w=>J5 W g c t w r)≠[]:=fun e=>hw (List.map_eq_nil_iff.mp e)
 obtain ⟨h1,h2⟩:=Jeq hne;obtain ⟨w,h3,h4⟩:=List.mem_map.mp h1;exact ⟨⟨w,h3,h4.symm⟩,fun w hw=>h2 _ (List.mem_map.mpr ⟨w,hw,rfl⟩)⟩
theorem Je2 (hc:0≤c):∀ (t:Nat) (p:α) (r:Bool),0≤J5 W g c t p r∧J5 W g c t p r≤c + 1
 | 0,p,r=>by
  show 0≤(if g p=true then 0 else c + 1)∧(if g p=true then 0 else c + 1)≤c + 1;split <;> omega
 | t + 1,p,r=>by
  cases hg:g p with
  | true=>rw [Jb2 hg]; omega
  | false =>
   by_cases hw:W p=[]
   ·rw [Jb1 hg hw]; omega
   ·obtain ⟨⟨w1,_,e1⟩,_⟩:=JbA (W:=W) (g:=g) (c:=c) (t:=t) (p:=p) (r:=false) hw;obtain ⟨⟨w2,_,e2⟩,_⟩:=JbC (W:=W) (g:=g) (c:=c) (t:=t) (p:=p) (r:=true) hw;have b1:=Je2 hc t w1 false;have b2:=Je2 hc t w2 true;rw [← e1] at b1;rw [← e2] at b2;cases r with
    | true=>rw [Jeo hg hw]; split <;> omega
    | false=>rw [Jen hg hw]; split <;> omega
theorem JlM (hc:0≤c) (hw:W p≠[]):0≤Zj W g c t p r∧Zj W g c t p r≤c + 1:=by
 obtain ⟨⟨w,_,e⟩,_⟩:=JbA (W:=W) (g:=g) (c:=c) (t:=t) (r:=r) hw;rw [e]; exact Je2 hc _ _ _
theorem JlZ (hc:0≤c) (hw:W p≠[]):0≤Zl W g c t p r∧Zl W g c t p r≤c + 1:=by
 obtain ⟨⟨w,_,e⟩,_⟩:=JbC (W:=W) (g:=g) (c:=c) (t:=t) (r:=r) hw;rw [e]; exact Je2 hc _ _ _
theorem Jef:∀ (t:Nat) (p:α),J5 W g c t p true≤J5 W g c t p false + 1∧J5 W g c t p false≤J5 W g c t p true + 1
 | 0,p=>by
  show (if g p=true then 0 else c + 1)≤(if g p=true then 0 else c + 1) + 1∧_;exact ⟨by omega,by show (if g p=true then 0 else c + 1)≤(if g p=true then 0 else c + 1) + 1; omega⟩
 | t + 1,p=>by
  cases hg:g p with
  | true=>rw [Jb2 hg,Jb2 hg]; omega
  | false =>
   by_cases hw:W p=[]
   ·rw [Jb1 hg hw,Jb1 hg hw]; omega
   ·obtain ⟨⟨w1,m1,e1⟩,_⟩:=JbA (W:=W) (g:=g) (c:=c) (t:=t) (p:=p) (r:=false) hw;obtain ⟨_,l2⟩:=JbC (W:=W) (g:=g) (c:=c) (t:=t) (p:=p) (r:=true) hw;have b1:=Jef t w1;have b2:=l2 w1 m1;rw [← e1] at b1;rw [Jeo hg hw,Jen hg hw];constructor <;> split <;> split <;> omega
theorem Jpn (hw:W p≠[]):Zj W g c t p true≤Zj W g c t p false + 1∧Zj W g c t p false≤Zj W g c t p true + 1:=by
 obtain ⟨⟨w1,m1,e1⟩,l1⟩:=JbA (W:=W) (g:=g) (c:=c) (t:=t) (r:=true) hw;obtain ⟨⟨w2,m2,e2⟩,l2⟩:=JbA (W:=W) (g:=g) (c:=c) (t:=t) (r:=false) hw;have:=Jef (W:=W) (g:=g) (c:=c) t w1;have:=Jef (W:=W) (g:=g) (c:=c) t w2;have:=l1 w2 m2;have:=l2 w1 m1;omega
theorem Jpt (hw:W p≠[]):Zl W g c t p true≤Zl W g c t p false + 1∧Zl W g c t p false≤Zl W g c t p true + 1:=by
 obtain ⟨⟨w1,m1,e1⟩,l1⟩:=JbC (W:=W) (g:=g) (c:=c) (t:=t) (r:=true) hw;obtain ⟨⟨w2,m2,e2⟩,l2⟩:=JbC (W:=W) (g:=g) (c:=c) (t:=t) (r:=false) hw;have:=Jef (W:=W) (g:=g) (c:=c) t w1;have:=Jef (W:=W) (g:=g) (c:=c) t w2;have:=l1 w2 m2;have:=l2 w1 m1;omega
def Yt (W:α→List α) (g:α→Bool) (c:Int) (t:Nat) (p:α) (k:Int) (r h:Bool):Option α:=(W p).find? fun w=>decide (J5 W g c t w r≤k) == h
theorem Jio {k:Int} (hw:W p≠[]):(Yt W g c t p k r true).isSome=decide (Zj W g c t p r≤k):=by
 obtain ⟨⟨w1,m1,e1⟩,l1⟩:=JbA (W:=W) (g:=g) (c:=c) (t:=t) (r:=r) hw;unfold Yt;rw [Bool.eq_iff_iff,List.find?_isSome,decide_eq_true_eq];constructor
 ·rintro ⟨w,hm,he⟩;have he':J5 W g c t w r≤k:=by simpa using he
  have:=l1 w hm;omega
 ·intro h;exact ⟨w1,m1,by simp; omega⟩
theorem Jin {k:Int} (hw:W p≠[]):(Yt W g c t p k r false).isSome=decide (k < Zl W g c t p r):=by
 obtain ⟨⟨w1,m1,e1⟩,l1⟩:=JbC (W:=W) (g:=g) (c:=c) (t:=t) (r:=r) hw;unfold Yt;rw [Bool.eq_iff_iff,List.find?_isSome,decide_eq_true_eq];constructor
 ·rintro ⟨w,hm,he⟩;have he':k < J5 W g c t w r:=by simpa using he
  have:=l1 w hm;omega
 ·intro h;exact ⟨w1,m1,by simp; omega⟩
def after (k:Int) (r:Bool) (b a:Int):Bool×Int×Bool :=
 if b > a then (!r,(if r then k + b else k - b),r) else if a > b then (r,(if r then k - a else k + a),r) else (r,(if r then k - a else k + a),!r)
def Y4 (W:α→List α) (g:α→Bool) (c:Int) (t:Nat) (p:α) (k:Int) (r:Bool) (b a:Int):Bool :=
 (Yt W g c t p (after k r b a).2.1 (after k r b a).2.2 (after k r b a).1).isSome == ((after k r b a).1 == r)
theorem Jf1 {k b a:Int} (hw:W p≠[]):Y4 W g c t p k true b a=if b > a then decide (Zl W g c t p true≤k + b) else if a > b then decide (Zj W g c t p true≤k - a) else decide (Zj W g c t p false≤k - a):=by
 unfold Y4 after;by_cases h1:b > a
 ·rw [if_pos h1,if_pos h1];show ((Yt W g c t p (k + b) true false).isSome == false)=_;rw [Jin hw];by_cases h:k + b < Zl W g c t p true
  ·rw [decide_eq_true h,decide_eq_false (by omega)]; rfl
  ·rw [decide_eq_false h,decide_eq_true (by omega)]; rfl
 ·rw [if_neg h1,if_neg h1];by_cases h2:a > b
  ·rw [if_pos h2,if_pos h2];show ((Yt W g c t p (k - a) true true).isSome == true)=_;rw [Jio hw]; simp
  ·rw [if_neg h2,if_neg h2];show ((Yt W g c t p (k - a) false true).isSome == true)=_;rw [Jio hw]; simp
theorem Jf0 {k b a:Int} (hw:W p≠[]):Y4 W g c t p k false b a=if b > a then decide (k - b < Zj W g c t p false) else if a > b then decide (k + a < Zl W g c t p false) else decide (k + a < Zl W g c t p true):=by
 unfold Y4 after;by_cases h1:b > a
 ·rw [if_pos h1,if_pos h1];show ((Yt W g c t p (k - b) false true).isSome == false)=_;rw [Jio hw];by_cases h:Zj W g c t p false≤k - b
  ·rw [decide_eq_true h,decide_eq_false (by omega)]; rfl
  ·rw [decide_eq_false h,decide_eq_true (by omega)]; rfl
 ·rw [if_neg h1,if_neg h1];by_cases h2:a > b
  ·rw [if_pos h2,if_pos h2];show ((Yt W g c t p (k + a) false false).isSome == true)=_;rw [Jin hw]; simp
  ·rw [if_neg h2,if_neg h2];show ((Yt W g c t p (k + a) true false).isSome == true)=_;rw [Jin hw]; simp
def own (c k:Int) (r:Bool):Int:=if r then k else c - k
def ZM (W:α→List α) (g:α→Bool) (c:Int) (t:Nat) (p:α) (k:Int) (r:Bool) (b:Int):Option Int :=
 if Y4 W g c t p k r b 0=true then some 0 else if b≤own c k r∧Y4 W g c t p k r b b=true then some b else none
theorem JkW {k b a:Int} (hw:W p≠[]) (hb:0≤b) (ha:0≤a) (ha2:a≤own c k r) (h:Y4 W g c t p k r b a=true):∃ a',ZM W g c t p k r b=some a'∧a'≤a:=by
 have r1:=Jpn (W:=W) (g:=g) (c:=c) (t:=t) hw;have r2:=Jpt (W:=W) (g:=g) (c:=c) (t:=t) hw;unfold ZM;by_cases h0:Y4 W g c t p k r b 0=true
 ·exact ⟨0,by rw [if_pos h0],ha⟩
 ·rw [if_neg h0];have hab:¬ b > a:=fun hlt=>by
   apply h0;cases r with
   | true=>rw [Jf1 hw] at h ⊢; rw [if_pos hlt] at h; rw [if_pos (by omega)]; exact h
   | false=>rw [Jf0 hw] at h ⊢; rw [if_pos hlt] at h; rw [if_pos (by omega)]; exact h
  suffices hwin:Y4 W g c t p k r b b=true from ⟨b,if_pos ⟨by omega,hwin⟩,by omega⟩
  cases r with
  | true =>
   rw [Jf1 hw] at h ⊢;rw [if_neg hab] at h;rw [if_neg (by omega),if_neg (by omega),decide_eq_true_eq];by_cases h2:a > b
   ·rw [if_pos h2,decide_eq_true_eq] at h; omega
   ·rw [if_neg h2,decide_eq_true_eq] at h; omega
  | false =>
   rw [Jf0 hw] at h ⊢;rw [if_neg hab] at h;rw [if_neg (by omega),if_neg (by omega),decide_eq_true_eq];by_cases h2:a > b
   ·rw [if_pos h2,decide_eq_true_eq] at h; omega
   ·rw [if_neg h2,decide_eq_true_eq] at h; omega
theorem JhV {k b a:Int} (hb:0≤b) (ho:0≤own c k r) (h:ZM W g c t p k r b=some a):0≤a∧a≤own c k r∧Y4 W g c t p k r b a=true∧(a=0∨a=b):=by
 unfold ZM at h;by_cases h0:Y4 W g c t p k r b 0=true
 ·rw [if_pos h0] at h; cases h; exact ⟨Int.le_refl _,ho,h0,.inl rfl⟩
 ·rw [if_neg h0] at h;by_cases h1:b≤own c k r∧Y4 W g c t p k r b b=true
  ·rw [if_pos h1] at h; cases h; exact ⟨hb,h1.1,h1.2,.inr rfl⟩
  ·rw [if_neg h1] at h; cases h
def Z9 (W:α→List α) (g:α→Bool) (c:Int) (t:Nat) (p:α) (k:Int) (r:Bool):Int :=
 if r then (if k - Zj W g c t p false + 1 > 0 then k - Zj W g c t p false + 1 else 0) else (if Zl W g c t p true - k > 0 then Zl W g c t p true - k else 0)
theorem JhU {k b:Int}:ZM W g c t p k r b=none↔¬ Y4 W g c t p k r b 0=true∧¬ (b≤own c k r∧Y4 W g c t p k r b b=true):=by
 unfold ZM;by_cases h0:Y4 W g c t p k r b 0=true
 ·rw [if_pos h0]; exact ⟨fun h=>(nomatch h),fun h=>absurd h0 h.1⟩
 ·rw [if_neg h0];by_cases h1:b≤own c k r∧Y4 W g c t p k r b b=true
  ·rw [if_pos h1]; exact ⟨fun h=>(nomatch h),fun h=>absurd h1 h.2⟩
  ·rw [if_neg h1]; exact ⟨fun _=>⟨h0,h1⟩,fun _=>rfl⟩
theorem Jgi {k b:Int} (hw:W p≠[]) (hb:0≤b) (ho:0≤own c k r):ZM W g c t p k r b=none ↔
  (if r then (0 < b→k + b < Zl W g c t p true)∧(b≤k→k - b < Zj W g c t p false) else (0 < b→Zj W g c t p false≤k - b)∧(b≤c - k→Zl W g c t p true≤k + b)):=by
 rw [JhU];cases r with
 | true =>
  have ho':0≤k:=ho;have e:own c k true=k:=rfl;rw [if_pos rfl,Jf1 hw,Jf1 hw,if_neg (show ¬ b > b by omega),if_neg (show ¬ b > b by omega),decide_eq_true_eq,e];by_cases hb0:b > 0
  ·rw [if_pos hb0,decide_eq_true_eq];constructor
   ·intro ⟨h1,h2⟩; exact ⟨fun _=>by omega,fun z=>Int.not_le.mp fun y=>h2 ⟨z,y⟩⟩
   ·intro ⟨h1,h2⟩; exact ⟨by have:=h1 hb0; omega,fun z=>by have:=h2 z.1; have:=z.2; omega⟩
  ·have e0:b=0:=by omega
   subst e0;rw [if_neg (show ¬ (0:Int) > 0 by omega),if_neg (show ¬ (0:Int) > 0 by omega),decide_eq_true_eq];constructor
   ·intro ⟨h1,h2⟩; exact ⟨fun _=>by omega,fun z=>by omega⟩
   ·intro ⟨h1,h2⟩; have:=h2 ho'; exact ⟨by omega,fun z=>by omega⟩
 | false =>
  have ho':0≤c - k:=ho;have e:own c k false=c - k:=rfl;rw [if_neg Bool.false_ne_true,Jf0 hw,Jf0 hw,if_neg (show ¬ b > b by omega),if_neg (show ¬ b > b by omega),decide_eq_true_eq,e];by_cases hb0:b > 0
  ·rw [if_pos hb0,decide_eq_true_eq];constructor
   ·intro ⟨h1,h2⟩; exact ⟨fun _=>by omega,fun z=>Int.not_lt.mp fun y=>h2 ⟨z,y⟩⟩
   ·intro ⟨h1,h2⟩; exact ⟨by have:=h1 hb0; omega,fun z=>by have:=h2 z.1; have:=z.2; omega⟩
  ·have e0:b=0:=by omega
   subst e0;rw [if_neg (show ¬ (0:Int) > 0 by omega),if_neg (show ¬ (0:Int) > 0 by omega),decide_eq_true_eq];constructor
   ·intro ⟨h1,h2⟩; exact ⟨fun _=>by omega,fun z=>by omega⟩
   ·intro ⟨h1,h2⟩; have:=h2 ho'; exact ⟨by omega,fun z=>by omega⟩
theorem Jjk {k:Int} (hg:g p=false) (hw:W p≠[]) (hc:0≤c) (hk:0≤k) (hk2:k≤c) (h:decide (J5 W g c (t + 1) p r≤k)=!r) :
  0≤Z9 W g c t p k r∧Z9 W g c t p k r≤own c k (!r)∧ZM W g c t p k r (Z9 W g c t p k r)=none:=by
 have b1:=JlM (W:=W) (g:=g) (c:=c) (t:=t) (r:=false) hc hw;have b2:=JlZ (W:=W) (g:=g) (c:=c) (t:=t) (r:=true) hc hw;cases r with
 | true =>
  have h':¬ J5 W g c (t + 1) p true≤k:=of_decide_eq_false h;rw [Jeo hg hw] at h';have e:Z9 W g c t p k true=if k - Zj W g c t p false + 1 > 0 then k - Zj W g c t p false + 1 else 0:=by unfold Z9; rw [if_pos rfl]
  rw [e];have e2:own c k (!true)=c - k:=rfl;rw [e2];have e3:own c k true=k:=rfl;refine ⟨by split <;> omega,?_,?_⟩
  ·split at h' <;> split <;> omega
  ·rw [Jgi hw (by split <;> omega) (by rw [e3]; exact hk),if_pos rfl];split at h' <;> split <;> constructor <;> intro _ <;> omega
 | false =>
  have h':J5 W g c (t + 1) p false≤k:=of_decide_eq_true h;rw [Jen hg hw] at h';have e:Z9 W g c t p k false=if Zl W g c t p true - k > 0 then Zl W g c t p true - k else 0:=by unfold Z9; rw [if_neg Bool.false_ne_true]
  rw [e];have e2:own c k (!false)=k:=rfl;rw [e2];have e3:own c k false=c - k:=rfl;refine ⟨by split <;> omega,?_,?_⟩
  ·split at h' <;> split <;> omega
  ·rw [Jgi hw (by split <;> omega) (by rw [e3]; omega),if_neg Bool.false_ne_true];split at h' <;> split <;> constructor <;> intro _ <;> omega
theorem Jmm {k b:Int} (hg:g p=false) (hw:W p≠[]) (hc:0≤c) (hk:0≤k) (hk2:k≤c) (hb:0≤b) (hb2:b≤own c k (!r)) (h:ZM W g c t p k r b=none) :
  decide (J5 W g c (t + 1) p r≤k)=(!r)∧Z9 W g c t p k r≤b:=by
 have b1:=JlM (W:=W) (g:=g) (c:=c) (t:=t) (r:=false) hc hw;have b2:=JlZ (W:=W) (g:=g) (c:=c) (t:=t) (r:=true) hc hw;cases r with
 | true =>
  have e3:own c k true=k:=rfl;have e2:own c k (!true)=c - k:=rfl;rw [Jgi hw hb (by rw [e3]; exact hk),if_pos rfl] at h;have e:Z9 W g c t p k true=if k - Zj W g c t p false + 1 > 0 then k - Zj W g c t p false + 1 else 0:=by unfold Z9; rw [if_pos rfl]
  rw [e];rw [e2] at hb2;obtain ⟨h1,h2⟩:=h;have key:k - Zj W g c t p false + 1≤b:=by
   by_cases z:b≤k
   ·have:=h2 z; omega
   ·omega
  refine ⟨decide_eq_false ?_,by split <;> omega⟩;rw [Jeo hg hw];by_cases hb0:0 < b
  ·have:=h1 hb0;split <;> omega
  ·have e0:b=0:=by omega
   split <;> omega
 | false =>
  have e3:own c k false=c - k:=rfl;have e2:own c k (!false)=k:=rfl;rw [Jgi hw hb (by rw [e3]; omega),if_neg Bool.false_ne_true] at h;have e:Z9 W g c t p k false=if Zl W g c t p true - k > 0 then Zl W g c t p true - k else 0:=by unfold Z9; rw [if_neg Bool.false_ne_true]
  rw [e];rw [e2] at hb2;obtain ⟨h1,h2⟩:=h;have key:Zl W g c t p true - k≤b:=by
   by_cases z:b≤c - k
   ·have:=h2 z; omega
   ·omega
  refine ⟨decide_eq_true ?_,by split <;> omega⟩;rw [Jen hg hw];by_cases hb0:0 < b
  ·have:=h1 hb0;split <;> omega
  ·have e0:b=0:=by omega
   split <;> omega
end
end L2
namespace L2
open PySem PySem.Spec PyProof.Rows
theorem Jj {K:PySem.W.Frag} {f:Addr} {x q:Str} {st:Stmt} (h:Yb K f q=Ye x q st):Fun K x q st f (JT K f):=by
 obtain ⟨oc,od,kV,doc,pm,an,cdv,ct,osl,h1,h2,h3,h4⟩:=JlF h;exact ⟨⟨oc,od,kV,doc,pm,an,cdv,ct,osl,h1,h2,h3⟩,h4⟩
theorem YM {K:PySem.W.Frag} {f:Addr} {x q:Str} {st:Stmt} (h:Yb K f q=Ye x q st):PySem.W.keepIn K (.ref f)=true:=(Jj h).kp
def Jkz:Sum Int Str→V
 | .inl i=>.int i
 | .inr x=>.str x
theorem Jl3 {v:Value} {x:Sum Int Str} (h:JdZ v=some x):JF (Jkz x) v:=by
 unfold JdZ at h;split at h
 ·cases h; exact ⟨_,rfl⟩
 ·cases h; exact ⟨_,rfl⟩
 ·cases h
theorem Jgo:∀ {us:List Value} {xs:List (Sum Int Str)},us.map JdZ=xs.map some→Jz (xs.map Jkz) us
 | [],[],_=>.nil
 | u :: us,x :: xs,h=>by
  rw [List.map_cons,List.map_cons,List.cons.injEq] at h;exact .cons (Jl3 h.1) (Jgo h.2)
 | [],_ :: _,h=>by cases h
 | _ :: _,[],h=>by cases h
theorem Jpl {K:PySem.W.Frag} {n:Str} {xs:List (Sum Int Str)} (h:obT K n=some (true,xs.map some)) (H:Hp):JK K H (Ji K n) (xs.map Jkz):=by
 unfold obT at h;split at h
 ·rename_i its m sl e;have h:=Option.some.inj h;have h1:decide (its.size≤1000)=true:=congrArg Prod.fst h;have h2:its.toList.map JdZ=xs.map some:=congrArg Prod.snd h;exact .inr ⟨_,its,m,e,rfl,rfl,Nat.le_trans (of_decide_eq_true h1) (by decide),Jgo h2⟩
 ·cases h
theorem mgV {K:PySem.W.Frag} {h:Heap} {mg:Str→Option Value} {n:Str} {i:Int} (X:K.In h) (G:h.Ns mainGlobals mg) (e:obV K n=some (.inl i)):∃ u,mg n=some u∧JF (.int i) u:=by
 obtain ⟨t,z⟩:=Jov e;exact ⟨_,PySem.W.mg_of X G z,⟨_,rfl⟩⟩
theorem Jmw {l:PySem.W.OpenLaw} {n k:Nat} {q:Program} {loose:List Str} {XP:(Str→Option Value)→Heap→Prop} {YP:World→Heap→Prop} {d:DefRec} {C:PySem.W.Frag→Prop} {CX:CXT} {sp:PySem.W.Frag→Sp} {x:Str}
  (hn:l.most=some n) (hn2:n≤sizeLine) (hdf:d.params.defaults=[]) (hr:YA k callerA)
  (hY:∀ (w:World) (h:Heap),YP w h→∃ K:PySem.W.Frag,K.In h∧C K)
  (F:∀ (w:World) (K:PySem.W.Frag) (mg:Str→Option Value) (fa:Addr) (h:Heap),C K→K.In h→h.Ns mainGlobals mg→mg d.name=some (.ref fa) →
   ∃ fd:FuncData,(∀ (s:Shared) (u:Value),BindsTo s fd ⟨[u],[]⟩ [(x,u)]) ∧
    ∀ base:Heap,K.In base→base.Ns mainGlobals mg→JN l.prog w K mg base CX k fa fd [x] (sp K))
  (hsp:∀ (K:PySem.W.Frag) (H:Hp) (a:Addr) (ns:List Int),ns.length≤n→JnA H→Js K H a (ns.map V.int)→sp K [.ref a] H (fun v _=>v=.bl true) fun _ _ _=>False)
  (hCX:∀ (H:Hp) (s:Shared) (e:Value) (s':Shared),CX [] H s (fun _ _ _=>False) e s'→False) :
  PySem.W.WalkO q loose XP YP l.row.toRowW d [] (fun f vs=>PySem.call f vs):=by
 refine Att.JjE hn hdf fun w s₀ s₁ mg mb fa o pm cd doc a vs ns G Y ho hd hcd hmg hobj hints hlen hg=>?_
 obtain ⟨K,KX,hC⟩:=hY w _ Y;obtain ⟨fd,hb,hF⟩:=F w K mg fa _ hC KX G.T.g hmg;exact Jnk KX G.T.g G.T.b G.T.builtins G.T.nolimit hg hobj hints (Nat.le_trans hlen hn2) hr hF hb (fun H hO hS=>hsp K H a ns hlen hO hS) fun H e s'=>hCX H s₁ e s'
end L2
namespace L2
open PySem PySem.Spec PyProof.Rows
def JpO (ta:TA):TE:=fun σ H Q=>ta σ H fun vs H1=>∃ j:Nat,vs=[.int (j:Int)]∧j≤1000000∧∀ l,H1 l=none→Q (.ref l) (upd H1 l (.lst ((List.range j).map fun (i:Nat)=>V.int (i:Int))))
theorem Jmx {n:Nat} {acc:Array Value} (h:ItemsOf (fun i v=>∃ t,v=.int (0 + (i:Nat) * 1) t) acc n):Jz ((List.range n).map fun (i:Nat)=>V.int (i:Int)) acc.toList:=by
 have key:∀ (l:List Value) (k:Nat),(∀ (i:Nat) v,l[i]?=some v→∃ t,v=.int ((k + i:Nat):Int) t)→Jz ((List.range' k l.length).map fun (i:Nat)=>V.int (i:Int)) l:=by
  intro l
  induction l with
  | nil=>intro k _; exact .nil
  | cons a r ih =>
   intro k hk;rw [List.length_cons,List.range'_succ,List.map_cons];obtain ⟨t,ht⟩:=hk 0 a rfl;refine .cons ⟨t,by simpa using ht⟩ (ih (k + 1) fun i v hv=>?_);obtain ⟨t,ht⟩:=hk (i + 1) v (by simpa using hv);exact ⟨t,by rw [ht]; congr 1; omega⟩
 have hl:acc.toList.length=n:=by rw [Array.length_toList]; exact h.1
 have z:=key acc.toList 0 fun i v hv=>by
  obtain ⟨t,ht⟩:=h.2 i v (by simpa using hv);exact ⟨t,by rw [ht]; congr 1; omega⟩
 rw [hl,← List.range_eq_range'] at z;exact z
theorem JjQ {X:Cx} {a:Expr} {ta:TA} {p p1 pos pos1:Pos} (hc:X.calm=true) (hg1:Gl X "list") (hm1:X.mg "list" = none) (hg:Gl X "range") (hm:X.mg "range" = none) (ha:PA X [a] ta) (hs:starEach [a] X.env=[(false,eval a X.env)]:=by rfl)
  (hs1:starEach [.Call (.Name "range" p) [a] [] pos] X.env=[(false,eval (.Call (.Name "range" p) [a] [] pos) X.env)]:=by rfl):PE X (.Call (.Name "list" p1) [.Call (.Name "range" p) [a] [] pos] [] pos1) (JpO ta):=by
 intro pins s σ H Q I h;refine Call_ (JcU I hg1 hm1 PyProof.Rows.boot_list (PyProof.Rows.callWith_type1 ?_ hs1 rfl));rw [hs1];show wpAny _ _ (spliced ((false,eval (.Call (.Name "range" p) [a] [] pos) X.env) :: backTo pos1 [])) _ _ s;refine Calls.spliced_cons ?_;refine Call_ (JcU I hg hm boot_range (PyProof.Rows.callWith_type1 (JH (ha pos pins s σ H _ I h) fun us s1 ⟨vs,H1,I1,r1,q1⟩=>?_) hs rfl));obtain ⟨j,e,hj,q⟩:=q1;subst e;cases r1 with
 | cons r rr =>
  cases rr;obtain ⟨t,rfl⟩:=r;refine call_range_1 (Calls.spliced_nil ?_);have I2:Jk X pins σ H1 { s1 with heap:=s1.heap.push { cls:=.type "range",data:=.fields #[.int 0 s1.toks,.int (j:Int) t,.int 1 (s1.toks + 1)] },toks:=s1.toks + 1 + 1 }:=I1.kept fun b o e=>Heap.get?_push_of_some _ e
  refine call_list_range (n:=j) (I2.ok.hd hc) (IsRange.new ..) (small_one (by decide) (by decide) (by omega) (by omega)) (by rw [rangeSize_one]; split <;> omega) (by omega) fun h' tk acc' c' hk hS hacc=>?_
  have hv:=Jmx hacc;have szl:sizeLine=16777216:=sizeLine_eq;refine ⟨.ref _,_,I2.laid (t':=tk) hk (Nat.le_refl _) (show Yd X.prog X.w _ h' _ (.lst ((List.range j).map fun (i:Nat)=>V.int (i:Int))) from ⟨by rw [List.length_map,List.length_range]; omega,acc'.toList,c',hv,by simpa using hS⟩),rfl,q _ (I2.hok.fresh (Nat.le_refl _))⟩
theorem cxK {CX:CXT} {P:Program} {w:World} {K:PySem.W.Frag} {mg:Str→Option Value} {base:Heap} {N:List Str} {q:Str} {sc:Scope} {f:Addr} {cd:Value} {A:Around} {o:List Env} {s:Shared} {H:Hp} {E:XK}:(Zs CX P w K mg base N q sc f cd A o s H E).nox.K=K:=rfl
theorem Jdo {CX:CXT} {P:Program} {w:World} {K:PySem.W.Frag} {mg:Str→Option Value} {base:Heap} {N:List Str} {q:Str} {sc:Scope} {f:Addr} {cd:Value} {A:Around} {o:List Env} {s:Shared} {H:Hp} {E:XK}:(Zs CX P w K mg base N q sc f cd A o s H E).K=K:=rfl
def JoT (tk tv:TE):TE:=fun σ H Q=>∀ p,H p=none→tk σ (upd H p (.dT [])) fun x H1=>tv σ H1 fun y H2=>∃ (k:List JI) (b:Addr),x=.ref b∧H2 b=some (.tup (k.map kV))∧H2 p=some (.dT [])∧Q (.ref p) (upd H2 p (.dT (Yn [] k y)))
theorem Jm7 {X:Cx} {pos:Pos} {k v:Expr} {tk tv:TE} (hu:X.A.units + 1 < cLine) (hk:PE X k tk) (hv:PE X v tv):PE X (.Dict [some k] [v] pos) (JoT tk tv):=by
 intro pins s σ H Q I q;have hn:=I.hok.fresh (Nat.le_refl s.heap.objs.size);have I1:=I.laid (a:=s.heap.objs.size) (o:=.dT []) (h':=s.heap.push { cls:=.type "dict",data:=.dict #[] }) (t':=s.toks) (fun _ _ q=>Heap.get?_push_of_some _ q) (Nat.le_refl _) (Jjf s.heap I.big);refine wpAny_Dict_any rfl rfl (fun z=>nomatch z) (by show 1≤15; decide) (pairTrees_cons_walk (JH (hk pins _ σ _ _ I1 (q _ hn)) fun u s1 ⟨x,H1,I2,rx,q1⟩=>JH (hv pins s1 σ H1 _ I2 q1) fun w2 s2 ⟨y,H2,I3,ry,ks,b,ex,eb,e,q2⟩=>pairTrees_nil_walk ?_));subst ex;cases (show u=Value.ref b from rx);obtain ⟨z,hd,xs,rel,dd⟩:=JnR I3.hok e;have hz:xs.length≤sizeLine:=by rw [← Paired.length rel]; exact z
 unfold storeAll;rw [List.forIn_cons];refine wpAny_bind (wpAny_bind (wpAny_dictSet_heap (hsz:=hz) (show X.A.units < cLine by omega) (Jes I3.hok eb) dd fun h' dd' hs=>wpAny_pure ?_));show wpAny _ _ (forIn [] _ _) _ _ _;rw [List.forIn_nil];refine wpAny_pure ⟨.ref s.heap.objs.size,_,?_,rfl,q2⟩;have hl:(Yn [] ks y:List (List JI×V)).length≤sizeLine:=by have:=Z0 ([]:List (List JI×V)) ks y; rw [sizeLine_eq]; simp at this; omega
 obtain ⟨qo,es,ep,hq,h2,h3,h4,_,h5⟩:=dd';refine Jfa I3 (by rw [e]; exact True.intro) hs ⟨qo,hq⟩ ⟨hl,hd,_,(rel.put ks eb ry).keeps fun c ys ec=>?_,qo,es,ep,hq,h2,h3,h4,h5⟩;rw [Jq (Jad ec e (fun z=>nomatch z))];exact ec
end L2
set_option maxHeartbeats 1600000
namespace Pf
open PySem L2
theorem Jiw:Jx ["text"] ["text"] (Jo JbQ):=⟨rfl,rfl,rfl,by decide +kernel,rfl,by decide +kernel,by decide +kernel⟩
theorem Jh2:Jx ["hand"] ["hand"] (Jo JcI):=⟨rfl,rfl,rfl,by decide +kernel,rfl,by decide +kernel,by decide +kernel⟩
theorem JmW:Jx ["hand"] ["hand"] (Jo JgS):=⟨rfl,rfl,rfl,by decide +kernel,rfl,by decide +kernel,by decide +kernel⟩
theorem JgM:Jx ["number", "most"] ["number", "most"] (Jo Jb5):=⟨rfl,rfl,rfl,by decide +kernel,rfl,by decide +kernel,by decide +kernel⟩
theorem JgN:Jx ["north", "south"] ["north", "south"] (Jo Jb8):=⟨rfl,rfl,rfl,by decide +kernel,rfl,by decide +kernel,by decide +kernel⟩
theorem Jix:Jx ["named", "coins"] ["named", "coins"] (Jo Jdj):=⟨rfl,rfl,rfl,by decide +kernel,rfl,by decide +kernel,by decide +kernel⟩
theorem JmX:Jx ["board", "place", "turns"] ["board", "place", "turns"] (Jo JgT):=⟨rfl,rfl,rfl,by decide +kernel,rfl,by decide +kernel,by decide +kernel⟩
theorem Jjw:Jx ["hand", "north", "south"] ["hand", "north", "south"] (Jo JdS):=⟨rfl,rfl,rfl,by decide +kernel,rfl,by decide +kernel,by decide +kernel⟩
theorem Jo6:Jx ["hand", "price", "north", "south", "ribbon"] ["hand", "price", "north", "south", "ribbon"] (Jo Jks):=⟨rfl,rfl,rfl,by decide +kernel,rfl,by decide +kernel,by decide +kernel⟩
theorem Jht:Jx ["north", "south", "ribbon", "bid", "answer", "bidder"] ["north", "south", "ribbon", "bid", "answer"] (Jo Jfv):=⟨rfl,rfl,rfl,by decide +kernel,rfl,by decide +kernel,by decide +kernel⟩
theorem Jec:Jx ["self", "board", "coins", "turns", "left"] ["self", "board", "coins", "turns"] (Jo Jdk):=⟨rfl,rfl,rfl,by decide +kernel,rfl,by decide +kernel,by decide +kernel⟩
theorem Zx:Jx ["self", "turns", "row", "place", "ribbon"] ["self", "turns"] (Jo JaP):=⟨rfl,rfl,rfl,by decide +kernel,rfl,by decide +kernel,by decide +kernel⟩
theorem Jab:Jx ["self", "place", "turns", "ribbon", "victor", "leading", "led"] ["self", "place", "turns", "ribbon"] (Jo Jbu):=⟨rfl,rfl,rfl,by decide +kernel,rfl,by decide +kernel,by decide +kernel⟩
theorem Zz:Jx ["self", "place", "turns", "behind"] ["self", "place", "turns"] (Jo Yp):=⟨rfl,rfl,rfl,by decide +kernel,rfl,by decide +kernel,by decide +kernel⟩
theorem Zy:Jx ["self", "place", "turns", "behind"] ["self", "place", "turns"] (Jo Yo):=⟨rfl,rfl,rfl,by decide +kernel,rfl,by decide +kernel,by decide +kernel⟩
theorem Jd6:Jx ["self", "place", "turns", "north", "ribbon"] ["self", "place", "turns", "north", "ribbon"] (Jo Jao):=⟨rfl,rfl,rfl,by decide +kernel,rfl,by decide +kernel,by decide +kernel⟩
theorem JgP:Jx ["self", "place", "turns", "north", "ribbon"] ["self", "place", "turns", "north", "ribbon"] (Jo Jca):=⟨rfl,rfl,rfl,by decide +kernel,rfl,by decide +kernel,by decide +kernel⟩
theorem Jdx:Jx ["self", "place", "turns", "north", "ribbon", "victor"] ["self", "place", "turns", "north", "ribbon"] (Jo Jcb):=⟨rfl,rfl,rfl,by decide +kernel,rfl,by decide +kernel,by decide +kernel⟩
theorem JaN:Jx ["self", "place", "turns", "north", "ribbon", "bid", "south", "answer"] ["self", "place", "turns", "north", "ribbon", "bid"] (Jo Ja3):=⟨rfl,rfl,rfl,by decide +kernel,rfl,by decide +kernel,by decide +kernel⟩
theorem Z1:Jx ["self", "place", "turns", "settled", "holder", "leader", "step"] ["self", "place", "turns", "settled", "holder"] (Jo Jap):=⟨rfl,rfl,rfl,by decide +kernel,rfl,by decide +kernel,by decide +kernel⟩
theorem Jc9:Jx ["self", "place", "turns", "north", "ribbon", "hand", "way"] ["self", "place", "turns", "north", "ribbon", "hand"] (Jo Jbt):=⟨rfl,rfl,rfl,by decide +kernel,rfl,by decide +kernel,by decide +kernel⟩
theorem Jeb:Jx ["things"] ["things"] (Jo JaO):=⟨rfl,rfl,rfl,by decide +kernel,rfl,by decide +kernel,by decide +kernel⟩
theorem JgO:Jx ["place", "places"] ["place", "places"] (Jo Jb9):=⟨rfl,rfl,rfl,by decide +kernel,rfl,by decide +kernel,by decide +kernel⟩
theorem Jc8:Jx ["places", "place"] ["places"] (Jo Jbs):=⟨rfl,rfl,rfl,by decide +kernel,rfl,by decide +kernel,by decide +kernel⟩
theorem Jdv:Jx ["lanes", "places", "lane"] ["lanes", "places"] (Jo Jb6):=⟨rfl,rfl,rfl,by decide +kernel,rfl,by decide +kernel,by decide +kernel⟩
theorem Jdw:Jx ["goals", "places", "goal"] ["goals", "places"] (Jo Jb7):=⟨rfl,rfl,rfl,by decide +kernel,rfl,by decide +kernel,by decide +kernel⟩
theorem Jh4:Jx ["self", "places", "lanes", "goals"] ["self", "places", "lanes", "goals"] (Jo JcJ):=⟨rfl,rfl,rfl,by decide +kernel,rfl,by decide +kernel,by decide +kernel⟩
theorem JdQ:Jx ["self", "place"] ["self", "place"] (Jo Z2):=⟨rfl,rfl,rfl,by decide +kernel,rfl,by decide +kernel,by decide +kernel⟩
theorem Jh3:Jx ["self", "place"] ["self", "place"] (Jo Ja9):=⟨rfl,rfl,rfl,by decide +kernel,rfl,by decide +kernel,by decide +kernel⟩
theorem Jfr:Jx ["self", "place"] ["self", "place"] (Jo Jba):=⟨rfl,rfl,rfl,by decide +kernel,rfl,by decide +kernel,by decide +kernel⟩
theorem JpV:Jx ["_law_script", "_law_k"] ["_law_script", "_law_k"] (Jo JmZ):=⟨rfl,rfl,rfl,by decide +kernel,rfl,by decide +kernel,by decide +kernel⟩
theorem JcG:Jx ["_law_cell", "_law_many", "_law_base", "_law_rest", "_law_mixed", "_law_found", "_law_k"] ["_law_cell", "_law_many", "_law_base"] (Jo Jkr):=⟨rfl,rfl,rfl,by decide +kernel,rfl,by decide +kernel,by decide +kernel⟩
theorem JmV:Jx ["_law_found"] ["_law_found"] (Jo JgQ):=⟨rfl,rfl,rfl,by decide +kernel,rfl,by decide +kernel,by decide +kernel⟩
theorem YF:Jx ["_law_cell", "_law_many", "_law_letters", "_law_free", "_law_found", "_law_k", "_law_places", "_law_size", "_law_head", "_law_more", "_law_name"] ["_law_cell", "_law_many"] (Jo JeV):=⟨rfl,rfl,rfl,by decide +kernel,rfl,by decide +kernel,by decide +kernel⟩
theorem Zg:Jx ["_law_cell", "_law_draw", "_law_size", "_law_pairs_here", "_law_many", "_law_k", "_law_ends", "_law_pair"] ["_law_cell", "_law_draw", "_law_size"] (Jo JgR):=⟨rfl,rfl,rfl,by decide +kernel,rfl,by decide +kernel,by decide +kernel⟩
theorem JcH:Jx ["_law_cell", "_law_kind", "_law_size", "_law_marks", "_law_found"] ["_law_cell", "_law_kind", "_law_size"] (Jo JeW):=⟨rfl,rfl,rfl,by decide +kernel,rfl,by decide +kernel,by decide +kernel⟩
theorem Ja2:Jx ["_law_script", "_law_at_here", "_law_size", "_law_names_here", "_law_kind", "_law_pairs_here", "_law_goals_here", "_law_lanes"] ["_law_script", "_law_at_here"] (Jo Jdy):=⟨rfl,rfl,rfl,by decide +kernel,rfl,by decide +kernel,by decide +kernel⟩
theorem Joh:Jx ["_law_ground", "_law_place"] ["_law_ground", "_law_place"] (Jo Jf8):=⟨rfl,rfl,rfl,by decide +kernel,rfl,by decide +kernel,by decide +kernel⟩
theorem Jo7:Jx ["_law_hand_here"] ["_law_hand_here"] (Jo Jkt):=⟨rfl,rfl,rfl,by decide +kernel,rfl,by decide +kernel,by decide +kernel⟩
theorem Joi:Jx ["_law_cell"] ["_law_cell"] (Jo Jiz):=⟨rfl,rfl,rfl,by decide +kernel,rfl,by decide +kernel,by decide +kernel⟩
theorem Jo5:Jx ["_law_ground", "_law_place", "_law_left"] ["_law_ground", "_law_place", "_law_left"] (Jo Jkq):=⟨rfl,rfl,rfl,by decide +kernel,rfl,by decide +kernel,by decide +kernel⟩
theorem Jam:Jx ["_law_north", "_law_south", "_law_ribbon", "_law_bid", "_law_reply", "_law_mover", "_law_price", "_law_holder"] ["_law_north", "_law_south", "_law_ribbon", "_law_bid", "_law_reply"] (Jo Jft):=⟨rfl,rfl,rfl,by decide +kernel,rfl,by decide +kernel,by decide +kernel⟩
theorem JeU:Jx ["_law_ground", "_law_cell", "_law_names_here", "_law_k", "_law_place"] ["_law_ground", "_law_cell"] (Jo Jiy):=⟨rfl,rfl,rfl,by decide +kernel,rfl,by decide +kernel,by decide +kernel⟩
theorem Joj:Jx ["_law_book", "_law_at_here", "_law_hand_here", "_law_total"] ["_law_book", "_law_at_here", "_law_hand_here", "_law_total"] (Jo JiA):=⟨rfl,rfl,rfl,by decide +kernel,rfl,by decide +kernel,by decide +kernel⟩
theorem Jkp:Jx ["_law_book", "_law_at_here", "_law_hand_here", "_law_total", "_law_bid"] ["_law_book", "_law_at_here", "_law_hand_here", "_law_total", "_law_bid"] (Jo Jed):=⟨rfl,rfl,rfl,by decide +kernel,rfl,by decide +kernel,by decide +kernel⟩
theorem Zh:Jx ["_law_book", "_law_ground", "_law_total", "_law_at_here", "_law_hand_here", "_law_bid", "_law_reply", "_law_place", "_law_left", "_law_north", "_law_ribbon", "_law_mover", "_law_coins", "_law_rest", "_law_holder", "_law_steps"] ["_law_book", "_law_ground", "_law_total", "_law_at_here", "_law_hand_here", "_law_bid", "_law_reply"] (Jo JeX):=⟨rfl,rfl,rfl,by decide +kernel,rfl,by decide +kernel,by decide +kernel⟩
theorem JbY:Jx ["_law_book", "_law_ground", "_law_total", "_law_at_here", "_law_hand_here", "_law_purses", "_law_found", "_law_bid", "_law_reply"] ["_law_book", "_law_ground", "_law_total", "_law_at_here", "_law_hand_here"] (Jo Jfw):=⟨rfl,rfl,rfl,by decide +kernel,rfl,by decide +kernel,by decide +kernel⟩
theorem Jea:Jx ["_law_book", "_law_ground", "_law_at_here", "_law_hand_here", "_law_told", "_law_won_here"] ["_law_book", "_law_ground", "_law_at_here", "_law_hand_here"] (Jo Jfu):=⟨rfl,rfl,rfl,by decide +kernel,rfl,by decide +kernel,by decide +kernel⟩
theorem ZO:Jx ["_law_book", "_law_ground", "_law_total", "_law_at_here", "_law_hand_here", "_law_seen", "_law_row_here", "_law_turn", "_law_later", "_law_one"] ["_law_book", "_law_ground", "_law_total", "_law_at_here", "_law_hand_here"] (Jo Jfs):=⟨rfl,rfl,rfl,by decide +kernel,rfl,by decide +kernel,by decide +kernel⟩
theorem Jan:Jx ["_law_script", "_law_ground", "_law_board", "_law_total", "_law_left", "_law_book", "_law_k", "_law_place", "_law_north", "_law_ribbon", "_law_hand_here"] ["_law_script"] (Jo JdR):=⟨rfl,rfl,rfl,by decide +kernel,rfl,by decide +kernel,by decide +kernel⟩
set_option genInjectivity false in
set_option genSizeOf false in
structure Txt (K:PySem.W.Frag) (mg:Str→Option Value) where
 JjZ:Addr
 Jja:FuncData
 JoO:Df K mg "_wall" JjH ["k"] JjZ Jja
 Jdm:Addr
 JcW:FuncData
 Jdq:Df K mg "good_name" JbQ ["text"] Jdm JcW
 JcZ:Addr
 Jce:FuncData
 JaC:Df K mg "check_hand" JcI ["hand"] JcZ Jce
 Jhb:Addr
 JfF:FuncData
 Jfe:Df K mg "other" JgS ["hand"] Jhb JfF
 Jch:Addr
 JbD:FuncData
 Y6:Df K mg "check_up_to" Jb5 ["number", "most"] Jch JbD
 Jck:Addr
 JbG:FuncData
 Jcr:Df K mg "check_coins" Jb8 ["north", "south"] Jck JbG
 Jdn:Addr
 JcX:FuncData
 JaW:Df K mg "check_bid" Jdj ["named", "coins"] Jdn JcX
 Jhe:Addr
 JfI:FuncData
 JcE:Df K mg "ended" JgT ["board", "place", "turns"] Jhe JfI
 Jd1:Addr
 Jdl:FuncData
 JaJ:Df K mg "coins_of" JdS ["hand", "north", "south"] Jd1 Jdl
 JkN:Addr
 Ji7:FuncData
 JgF:Df K mg "pay" Jks ["hand", "price", "north", "south", "ribbon"] JkN Ji7
 JfN:Addr
 JeB:FuncData
 JfY:Df K mg "settle" Jfv ["north", "south", "ribbon", "bid", "answer"] JfN JeB
 JaR:Addr
 Jax:FuncData
 Y7:Df K mg "check_each_once" JaO ["things"] JaR Jax
 Jcl:Addr
 JbH:FuncData
 Zv:Df K mg "check_among" Jb9 ["place", "places"] Jcl JbH
 JbK:Addr
 Jbj:FuncData
 JbP:Df K mg "check_places" Jbs ["places"] JbK Jbj
 Jci:Addr
 JbE:FuncData
 Jcp:Df K mg "check_lanes" Jb6 ["lanes", "places"] Jci JbE
 Jcj:Addr
 JbF:FuncData
 Jcq:Df K mg "check_goals" Jb7 ["goals", "places"] Jcj JbF
 Jnq:Addr
 JkK:FuncData
 Jcs:Df K mg "_law_at" JmZ ["_law_script", "_law_k"] Jnq JkK
 JkM:Addr
 Ji6:FuncData
 JgE:Df K mg "_law_row" Jkr ["_law_cell", "_law_many", "_law_base"] JkM Ji6
 Jg8:Addr
 JfC:FuncData
 Jfd:Df K mg "_law_whole" JgQ ["_law_found"] Jg8 JfC
 Jhc:Addr
 JfG:FuncData
 Jhk:Df K mg "_law_names" JeV ["_law_cell", "_law_many"] Jhc JfG
 Jha:Addr
 JfE:FuncData
 Jhj:Df K mg "_law_pairs" JgR ["_law_cell", "_law_draw", "_law_size"] Jha JfE
 Jhd:Addr
 JfH:FuncData
 Jhl:Df K mg "_law_goals" JeW ["_law_cell", "_law_kind", "_law_size"] Jhd JfH
 Jg9:Addr
 JfD:FuncData
 Jhi:Df K mg "_law_small" Jdy ["_law_script", "_law_at_here"] Jg9 JfD
 Jjb:Addr
 Jg4:FuncData
 JgD:Df K mg "_law_ways" Jf8 ["_law_ground", "_law_place"] Jjb Jg4
 JkP:Addr
 Ji9:FuncData
 Jff:Df K mg "_law_foe" Jkt ["_law_hand_here"] JkP Ji9
 Jjd:Addr
 Jg6:FuncData
 Jjs:Df K mg "_law_hand" Jiz ["_law_cell"] Jjd Jg6
 JkL:Addr
 Ji5:FuncData
 JgC:Df K mg "_law_won" Jkq ["_law_ground", "_law_place", "_law_left"] JkL Ji5
 JfL:Addr
 Jez:FuncData
 JfW:Df K mg "_law_turned" Jft ["_law_north", "_law_south", "_law_ribbon", "_law_bid", "_law_reply"] JfL Jez
 Jjc:Addr
 Jg5:FuncData
 Jjr:Df K mg "_law_open" Jiy ["_law_ground", "_law_cell"] Jjc Jg5
 Jje:Addr
 Jg7:FuncData
 Jjt:Df K mg "_law_bids" JiA ["_law_book", "_law_at_here", "_law_hand_here", "_law_total"] Jje Jg7
 JeD:Addr
 Jd0:FuncData
 JeN:Df K mg "_law_answers" Jed ["_law_book", "_law_at_here", "_law_hand_here", "_law_total", "_law_bid"] JeD Jd0
 Jhf:Addr
 JfJ:FuncData
 Jhm:Df K mg "_law_comes" JeX ["_law_book", "_law_ground", "_law_total", "_law_at_here", "_law_hand_here", "_law_bid", "_law_reply"] Jhf JfJ
 JfO:Addr
 JeC:FuncData
 JfZ:Df K mg "_law_behind" Jfw ["_law_book", "_law_ground", "_law_total", "_law_at_here", "_law_hand_here"] JfO JeC
 JfM:Addr
 JeA:FuncData
 JfX:Df K mg "_law_stands" Jfu ["_law_book", "_law_ground", "_law_at_here", "_law_hand_here"] JfM JeA
 JfK:Addr
 Jey:FuncData
 JfV:Df K mg "_law_won_by" Jfs ["_law_book", "_law_ground", "_law_total", "_law_at_here", "_law_hand_here"] JfK Jey
 JkO:Addr
 Ji8:FuncData
 JnZ:Df K mg "law" JdR ["_law_script"] JkO Ji8
 JdL:Addr
 Jg3:mg "HANDS" = some (.ref JdL)
 JeS:∀ H:Hp,JK K H JdL [.str "north",.str "south"]
 Jai:Value
 Jbh:mg "MOST_SIGNS" = some Jai
 Jbb:JF (.int 6) Jai
 Jah:Value
 Jaw:mg "MOST_TURNS" = some Jah
 Jaq:JF (.int 30) Jah
 Jak:Value
 ZL:mg "MOST_COINS" = some Jak
 ZI:JF (.int 20) Jak
 ZU:Value
 JaZ:mg "MOST_PLACES" = some ZU
 JaX:JF (.int 12) ZU
 Jaj:Value
 Jbi:mg "MOST_LANES" = some Jaj
 Jbc:JF (.int 40) Jaj
 JnP:mg "all" = none
 JaH:mg "len" = none
 Y2:mg "range" = none
 JkB:mg "min" = none
 JdX:mg "max" = none
 JnO:mg "set" = none
 JdF:mg "tuple" = none
 JcS:mg "sorted" = none
 Jat:mg "isinstance" = none
 Jh9:mg "int" = none
 JlH:mg "bool" = none
 JdG:mg "list" = none
 JkA:mg "str" = none
 Jdc:Addr
 Jgv:mg "BidmoverError" = some (.ref Jdc)
 Jet:Addr
 Jmj:mg "BadName" = some (.ref Jet)
 YZ:Addr
 JhP:mg "BadHand" = some (.ref YZ)
 J1:Addr
 Jc3:mg "OutOfRange" = some (.ref J1)
 Jg2:Addr
 JoI:mg "Twice" = some (.ref Jg2)
 YB:Addr
 JhO:mg "NoPlace" = some (.ref YB)
 JbB:Addr
 Jji:mg "BadBid" = some (.ref JbB)
 JC:Addr
 Jmi:mg "Book" = some (.ref JC)
 JJ:Cls K JC
 JbT:Addr
 JcY:FuncData
 Jdr:Md K JC "__init__" "Book.__init__" Jdk ["self", "board", "coins", "turns"] JbT JcY
 JaS:Addr
 Jay:FuncData
 ZG:Md K JC "needs_with" "Book.needs_with" JaP ["self", "turns"] JaS Jay
 JbM:Addr
 Jbl:FuncData
 JaK:Md K JC "need_at" "Book.need_at" Jbu ["self", "place", "turns", "ribbon"] JbM Jbl
 YR:Addr
 YK:FuncData
 JY:Md K JC "need_where_north_leads" "Book.need_where_north_leads" Yp ["self", "place", "turns"] YR YK
 YQ:Addr
 YJ:FuncData
 JX:Md K JC "need_where_south_leads" "Book.need_where_south_leads" Yo ["self", "place", "turns"] YQ YJ
 Jaz:Addr
 Z4:FuncData
 Yh:Md K JC "check_share" "Book.check_share" Jao ["self", "place", "turns", "north", "ribbon"] Jaz Z4
 Jcm:Addr
 JbI:FuncData
 Ys:Md K JC "winner" "Book.winner" Jca ["self", "place", "turns", "north", "ribbon"] Jcm JbI
 JeE:Addr
 Jd5:FuncData
 Jju:Md K JC "least" "Book.least" Jee ["self", "place", "turns", "ribbon"] JeE Jd5
 Jcn:Addr
 JbJ:FuncData
 Ja1:Md K JC "bid_of" "Book.bid_of" Jcb ["self", "place", "turns", "north", "ribbon"] Jcn JbJ
 Ja6:Addr
 JaQ:FuncData
 ZT:Md K JC "answer_of" "Book.answer_of" Ja3 ["self", "place", "turns", "north", "ribbon", "bid"] Ja6 JaQ
 JaA:Addr
 Z5:FuncData
 ZD:Md K JC "answer_wins" "Book.answer_wins" Jap ["self", "place", "turns", "settled", "holder"] JaA Z5
 JbL:Addr
 Jbk:FuncData
 Zd:Md K JC "step_of" "Book.step_of" Jbt ["self", "place", "turns", "north", "ribbon", "hand"] JbL Jbk
 JjU:Mk K JC JbT
 Yk:ZN K JC "board"
 ZY:ZN K JC "coins"
 Jcd:ZN K JC "turns"
 Zu:ZN K JC "needs"
 JD:Addr
 Jj7:mg "Board" = some (.ref JD)
 Yr:Cls K JD
 Jbn:Addr
 Jcg:FuncData
 Jc7:Md K JD "__init__" "Board.__init__" JcJ ["self", "places", "lanes", "goals"] Jbn Jcg
 Z6:Addr
 ZS:FuncData
 JW:Md K JD "check_place" "Board.check_place" Z2 ["self", "place"] Z6 ZS
 Jc0:Addr
 Jcf:FuncData
 Yz:Md K JD "ways" "Board.ways" Ja9 ["self", "place"] Jc0 Jcf
 Jbm:Addr
 Ja5:FuncData
 Jag:Md K JD "is_goal" "Board.is_goal" Jba ["self", "place"] Jbm Ja5
 JiX:Mk K JD Jbn
 Jae:ZN K JD "places"
 Jby:ZN K JD "lanes"
 Jbz:ZN K JD "goals"
 Jgz:ExC K YZ
 Jco:ExC K J1
 JhW:ExC K JbB
 Jny:ExC K Jg2
 Jgy:ExC K YB
 JkY:ExC K Jet
def hs:Bool→Str
 | true => "north"
 | false => "south"
theorem Jew (b:Bool):decide (V.str (hs b)=V.str "north")=b:=by cases b <;> decide +kernel
def ZF (ns:List Int) (k:Int):Int:=if k < ns.length then ns.getD k.toNat 0 else 0
def YX (z:Str):Prop:=z.length≤1000∧∀ c∈z.cps.toList,c < 16 ^ 8
theorem Jhq {z:Str} (h:YX z):(reprText z).length≤10002:=Nat.le_trans (PySem.StrLaws.reprText_len z h.2) (by have:=h.1; omega)
def JnF (z:Str):Bool:=decide (z.length≤1000) && z.cps.toList.all fun c=>decide (c < 16 ^ 8)
theorem Jn1 {z:Str} (h:JnF z=true):YX z:=by
 unfold JnF at h;rw [Bool.and_eq_true] at h;exact ⟨of_decide_eq_true h.1,fun c hc=>of_decide_eq_true (List.all_eq_true.mp h.2 c hc)⟩
def ZZ (z:Str):Bool:=z == "north" || z == "south"
theorem Y0 (b:Bool):ZZ (hs b)=true:=by cases b <;> decide +kernel
theorem JdI {z:Str} (h:ZZ z=true):∃ b,z=hs b:=by
 unfold ZZ at h;rcases Bool.or_eq_true_iff.mp h with q | q
 ·exact ⟨true,beq_iff_eq.mp q⟩
 ·exact ⟨false,beq_iff_eq.mp q⟩
theorem JlW (z:Str):inV (.str z) [.str "north",.str "south"]=ZZ z:=by
 have h:∀ a b:Str,(a == b)=(b == a):=fun a b=>by rw [Bool.eq_iff_iff,beq_iff_eq,beq_iff_eq]; exact eq_comm
 show ((("north" : Str) == z) || ((("south" : Str) == z) || false))=(z == "north" || z == "south")
 rw [Bool.or_false,h "north" z,h "south" z]
theorem ZH (b:Bool):YX (hs b):=Jn1 (by cases b <;> decide +kernel)
theorem lt1 (a b:Nat):decide ([a] < [b])=decide (a < b):=by
 rw [Bool.eq_iff_iff,decide_eq_true_eq,decide_eq_true_eq];constructor
 ·intro h;cases h with
  | rel h=>exact h
  | cons h=>cases h
 ·exact fun h=>.rel h
def Zw (c:Nat):Bool:=decide (97≤c) && decide (c≤122)
def Zp (z:Str):Bool:=decide (1≤z.length) && decide (z.length≤6) && z.cps.toList.all Zw
theorem Ji4 {z:Str} (h:Zp z=true):tm 6 z:=by
 unfold Zp at h;rw [Bool.and_eq_true,Bool.and_eq_true,decide_eq_true_eq,decide_eq_true_eq] at h;refine ⟨h.1.2,fun c hc=>?_⟩;have z:=List.all_eq_true.mp h.2 c hc;unfold Zw at z;rw [Bool.and_eq_true,decide_eq_true_eq,decide_eq_true_eq] at z;have:c≤122:=z.2;omega
theorem YI {z:Str} (h:Zp z=true):YX z:=(Ji4 h).mono (by decide)
structure Jc5 (ps:List Str) (zs:List (Str×Str)) (gs:List Str):Prop where
 p1:1≤ps.length
 p2:ps.length≤12
 p3:∀ p∈ps,Zp p=true
 p4:ps.Nodup
 l1:zs.length≤40
 l2:∀ z∈zs,z.1∈ps∧z.2∈ps
 l3:zs.Nodup
 g1:∀ g∈gs,g∈ps
 g2:gs.Nodup
theorem Jc5.glen {ps:List Str} {zs:List (Str×Str)} {gs:List Str} (G:Jc5 ps zs gs):gs.length≤12:=by
 have:∀ {l r:List Str},l.Nodup→(∀ x∈l,x∈r)→l.length≤r.length:=by
  intro l
  induction l with
  | nil=>exact fun _ _=>Nat.zero_le _
  | cons x l ih =>
   intro r hn hs
   classical
   have hx:=hs x (List.mem_cons_self ..);have h1:=List.nodup_cons.mp hn;obtain ⟨r1,r2,rfl⟩:=List.append_of_mem hx;have z:=ih (r:=r1 ++ r2) h1.2 fun y hy=>by
    have:=hs y (List.mem_cons_of_mem _ hy);simp only [List.mem_append,List.mem_cons] at this ⊢;rcases this with q | q | q
    ·exact .inl q
    ·subst q; exact absurd hy h1.1
    ·exact .inr q
   simp only [List.length_append,List.length_cons] at z ⊢;omega
 exact Nat.le_trans (this G.g2 G.g1) G.p2
theorem JcV (z:Str) (ps:List Str):inV (.str z) (ps.map V.str)=decide (z∈ps):=by
 rw [Bool.eq_iff_iff,decide_eq_true_eq];unfold inV;rw [List.any_eq_true];constructor
 ·rintro ⟨v,hv,e⟩;obtain ⟨y,hy,rfl⟩:=List.mem_map.mp hv;have e':(y == z)=true:=e;rw [← beq_iff_eq.mp e'];exact hy
 ·intro h;exact ⟨.str z,List.mem_map.mpr ⟨z,h,rfl⟩,beq_iff_eq.mpr rfl⟩
theorem Jb3 (ps:List Str):(ps.map V.str).all Jcy=true:=by
 rw [List.all_map,List.all_eq_true];exact fun _ _=>rfl
def JgV (p:Str×Str):List JI:=[.inr p.1,.inr p.2]
theorem Jm5 {p q:Str×Str} (h:JgV p=JgV q):p=q:=by
 unfold JgV at h;simp only [List.cons.injEq,Sum.inr.injEq,and_true] at h;exact Prod.ext h.1 h.2
theorem Jjx {zs:List (Str×Str)} (h:zs.Nodup):(zs.map JgV).Nodup:=by
 rw [List.Nodup,List.pairwise_map];exact List.Pairwise.imp (fun hne e=>hne (Jm5 e)) h
theorem Jku {K:PySem.W.Frag} {H:Hp} {zs:List (V×(Str×Str))} (h:YV K H zs):JdM K H (zs.map (·.1)) ((zs.map (·.2)).map JgV):=by
 refine ⟨by simp,fun i v ks hv hk=>?_⟩;rw [List.getElem?_map] at hv;obtain ⟨z,hz,rfl⟩:=Option.map_eq_some_iff.mp hv;rw [List.getElem?_map,List.getElem?_map,hz] at hk;have hk':JgV z.2=ks:=Option.some.inj hk;rw [← hk'];exact h z (List.mem_of_getElem? hz)
theorem ZR {K:PySem.W.Frag} {H H':Hp} {zs:List (V×(Str×Str))} (h:YV K H zs) (e:Jf H H'):YV K H' zs:=fun z hz=>let ⟨a,h1,h2⟩:=h z hz; ⟨a,h1,e.tup h2⟩
def JaL (K:PySem.W.Frag) (C:Addr) (H:Hp) (b:Addr) (ps:List Str) (zs:List (V×(Str×Str))) (gs:List Str):Prop :=
 ∃ dx tp tl tg,H b=some (.ins C dx [("places",.ref tp),("lanes",.ref tl),("goals",.ref tg)])∧H tp=some (.tup (ps.map V.str))∧H tl=some (.tup (zs.map (·.1)))∧YV K H zs∧H tg=some (.tup (gs.map V.str))
theorem JaL.same {K:PySem.W.Frag} {C:Addr} {H H':Hp} {b:Addr} {ps:List Str} {zs:List (V×(Str×Str))} {gs:List Str} (h:JaL K C H b ps zs gs) (e:Jf H H'):JaL K C H' b ps zs gs :=
 let ⟨dx,tp,tl,tg,h1,h2,h3,h4,h5⟩:=h; ⟨dx,tp,tl,tg,e _ _ h1,e _ _ h2,e _ _ h3,ZR h4 e,e _ _ h5⟩
def Zo (b:Addr) (H H':Hp):Prop:=∀ a u,a≠b→H a=some u→H' a=some u
theorem Zo.of {b:Addr} {H H':Hp} (e:Jf H H'):Zo b H H':=fun a u _ h=>e a u h
theorem Zo.trans {b:Addr} {H H' H2:Hp} (e:Zo b H H') (e2:Zo b H' H2):Zo b H H2:=fun a u hn h=>e2 a u hn (e a u hn h)
theorem Zo.put {b:Addr} {H:Hp} {o:HO}:Zo b H (upd H b o):=fun a u hn h=>by rw [Jq hn]; exact h
theorem Zo.seq {K:PySem.W.Frag} {b l C dx:Addr} {fs:List (Str×V)} {H H':Hp} {xs:List V} (e:Zo b H H') (hb:H b=some (.ins C dx fs)) (h:Js K H l xs):Js K H' l xs:=by
 rcases h with (h | ⟨o,h⟩) | h
 ·exact .inl (.inl (e _ _ (Jad h hb (fun z=>nomatch z)) h))
 ·exact .inl (.inr ⟨o,e _ _ (Jad h hb (fun z=>nomatch z)) h⟩)
 ·exact .inr h
theorem Zo.tup {K:PySem.W.Frag} {b l C dx:Addr} {fs:List (Str×V)} {H H':Hp} {xs:List V} (e:Zo b H H') (hb:H b=some (.ins C dx fs)) (h:JK K H l xs):JK K H' l xs:=by
 rcases h with (h | ⟨o,h⟩) | h
 ·exact .inl (.inl (e _ _ (Jad h hb (fun z=>nomatch z)) h))
 ·exact .inl (.inr ⟨o,e _ _ (Jad h hb (fun z=>nomatch z)) h⟩)
 ·exact .inr h
def Joc:Sp:=fun vs H Q _=>∃ z:Str,vs=[.str z]∧z.length≤1000∧∀ H',Jf H H'→Q (.bl (Zp z)) H'
def Jn9 (K:PySem.W.Frag):Sp:=fun vs H Q _=>∃ l:Addr,vs=[.ref l]∧((∃ ss:List Str,Js K H l (ss.map V.str)∧ss.length≤64∧ss.Nodup)∨(∃ (us:List V) (kss:List (List JI)),Js K H l us∧JdM K H us kss∧kss.length≤64∧kss.Nodup))∧∀ H',Jf H H'→Q .non H'
def JmL (K:PySem.W.Frag) (k:Addr):Sp:=fun vs H Q E=>∃ (z:Str) (t:Addr) (ps:List Str),vs=[.str z,.ref t]∧YX z∧(Js K H t (ps.map V.str)∨JK K H t (ps.map V.str))∧(z∈ps→Q .non H)∧(z∉ps→E (.ref k) none H)
def Jki (K:PySem.W.Frag):Sp:=fun vs H Q _=>∃ (l:Addr) (ps:List Str),vs=[.ref l]∧Js K H l (ps.map V.str)∧1≤ps.length∧ps.length≤12∧(∀ p∈ps,Zp p=true)∧ps.Nodup∧∀ H',Jf H H'→Q .non H'
def Jlh (K:PySem.W.Frag):Sp:=fun vs H Q _=>∃ (l lp:Addr) (zs:List (V×(Str×Str))) (ps:List Str),vs=[.ref l,.ref lp]∧Js K H l (zs.map (·.1))∧YV K H zs∧Js K H lp (ps.map V.str)∧(∀ p∈ps,YX p)∧zs.length≤40∧(∀ z∈zs,z.2.1∈ps∧z.2.2∈ps)∧(zs.map (·.2)).Nodup∧∀ H',Jf H H'→Q .non H'
def Jli (K:PySem.W.Frag):Sp:=fun vs H Q _=>∃ (l lp:Addr) (gs ps:List Str),vs=[.ref l,.ref lp]∧Js K H l (gs.map V.str)∧Js K H lp (ps.map V.str)∧(∀ p∈ps,YX p)∧gs.length≤64∧(∀ g∈gs,g∈ps)∧gs.Nodup∧∀ H',Jf H H'→Q .non H'
def JjG (K:PySem.W.Frag) (C:Addr):Sp:=fun vs H Q _=>∃ (b lp ll lg dx:Addr) (ps:List Str) (zs:List (V×(Str×Str))) (gs:List Str),vs=[.ref b,.ref lp,.ref ll,.ref lg]∧H b=some (.ins C dx [])∧Js K H lp (ps.map V.str)∧Js K H ll (zs.map (·.1))∧YV K H zs∧Js K H lg (gs.map V.str)∧Jc5 ps (zs.map (·.2)) gs ∧
 ∀ H' ps' zs' gs',Zo b H H'→ps'.Perm ps→ps'.Pairwise sle→zs'.Perm zs→(zs'.map (·.2)).Pairwise ple→gs'.Perm gs→gs'.Pairwise sle→JaL K C H' b ps' zs' gs'→Q .non H'
def Jlg (K:PySem.W.Frag) (C k:Addr):Sp:=fun vs H Q E=>∃ (b:Addr) (z:Str) (ps:List Str) (zs:List (V×(Str×Str))) (gs:List Str),vs=[.ref b,.str z]∧YX z∧JaL K C H b ps zs gs∧(z∈ps→Q .non H)∧(z∉ps→E (.ref k) none H)
def Jm (zs:List (Str×Str)) (p:Str):List Str:=(zs.filter fun z=>decide (z.1=p)).map (·.2)
def Jn6 (K:PySem.W.Frag) (C k:Addr):Sp:=fun vs H Q E=>∃ (b:Addr) (z:Str) (ps:List Str) (zs:List (V×(Str×Str))) (gs:List Str),vs=[.ref b,.str z]∧YX z∧zs.length≤40∧JaL K C H b ps zs gs∧(z∈ps→∀ t H',Jf H H'→H' t=some (.tup ((Jm (zs.map (·.2)) z).map V.str))→Q (.ref t) H')∧(z∉ps→E (.ref k) none H)
def Jle (K:PySem.W.Frag) (C k:Addr):Sp:=fun vs H Q E=>∃ (b:Addr) (z:Str) (ps:List Str) (zs:List (V×(Str×Str))) (gs:List Str),vs=[.ref b,.str z]∧YX z∧JaL K C H b ps zs gs∧(z∈ps→Q (.bl (decide (z∈gs))) H)∧(z∉ps→E (.ref k) none H)
def JpU (K:PySem.W.Frag):Sp:=fun vs H Q _=>∃ (a:Addr) (ns:List Int) (k:Int),vs=[.ref a,.int k]∧Js K H a (ns.map V.int)∧0≤k∧Q (.int (ZF ns k)) H
def Jkk (K:PySem.W.Frag):Sp:=fun vs H Q _=>∃ (a:Addr) (ns:List Int),vs=[.ref a]∧Js K H a (ns.map V.int)∧ns.length≤63∧∀ H',Q (.bl true) H'
def JoY:Sp:=fun vs H Q _=>∃ (c:Int) (n:Nat) (b:Int),vs=[.int c,.int n,.int b]∧n≤1000∧0 < b∧b < 1000000∧∀ (p:Addr) (xs:List Int) (H':Hp),H p=none→Jf H H'→H' p=some (.lst (xs.map V.int))→xs.length=n→(∀ x∈xs,0≤x∧x < b)→Q (.ref p) H'
theorem Jem {α:Type}:∀ {l r:List α},l.Nodup→(∀ x∈l,x∈r)→l.length≤r.length
 | [],_,_,_=>Nat.zero_le _
 | x :: l,r,hn,hs=>by
  have hx:=hs x (List.mem_cons_self ..);have h1:=List.nodup_cons.mp hn;obtain ⟨r1,r2,rfl⟩:=List.append_of_mem hx;have z:=Jem (l:=l) (r:=r1 ++ r2) h1.2 fun y hy=>by
   have:=hs y (List.mem_cons_of_mem _ hy);simp only [List.mem_append,List.mem_cons] at this ⊢;rcases this with q | q | q
   ·exact .inl q
   ·subst q; exact absurd hy h1.1
   ·exact .inr q
  simp only [List.length_append,List.length_cons] at z ⊢;omega
theorem JcA {xs:List Int} {e:Int} (h0:0≤e) (h1:e < xs.length):∃ y,atI (xs.map V.int) e=some (.int y)∧y∈xs:=by
 obtain ⟨j,rfl⟩:∃ j:Nat,e=(j:Int):=⟨e.toNat,by omega⟩
 have hj:j < xs.length:=by omega
 exact ⟨xs[j],JbN (by rw [List.getElem?_map,List.getElem?_eq_getElem hj]; rfl),List.getElem_mem hj⟩
def LT:Str := "abcdefghijklmnopqrstuvwxyz"
theorem JhD {j:Int} (h0:0≤j) (h1:j < 26):atI LT.cps.toList j=some (97 + j.toNat):=by
 obtain ⟨i,rfl⟩:∃ i:Nat,j=(i:Int):=⟨j.toNat,by omega⟩
 have hi:i < 26:=by omega
 refine JbN ?_;rw [Int.toNat_natCast];have z:∀ i,i < 26→LT.cps.toList[i]?=some (97 + i):=by decide +kernel
 exact z i hi
theorem Jms:LT.length≤sizeLine:=by decide +kernel
theorem Jit {j:Nat} (h:j < 26):Zw (97 + j)=true:=by
 unfold Zw;rw [decide_eq_true (by omega),decide_eq_true (by omega)]; rfl
theorem Jgk:∀ {ys:List Str},(∀ y∈ys,∃ c,y=⟨#[c]⟩∧Zw c=true)→(Str.join Str.empty ys).length=ys.length∧∀ c∈(Str.join Str.empty ys).cps.toList,Zw c=true
 | [],_=>⟨rfl,fun c hc=>by simp [Str.join,Str.empty] at hc⟩
 | [y],h=>by
  obtain ⟨c,rfl,hc⟩:=h y (List.mem_cons_self ..);exact ⟨rfl,fun d hd=>by
   have e:d=c:=by simpa [Str.join] using hd
   rw [e]; exact hc⟩
 | y :: x :: r,h=>by
  obtain ⟨c,rfl,hc⟩:=h y (List.mem_cons_self ..);obtain ⟨a,b⟩:=Jgk (ys:=x :: r) fun q hq=>h q (List.mem_cons_of_mem _ hq)
  have e:Str.join Str.empty (⟨#[c]⟩ :: x :: r)=(⟨#[c]⟩:Str) ++ Str.empty ++ Str.join Str.empty (x :: r):=rfl;rw [e];refine ⟨?_,fun d hd=>?_⟩
  ·rw [strLen_append,strLen_append,a];simp only [List.length_cons];show 1 + 0 + _=_;omega
  ·rcases PyProof.Rows.mem_cps_append.mp hd with q | q
   ·rcases PyProof.Rows.mem_cps_append.mp q with q | q
    ·have e2:d=c:=by simpa using q
     rw [e2]; exact hc
    ·simp [Str.empty] at q
   ·exact b d q
def nam (hd:Str) (j:Nat):Str:=hd ++ ⟨#[97 + j]⟩
theorem Jnh {hd:Str} {j:Nat} (h1:hd.length≤5) (h2:∀ c∈hd.cps.toList,Zw c=true) (hj:j < 26):Zp (nam hd j)=true:=by
 unfold Zp nam;have e:(hd ++ (⟨#[97 + j]⟩:Str)).length=hd.length + 1:=by rw [strLen_append]; rfl
 rw [Bool.and_eq_true,Bool.and_eq_true,decide_eq_true_eq,decide_eq_true_eq,e,List.all_eq_true];refine ⟨⟨by omega,by omega⟩,fun c hc=>?_⟩;rcases PyProof.Rows.mem_cps_append.mp hc with q | q
 ·exact h2 c q
 ·have e2:c=97 + j:=by simpa using q
  rw [e2]; exact Jit hj
theorem Jow {hd:Str} {i j:Nat} (h:nam hd i=nam hd j):i=j:=by
 have e:(hd.cps ++ #[97 + i])=(hd.cps ++ #[97 + j]):=congrArg Str.cps h;have e2:=congrArg Array.toList e;rw [Array.toList_append,Array.toList_append] at e2;have e3:=List.append_cancel_left e2;simp at e3;omega
theorem Jni {hd:Str} {x:Int} {ss:List Str} (h:ss.length < 26) (hx:∀ m:Nat,m < 26→nam hd ((x + m) % 26).toNat∈ss):False:=by
 have nd:((List.range 26).map fun m=>nam hd ((x + (m:Nat)) % 26).toNat).Nodup:=by
  rw [List.Nodup,List.pairwise_map];refine List.Pairwise.imp_of_mem ?_ (List.pairwise_lt_range (n:=26));intro a b ha hb hlt e;have e2:=Jow e;have:=List.mem_range.mp ha;have:=List.mem_range.mp hb;have h1:=Int.emod_nonneg (x + (a:Nat)) (b:=26) (by decide);have h2:=Int.emod_nonneg (x + (b:Nat)) (b:=26) (by decide);omega
 have z:=Jem (r:=ss) nd fun y hy=>by
  obtain ⟨m,hm,rfl⟩:=List.mem_map.mp hy;exact hx m (List.mem_range.mp hm)
 rw [List.length_map,List.length_range] at z;omega
theorem Jj5 {xs:List Int} {k:Int} (h0:0≤k) (h1:k≤xs.length):((JaT (xs.map V.int) none (some k)).length:Int)=k:=by
 unfold JaT;rw [List.length_map,HT.Jm0];show ((List.take ((if k < 0 then _ else _) - 0) _).length:Int)=k;rw [if_neg (by omega),List.length_take,List.length_drop,List.length_map];omega
theorem Jjg {xs:List Int} {lo hi:Option Int}:∃ ys:List Int,JaT (xs.map V.int) lo hi=ys.map V.int∧∀ y∈ys,y∈xs:=by
 refine ⟨(xs.drop (HT.sIx xs.length 0 lo)).take (HT.sIx xs.length xs.length hi - HT.sIx xs.length 0 lo),?_,fun y hy=>List.mem_of_mem_drop (List.mem_of_mem_take hy)⟩;unfold JaT;rw [List.length_map,List.map_take,List.map_drop]
def JmF:Sp:=fun vs H Q _=>∃ (c:Int) (n:Nat),vs=[.int c,.int n]∧1≤n∧n≤12∧∀ (p:Addr) (ss:List Str) (H':Hp),H p=none→Jf H H'→H' p=some (.lst (ss.map V.str))→ss.length=n→(∀ s∈ss,Zp s=true)→ss.Nodup→Q (.ref p) H'
def Jmt (K:PySem.W.Frag) (H:Hp) (zs:List (V×(Int×Int))):Prop:=∀ z∈zs,∃ a,z.1=.ref a∧JK K H a [.int z.2.1,.int z.2.2]
def Jev (p:Int×Int):List JI:=[.inl p.1,.inl p.2]
theorem Jnl {p q:Int×Int} (h:Jev p=Jev q):p=q:=by
 unfold Jev at h;simp only [List.cons.injEq,Sum.inl.injEq,and_true] at h;exact Prod.ext h.1 h.2
theorem JjA {K:PySem.W.Frag} {H:Hp} {zs:List (V×(Int×Int))} (h:Jmt K H zs):JdM K H (zs.map (·.1)) ((zs.map (·.2)).map Jev):=by
 refine ⟨by simp,fun i v ks hv hk=>?_⟩;rw [List.getElem?_map] at hv;obtain ⟨z,hz,rfl⟩:=Option.map_eq_some_iff.mp hv;rw [List.getElem?_map,List.getElem?_map,hz] at hk;have hk':Jev z.2=ks:=Option.some.inj hk;rw [← hk'];exact h z (List.mem_of_getElem? hz)
structure PW (K:PySem.W.Frag) (H0:Hp) (pl:Addr) (size:Nat) (H:Hp) (zs:List (V×(Int×Int))):Prop where
 sm:Jf H0 H
 at_:H pl=some (.lst (zs.map (·.1)))
 ip:Jmt K H zs
 nd:(zs.map (·.2)).Nodup
 rg:∀ z∈zs,(0≤z.2.1∧z.2.1 < size)∧(0≤z.2.2∧z.2.2 < size)
theorem PW.add {K:PySem.W.Frag} {H0:Hp} {pl:Addr} {size:Nat} {H H':Hp} {zs:List (V×(Int×Int))} (h:PW K H0 pl size H zs) (n0:H0 pl=none) (e:Jf H H') {t:Addr} {a b:Int} (ht:H' t=some (.tup [.int a,.int b]))
  (hn:(a,b)∉zs.map (·.2)) (hr:(0≤a∧a < size)∧(0≤b∧b < size)):PW K H0 pl size (upd H' pl (.lst (zs.map (·.1) ++ [.ref t]))) (zs ++ [(.ref t,(a,b))]):=by
 have hp':=e _ _ h.at_;have tup:∀ {a:Addr} {xs:List V},JK K H' a xs→JK K (upd H' pl (.lst (zs.map (·.1) ++ [.ref t]))) a xs:=fun {a xs} q=>by
  rcases q with (q | ⟨o,q⟩) | q
  ·exact .inl (.inl (by rw [Jq (Jad q hp' (fun z=>nomatch z))]; exact q))
  ·exact .inl (.inr ⟨o,by rw [Jq (Jad q hp' (fun z=>nomatch z))]; exact q⟩)
  ·exact .inr q
 refine ⟨fun b' u q=>?_,by rw [Jh,List.map_append]; rfl,fun z hz=>?_,?_,fun z hz=>?_⟩
 ·rw [Jq (JB q n0)]; exact e _ _ (h.sm _ _ q)
 ·rcases List.mem_append.mp hz with q | q
  ·obtain ⟨c,h1,h2⟩:=h.ip z q;exact ⟨c,h1,tup (e.tup h2)⟩
  ·rw [List.mem_singleton.mp q];exact ⟨t,rfl,tup (JK.of ht)⟩
 ·rw [List.map_append,List.nodup_append];refine ⟨h.nd,by simp,fun x hx y hy q=>?_⟩;have hy':y=(a,b):=by simpa using hy
  rw [q,hy'] at hx;exact hn hx
 ·rcases List.mem_append.mp hz with q | q
  ·exact h.rg z q
  ·rw [List.mem_singleton.mp q]; exact hr
def JmC (K:PySem.W.Frag):Sp:=fun vs H Q _=>∃ (c d:Int) (n:Nat),vs=[.int c,.int d,.int n]∧1≤n∧n≤12∧∀ (p:Addr) (zs:List (V×(Int×Int))) (H':Hp),H p=none→PW K H p n H' zs→zs.length≤40→Q (.ref p) H'
section
variable {P:Program} {w:World} {K:PySem.W.Frag} {mg:Str→Option Value} {base:Heap}
theorem JbS (T:Txt K mg):JN P w K mg base YO 1 T.Jnq T.JkK ["_law_script", "_law_k"] (JpU K):=by
 refine T.Jcs.F.ok JpV (fun vs H Q E h=>?_) (fun cdv A outer s H vs Q E hr h=>?_)
 ·obtain ⟨a,ns,k,rfl,_⟩:=h;rfl
 ·obtain ⟨a,ns,k,rfl,hS,h0,q⟩:=h;refine ⟨_,(@Jd _ _ _ _ _ (@JL _ _ _ _ _ _ _ _ (@Jp _ _ _ _ _ _ _ _ (@Jbe _) (@pv _ 1 _ _ rfl (.inl rfl) rfl rfl) (@JS _ _ _ _ _ _ _ _ _ (@YL _) rfl T.JaH PySem.boot_len (@Ja _ _ _ _ _ (@pv _ 0 _ _ rfl (.inl rfl) rfl rfl) (@Jb _) rfl) (by decide) (by decide) rfl rfl) (Ju _)) (@Jg _ _ _ (@Jt _ _ _ _ (@JA _ _ _ _ _ _ _ (@J4 _) (@pv _ 0 _ _ rfl (.inl rfl) rfl rfl) (@pv _ 1 _ _ rfl (.inl rfl) rfl rfl) (fun _ _=>rfl)))) (@Jw _)) (@Jg _ _ _ (@Jt _ _ _ _ (@Jc _ _ _ _)))),?_⟩;refine ⟨_,rfl,_,rfl,a,_,rfl,.inl hS,_,_,rfl,rfl,_,rfl,?_⟩;rw [List.length_map];refine YE (fun c=>?_) (fun c=>?_)
  ·have c':k < ns.length:=of_decide_eq_true c;refine ⟨_,rfl,_,rfl,a,_,k,.int (ZF ns k),rfl,rfl,hS,?_,q⟩;obtain ⟨j,rfl⟩:∃ j:Nat,k=(j:Int):=⟨k.toNat,by omega⟩
   have hj:j < ns.length:=by omega
   refine JbN ?_;rw [List.getElem?_map];unfold ZF;rw [if_pos c',Int.toNat_natCast,List.getD_eq_getElem?_getD,List.getElem?_eq_getElem hj];rfl
  ·have c':¬ k < ns.length:=fun z=>c (decide_eq_true z)
   have e:ZF ns k=0:=by unfold ZF; rw [if_neg c']
   rw [e] at q;exact q
theorem JiP (T:Txt K mg):JN P w K mg base YO 1 T.JkM T.Ji6 ["_law_cell", "_law_many", "_law_base"] JoY:=by
 refine T.JgE.F.ok JcG (fun vs H Q E h=>?_) (fun cdv A outer s H vs Q E hr h=>?_)
 ·obtain ⟨_,_,_,rfl,_⟩:=h;rfl
 ·obtain ⟨c,n,b,rfl,hn,hb0,hb1,q⟩:=h;refine ⟨_,(@Jd _ _ _ _ _ (@Jr _ _ 3 _ _ _ _ JcG.nd rfl (Or.inl rfl) (@Jl _ _ _ _ _ _ _ _ (@ZJ _) (@pv _ 0 _ _ rfl (.inl rfl) rfl rfl) (@Jc _ _ _ _)) rfl (.inl rfl)) (@Jd _ _ _ _ _ (@Jr _ _ 4 _ _ _ _ JcG.nd rfl (Or.inl rfl) (@Jl _ _ _ _ _ _ _ _ (@JZ _) (@pv _ 0 _ _ rfl (.inl rfl) rfl rfl) (@Jc _ _ _ _)) rfl (.inl rfl)) (@Jd _ _ _ _ _ (@Jr _ _ 5 _ _ _ _ JcG.nd rfl (Or.inl rfl) (@Yj _ _ _ _ (@Jb _)) rfl (.inl rfl)) (@Jd _ _ _ _ _ (@Yv _ _ _ _ _ _ _ _ PassesOwn.never rfl (@Za _ _ _ _ _ _ rfl T.Y2 (@Ja _ _ _ _ _ (@pv _ 1 _ _ rfl (.inl rfl) rfl rfl) (@Jb _) rfl) rfl) (@JV _ _ 6 _ JcG.nd rfl (Or.inl rfl) (.inl rfl)) (@Jd _ _ _ _ _ (@Jr _ _ 4 _ _ _ _ JcG.nd rfl (Or.inl rfl) (@Jl _ _ _ _ _ _ _ _ (@JZ _) (@Jl _ _ _ _ _ _ _ _ (@JP _) (@Jl _ _ _ _ _ _ _ _ (@JP _) (@Jl _ _ _ _ _ _ _ _ (@ZX _) (@pv _ 4 _ _ rfl (.inl rfl) rfl rfl) (@Jc _ _ _ _)) (@Jl _ _ _ _ _ _ _ _ (@ZX _) (@Jc _ _ _ _) (@pv _ 6 _ _ rfl (.inl rfl) rfl rfl))) (@Jc _ _ _ _)) (@Jc _ _ _ _)) rfl (.inl rfl)) (@Jd _ _ _ _ _ (@JL _ _ _ _ _ _ _ _ (@Jp _ _ _ _ _ _ _ _ (@J2 _) (@Jl _ _ _ _ _ _ _ _ (@JZ _) (@pv _ 0 _ _ rfl (.inl rfl) rfl rfl) (@Jc _ _ _ _)) (@Jc _ _ _ _) (Ju _)) (@Jg _ _ _ (@JG _ _ _ _ (@JaE _ _ _ _ _ _ _ _ _ _ _ _ PySem.F.plainAttrs_list PySem.F.slot_list_append PySem.F.type_list_append (@YY _) (@pv _ 5 _ _ rfl (.inl rfl) rfl rfl) (@Ja _ _ _ _ _ (@Jl _ _ _ _ _ _ _ _ (@JZ _) (@pv _ 3 _ _ rfl (.inl rfl) rfl rfl) (@pv _ 2 _ _ rfl (.inl rfl) rfl rfl)) (@Jb _) rfl) rfl rfl rfl rfl rfl) rfl)) (@Jg _ _ _ (@JG _ _ _ _ (@JaE _ _ _ _ _ _ _ _ _ _ _ _ PySem.F.plainAttrs_list PySem.F.slot_list_append PySem.F.type_list_append (@YY _) (@pv _ 5 _ _ rfl (.inl rfl) rfl rfl) (@Ja _ _ _ _ _ (@Jl _ _ _ _ _ _ _ _ (@JZ _) (@Jl _ _ _ _ _ _ _ _ (@JP _) (@Jl _ _ _ _ _ _ _ _ (@ZJ _) (@pv _ 4 _ _ rfl (.inl rfl) rfl rfl) (@Jc _ _ _ _)) (@Jl _ _ _ _ _ _ _ _ (@JZ _) (@Jl _ _ _ _ _ _ _ _ (@ZX _) (@pv _ 4 _ _ rfl (.inl rfl) rfl rfl) (@Jc _ _ _ _)) (@Jc _ _ _ _))) (@pv _ 2 _ _ rfl (.inl rfl) rfl rfl)) (@Jb _) rfl) rfl rfl rfl rfl rfl) rfl))) (@Jg _ _ _ (@Jr _ _ 3 _ _ _ _ JcG.nd rfl (Or.inl rfl) (@Jl _ _ _ _ _ _ _ _ (@ZJ _) (@pv _ 3 _ _ rfl (.inl rfl) rfl rfl) (@pv _ 2 _ _ rfl (.inl rfl) rfl rfl)) rfl (.inl rfl))))) (by intro _; rfl)) (@Jg _ _ _ (@Jt _ _ _ _ (@pv _ 5 _ _ rfl (.inl rfl) rfl rfl))))))),?_⟩
  try dsimp only [cxK,Jdo]
  refine ⟨_,rfl,_,_,rfl,rfl,⟨by decide,by decide⟩,_,rfl,_,_,rfl,rfl,(by show (0:Int) < 2147483647; decide),by show 0≤sizeLine; decide,fun p hp=>?_⟩;have hs0:n < sizeLine:=Nat.lt_of_le_of_lt hn (by decide);refine ⟨_,rfl,(n:Int),rfl,by omega,by omega,?_⟩;refine Zc (n:=n) (fun i σ H2=>∃ (r m:Int) (xs:List Int) (v:Option V),Jf H H2∧H2 p=some (.lst (xs.map V.int))∧xs.length=i∧(∀ x∈xs,0≤x∧x < b)∧σ=[some (.int c),some (.int n),some (.int b),some (.int r),some (.int m),some (.ref p),v])
   ⟨_,_,[],none,Jf.upd hp,Jh,rfl,(fun x hx=>nomatch hx),rfl⟩ ?_ ?_
  ·rintro i σ H2 hi ⟨r,m,xs,v,e,hx,hl,hr,rfl⟩;have add:∀ x:Int,0≤x∧x < b→Jf H (upd H2 p (.lst (xs.map V.int ++ [.int x])))∧upd H2 p (.lst (xs.map V.int ++ [.int x])) p=some (.lst ((xs ++ [x]).map V.int))∧(xs ++ [x]).length=i + 1∧∀ y∈xs ++ [x],0≤y∧y < b:=fun x h=>by
    refine ⟨fun b' u q=>?_,by rw [Jh,List.map_append]; rfl,by simp [hl],fun y hy=>?_⟩
    ·rw [Jq (JB q hp)]; exact e b' u q
    ·rcases List.mem_append.mp hy with z | z
     ·exact hr y z
     ·rw [List.mem_singleton.mp z]; exact h
   refine ⟨_,rfl,_,_,rfl,rfl,.inr ⟨by decide,by decide⟩,_,rfl,_,_,rfl,rfl,.inl ⟨by decide,by decide⟩,_,_,rfl,rfl,_,_,rfl,rfl,_,_,rfl,rfl,(by show (0:Int) < 2147483647; decide),?_⟩;have hxl:(xs.map V.int).length < sizeLine:=by rw [List.length_map]; omega
   refine ⟨_,rfl,_,_,rfl,rfl,(by show (0:Int) < 2; decide),rfl,_,rfl,YE (fun _=>?_) (fun _=>?_)⟩
   ·refine ⟨_,rfl,.inl ⟨rfl,_,Js.of hx⟩,_,rfl,_,rfl,_,_,rfl,rfl,hb0,p,_,_,rfl,rfl,hx,hxl,?_⟩;refine ⟨_,rfl,_,rfl,_,_,rfl,rfl,⟨hb0,by show b < 1073741824; omega⟩,?_⟩;obtain ⟨a1,a2,a3,a4⟩:=add (r % b) ⟨Int.emod_nonneg _ (by omega),Int.emod_lt_of_pos _ hb0⟩;exact ⟨_,_,xs ++ [r % b],_,a1,a2,a3,a4,rfl⟩
   ·refine ⟨_,rfl,.inl ⟨rfl,_,Js.of hx⟩,_,rfl,_,_,rfl,rfl,⟨by decide,by decide⟩,_,rfl,_,_,rfl,rfl,.inr ⟨by decide,by decide⟩,_,_,rfl,rfl,(by show (0:Int) < 2147483647; decide),_,_,rfl,rfl,_,rfl,_,_,rfl,rfl,hb0,p,_,_,rfl,rfl,hx,hxl,?_⟩;refine ⟨_,rfl,_,rfl,_,_,rfl,rfl,⟨hb0,by show b < 1073741824; omega⟩,?_⟩;obtain ⟨a1,a2,a3,a4⟩:=add (((m * 48271 + 7 * (0 + (i:Int)) + 11) % 2147483647 / 8 + (m * 48271 + 7 * (0 + (i:Int)) + 11) % 2147483647 * 69621 % 2147483647) % b) ⟨Int.emod_nonneg _ (by omega),Int.emod_lt_of_pos _ hb0⟩;exact ⟨_,_,_,_,a1,a2,a3,a4,rfl⟩
  ·rintro σ H2 ⟨r,m,xs,v,e,hx,hl,hr,rfl⟩;exact ⟨_,rfl,q p xs H2 hp e hx hl hr⟩
theorem JiS (T:Txt K mg):JN P w K mg base YO 1 T.Jdm T.JcW ["text"] Joc:=by
 refine T.Jdq.F.ok Jiw (fun vs H Q E h=>?_) (fun cdv A outer s H vs Q E hr h=>?_)
 ·obtain ⟨_,rfl,_⟩:=h;rfl
 ·obtain ⟨z,rfl,hz,q⟩:=h;have hzl:z.length≤sizeLine:=Nat.le_trans hz (by decide);refine ⟨_,(@Jd _ _ _ _ _ (@JL _ _ _ _ _ _ _ _ (@PW.pt _ _ _ (@ZQ _ _ _ _ _ _ _ (@Jp _ _ _ _ _ _ _ _ (@Jbe _) (@JS _ _ _ _ _ _ _ _ _ (@JeI _) rfl T.JaH PySem.boot_len (@Ja _ _ _ _ _ (@pv _ 0 _ _ rfl (.inl rfl) rfl rfl) (@Jb _) rfl) (by decide) (by decide) rfl rfl) (@Jc _ _ _ _) (Ju _)) (@Jar _ _ _ _ (@Jp _ _ _ _ _ _ _ _ (@Jbf _) (@JS _ _ _ _ _ _ _ _ _ (@JeI _) rfl T.JaH PySem.boot_len (@Ja _ _ _ _ _ (@pv _ 0 _ _ rfl (.inl rfl) rfl rfl) (@Jb _) rfl) (by decide) (by decide) rfl rfl) (@JaD _ _ _ _ _ rfl T.Jbh T.Jbb (by decide)) (Ju _))))) (@Jg _ _ _ (@Jt _ _ _ _ (@JdV _ _ _ _))) (@Jw _)) (@Jg _ _ _ (@Jt _ _ _ _ (@JS _ _ _ _ _ _ _ _ _ (@Jnt _ rfl) rfl T.JnP PyProof.Rows.boot_all (@Ja _ _ _ _ _ (@Jda _ _ _ _ _ _ _ 1 ["sign"] [] _ _ _ _ ["text"] ((Jo JbQ).names) (by decide +kernel) (@Jpe _ _ _ _ (@pv _ 0 _ _ rfl (.inl rfl) rfl rfl)) (fun _ _ _ _=>(@ZV _ _ _ _ _ _ _ _ _ 0 (by decide +kernel) rfl rfl)) (fun _ _ _ _=>(@Jbv _)) (fun _ _ _ _=>(@Jm8 _ _ _ _ _ _ _ _ _ _ _ _ (@Jhw _) (@Jhw _) (@JR _ _ _ _) (@ZA _ _ _ _ _ _ _ _ _ 0 rfl rfl (by decide) (by decide)) (@JR _ _ _ _) (by with_unfolding_all rfl))) rfl rfl rfl (by intro _; rfl)) (@Jb _) rfl) (by decide) (by decide) rfl rfl)))),?_⟩;refine ⟨_,rfl,z,rfl,hzl,_,_,rfl,rfl,_,rfl,YE (fun c=>YU ?_) (fun c=>?_)⟩
  ·have c':(z.length:Int) < 1:=of_decide_eq_true c;have e:Zp z=false:=by unfold Zp; rw [decide_eq_false (by omega)]; rfl
   rw [← e];exact q H (Jf.refl _)
  refine ⟨_,rfl,z,rfl,hzl,_,_,rfl,rfl,_,rfl,YE (fun d=>?_) (fun d=>?_)⟩
  ·have d':(6:Int) < z.length:=of_decide_eq_true d;have e:Zp z=false:=by unfold Zp; rw [decide_eq_false (p:=z.length≤6) (by omega),Bool.and_false]; rfl
   rw [← e];exact q H (Jf.refl _)
  have c':¬ (z.length:Int) < 1:=fun w=>c (decide_eq_true w)
  have d':¬ (6:Int) < z.length:=fun w=>d (decide_eq_true w)
  have e:Zp z=z.cps.toList.all Zw:=by unfold Zp; rw [decide_eq_true (by omega),decide_eq_true (by omega)]; rfl
  refine ⟨_,rfl,z,rfl,fun D hD=>?_⟩;refine Jh7 (fun i v=>∃ c,z.cps[i]?=some c∧v=.bl (Zw c)) rfl hD hzl (fun i c H2 hc e2 Q' hQ=>?_) (fun ys H2 e2 hD2 hl hF=>?_)
  ·refine ⟨_,rfl,_,_,rfl,rfl,_,rfl,?_⟩;have e1:(!decide ([c] < [97]))=decide (97≤c):=by rw [lt1,Bool.eq_iff_iff]; simp
   have e2:(!decide ([122] < [c]))=decide (c≤122):=by rw [lt1,Bool.eq_iff_iff]; simp
   by_cases h1:97≤c
   ·refine YH (e1.trans (decide_eq_true h1)) ⟨_,_,rfl,rfl,?_⟩;refine hQ _ ⟨c,hc,congrArg V.bl (e2.trans ?_)⟩;unfold Zw;rw [decide_eq_true h1]; rfl
   ·refine J3 (e1.trans (decide_eq_false h1)) (hQ _ ⟨c,hc,congrArg V.bl ?_⟩);unfold Zw;rw [decide_eq_false h1]; rfl
  ·have hys:ys=(z.cps.toList.map Zw).map V.bl:=by
    apply List.ext_getElem?;intro i;by_cases hi:i < ys.length
    ·obtain ⟨c,h1,h2⟩:=hF i _ (List.getElem?_eq_getElem hi);rw [List.getElem?_eq_getElem hi,h2,List.getElem?_map,List.getElem?_map,Array.getElem?_toList,h1];rfl
    ·rw [List.getElem?_eq_none (by omega),List.getElem?_eq_none];rw [List.length_map,List.length_map,Array.length_toList];have e9:z.cps.size=z.length:=rfl;omega
   refine ⟨D,z.cps.toList.map Zw,rfl,by rw [← hys]; exact Js.of hD2,?_⟩;have e3:(z.cps.toList.map Zw).all id=Zp z:=by rw [e,List.all_map]; rfl
   rw [e3];exact q H2 e2
theorem Jas (T:Txt K mg):JN P w K mg base YO 1 T.JaR T.Jax ["things"] (Jn9 K):=by
 refine T.Y7.F.ok Jeb (fun vs H Q E h=>?_) (fun cdv A outer s H vs Q E hr h=>?_)
 ·obtain ⟨_,rfl,_⟩:=h;rfl
 ·obtain ⟨l,rfl,hl,q⟩:=h;refine ⟨_,(@Jg _ _ _ (@JL _ _ _ _ _ _ _ _ (@Jp _ _ _ _ _ _ _ _ (@Jbe _) (@JS _ _ _ _ _ _ _ _ _ (@JjD _) rfl T.JaH PySem.boot_len (@Ja _ _ _ _ _ (@Zb _ _ _ _ _ _ _ _ _ (@Jme _ rfl hr.units) rfl T.JnO PyProof.Rows.boot_set (@Ja _ _ _ _ _ (@pv _ 0 _ _ rfl (.inl rfl) rfl rfl) (@Jb _) rfl) (by decide) (by decide) rfl rfl) (@Jb _) rfl) (by decide) (by decide) rfl rfl) (@JS _ _ _ _ _ _ _ _ _ (@YL _) rfl T.JaH PySem.boot_len (@Ja _ _ _ _ _ (@pv _ 0 _ _ rfl (.inl rfl) rfl rfl) (@Jb _) rfl) (by decide) (by decide) rfl rfl) (Ju _)) (@Jg _ _ _ (@JdT _ _)) (@Jw _))),?_⟩;rcases hl with ⟨ss,hS,hz,nd⟩ | ⟨us,kss,hS,tt,hz,nd⟩
  ·refine ⟨_,rfl,.inl ⟨l,ss,rfl,hS,hz,fun p hp=>⟨p,_,rfl,Jh,_,rfl,l,_,rfl,.inl ((Jf.upd hp).seq hS),_,_,rfl,rfl,_,rfl,J3 (decide_eq_false ?_) (q _ (Jf.upd hp))⟩⟩⟩;rw [Jgp nd,List.length_map];exact Int.lt_irrefl _
  ·refine ⟨_,rfl,.inr ⟨l,us,kss,rfl,hS,tt,hz,fun p hp=>⟨p,_,rfl,Jh,_,rfl,l,_,rfl,.inl ((Jf.upd hp).seq hS),_,_,rfl,rfl,_,rfl,J3 (decide_eq_false ?_) (q _ (Jf.upd hp))⟩⟩⟩;rw [Jgp nd,tt.1];exact Int.lt_irrefl _
theorem JaF (T:Txt K mg):JN P w K mg base (Y3 P w) 1 T.Jcl T.JbH ["place", "places"] (JmL K T.YB):=by
 refine T.Zv.F.ok1 JgO (fun vs H Q E h=>?_) (fun cdv A outer s H vs Q E hr h=>?_)
 ·obtain ⟨_,_,_,rfl,_⟩:=h;rfl
 ·obtain ⟨z,t,ps,rfl,ht,hS,q1,q2⟩:=h;refine ⟨_,(@Jg _ _ _ (@JL _ _ _ _ _ _ _ _ (@Jp _ _ _ _ _ _ _ _ (@Jbd _) (@pv _ 0 _ _ rfl (.inl rfl) rfl rfl) (@pv _ 1 _ _ rfl (.inl rfl) rfl rfl) (by with_unfolding_all rfl)) (@Jg _ _ _ (@JcN _ _ _ _ _ _ _ _ _ T.Jgy T.JhO Jdz (@Je1 _ _ _ _ _ _ (PJ.cons (@JiJ _ _ _ _ (@pv _ 0 _ _ rfl (.inl rfl) rfl rfl)) (PJ.cons (@JR _ _ _ _) PJ.nil)) rfl) rfl rfl (by decide) rfl)) (@Jw _))),?_⟩;refine ⟨_,rfl,_,rfl,t,_,rfl,hS,rfl,Jb3 ps,_,rfl,?_⟩;rw [if_pos rfl,JcV];by_cases hin:z∈ps
  ·exact J3 (by rw [decide_eq_true hin]; rfl) (q1 hin)
  ·have hz:=Jhq ht;have e1:(Str.empty ++ reprText z).length=(reprText z).length:=by rw [strLen_append]; exact Nat.zero_add _
   refine YH (by rw [decide_eq_false hin]; rfl) ⟨_,rfl,z,rfl,Nat.le_trans hz (by decide),_,rfl,by rw [e1]; exact Nat.le_trans hz (by decide),_,rfl,?_,?_,q2 hin⟩
   all_goals
    rw [strLen_append,e1];refine Nat.le_trans (Nat.add_le_add_right hz _) (by decide)
theorem Jgf (T:Txt K mg):JN P w K mg base YO 2 T.JbK T.Jbj ["places"] (Jki K):=by
 refine T.JbP.F.ok Jc8 (fun vs H Q E h=>?_) (fun cdv A outer s H vs Q E hr h=>?_)
 ·obtain ⟨_,_,rfl,_⟩:=h;rfl
 ·obtain ⟨l,ps,rfl,hS,h1,h2,h3,h4,q⟩:=h;refine ⟨_,(@Jd _ _ _ _ _ (@JL _ _ _ _ _ _ _ _ (@PW.pt _ _ _ (@ZQ _ _ _ _ _ _ _ (@Jp _ _ _ _ _ _ _ _ (@Jbe _) (@JS _ _ _ _ _ _ _ _ _ (@YL _) rfl T.JaH PySem.boot_len (@Ja _ _ _ _ _ (@pv _ 0 _ _ rfl (.inl rfl) rfl rfl) (@Jb _) rfl) (by decide) (by decide) rfl rfl) (@Jc _ _ _ _) (Ju _)) (@Jar _ _ _ _ (@Jp _ _ _ _ _ _ _ _ (@Jbf _) (@JS _ _ _ _ _ _ _ _ _ (@YL _) rfl T.JaH PySem.boot_len (@Ja _ _ _ _ _ (@pv _ 0 _ _ rfl (.inl rfl) rfl rfl) (@Jb _) rfl) (by decide) (by decide) rfl rfl) (@JaD _ _ _ _ _ rfl T.JaZ T.JaX (by decide)) (Ju _))))) (@Jg _ _ _ (@JdT _ _)) (@Jw _)) (@Jd _ _ _ _ _ (@Yv _ _ _ _ _ _ _ _ PassesOwn.never rfl (@Zt _ _ _ _ (@pv _ 0 _ _ rfl (.inl rfl) rfl rfl)) (@JV _ _ 1 _ Jc8.nd rfl (Or.inl rfl) (.inl rfl)) (@Jg _ _ _ (@JL _ _ _ _ _ _ _ _ (@JdA _ _ _ _ (@JbZ _ _ _ (@Jn _ _ _ _ _ _ _ _ _ _ _ _ _ _ _ T.Jdq (JiS T) (hr.mono (by decide)) JE (@Ja _ _ _ _ _ (@pv _ 1 _ _ rfl (.inl rfl) rfl rfl) (@Jb _) rfl) rfl (by decide) rfl rfl) (by intro _; rfl))) (@Jg _ _ _ (@JdT _ _)) (@Jw _))) (by intro _; rfl)) (@Jg _ _ _ (@JG _ _ _ _ (@Jn _ _ _ _ _ _ _ _ _ _ _ _ _ _ _ T.Y7 (Jas T) (hr.mono (by decide)) JE (@Ja _ _ _ _ _ (@pv _ 0 _ _ rfl (.inl rfl) rfl rfl) (@Jb _) rfl) rfl (by decide) rfl rfl) rfl)))),?_⟩;refine ⟨_,rfl,l,_,rfl,.inl hS,_,_,rfl,rfl,_,rfl,J3 (decide_eq_false (by rw [List.length_map]; omega)) ?_⟩;refine ⟨_,rfl,l,_,rfl,.inl hS,_,_,rfl,rfl,_,rfl,J3 (decide_eq_false (by rw [List.length_map]; omega)) ?_⟩;refine ⟨_,rfl,l,rfl,⟨_,hS⟩,Ja4 (xs:=ps.map V.str) (fun i σ H2=>Jf H H2∧∃ v,σ=[some (.ref l),v]) ⟨Jf.refl _,none,rfl⟩ (fun i σ H2 _ h=>h.1.seq hS) ?_ ?_⟩
  ·rintro i x σ H2 hx ⟨e2,v,rfl⟩;obtain ⟨p,hp,rfl⟩:=List.mem_map.mp (List.mem_of_getElem? hx);refine ⟨_,rfl,p,rfl,Nat.le_trans (Ji4 (h3 p hp)).1 (by decide),fun H3 e3=>⟨_,rfl,J3 (by rw [h3 p hp]; rfl) ?_⟩⟩;exact ⟨e2.trans e3,_,rfl⟩
  ·rintro σ H2 ⟨e2,v,rfl⟩;exact ⟨_,rfl,l,rfl,.inl ⟨ps,e2.seq hS,by omega,h4⟩,fun H3 e3=>q H3 (e2.trans e3)⟩
theorem JgX (T:Txt K mg):JN P w K mg base YO 2 T.Jci T.JbE ["lanes", "places"] (Jlh K):=by
 refine T.Jcp.F.ok Jdv (fun vs H Q E h=>?_) (fun cdv A outer s H vs Q E hr h=>?_)
 ·obtain ⟨_,_,_,_,rfl,_⟩:=h;rfl
 ·obtain ⟨l,lp,zs,ps,rfl,hS,hP,hp,ht,h1,h2,h3,q⟩:=h;refine ⟨_,(@Jd _ _ _ _ _ (@JL _ _ _ _ _ _ _ _ (@Jp _ _ _ _ _ _ _ _ (@Jbf _) (@JS _ _ _ _ _ _ _ _ _ (@YL _) rfl T.JaH PySem.boot_len (@Ja _ _ _ _ _ (@pv _ 0 _ _ rfl (.inl rfl) rfl rfl) (@Jb _) rfl) (by decide) (by decide) rfl rfl) (@JaD _ _ _ _ _ rfl T.Jbi T.Jbc (by decide)) (Ju _)) (@Jg _ _ _ (@JdT _ _)) (@Jw _)) (@Jd _ _ _ _ _ (@Yv _ _ _ _ _ _ _ _ PassesOwn.never rfl (@Zt _ _ _ _ (@pv _ 0 _ _ rfl (.inl rfl) rfl rfl)) (@JV _ _ 2 _ Jdv.nd rfl (Or.inl rfl) (.inl rfl)) (@Jd _ _ _ _ _ (@JG _ _ _ _ (@Jn _ _ _ _ _ _ _ _ _ _ _ _ _ _ _ T.Zv (JaF T) (hr.mono (by decide)) Y1 (@Ja _ _ _ _ _ (@JA _ _ _ _ _ _ _ (@JM _) (@pv _ 2 _ _ rfl (.inl rfl) rfl rfl) (@Jc _ _ _ _) (fun _ _=>rfl)) (@Ja _ _ _ _ _ (@pv _ 1 _ _ rfl (.inl rfl) rfl rfl) (@Jb _) rfl) rfl) rfl (by decide) rfl rfl) rfl) (@Jg _ _ _ (@JG _ _ _ _ (@Jn _ _ _ _ _ _ _ _ _ _ _ _ _ _ _ T.Zv (JaF T) (hr.mono (by decide)) Y1 (@Ja _ _ _ _ _ (@JA _ _ _ _ _ _ _ (@JM _) (@pv _ 2 _ _ rfl (.inl rfl) rfl rfl) (@Jc _ _ _ _) (fun _ _=>rfl)) (@Ja _ _ _ _ _ (@pv _ 1 _ _ rfl (.inl rfl) rfl rfl) (@Jb _) rfl) rfl) rfl (by decide) rfl rfl) rfl))) (by intro _; rfl)) (@Jg _ _ _ (@JG _ _ _ _ (@Jn _ _ _ _ _ _ _ _ _ _ _ _ _ _ _ T.Y7 (Jas T) (hr.mono (by decide)) JE (@Ja _ _ _ _ _ (@pv _ 0 _ _ rfl (.inl rfl) rfl rfl) (@Jb _) rfl) rfl (by decide) rfl rfl) rfl)))),?_⟩;refine ⟨_,rfl,l,_,rfl,.inl hS,_,_,rfl,rfl,_,rfl,J3 (decide_eq_false (by rw [List.length_map]; omega)) ?_⟩;refine ⟨_,rfl,l,rfl,⟨_,hS⟩,Ja4 (xs:=zs.map (·.1)) (fun i σ H2=>H2=H∧∃ v,σ=[some (.ref l),some (.ref lp),v]) ⟨rfl,none,rfl⟩ (fun i σ H2 _ h=>by rw [h.1]; exact hS) ?_ ?_⟩
  ·rintro i x σ H2 hx ⟨rfl,v,rfl⟩;obtain ⟨z,hz,rfl⟩:=List.mem_map.mp (List.mem_of_getElem? hx);obtain ⟨a,ea,ha⟩:=hP z hz;obtain ⟨i1,i2⟩:=h2 z hz;refine ⟨_,rfl,a,_,_,.str z.2.1,ea,rfl,ha,rfl,_,rfl,z.2.1,lp,ps,rfl,ht _ i1,.inl hp,fun _=>?_,fun hn=>absurd i1 hn⟩;exact ⟨_,rfl,a,_,_,.str z.2.2,ea,rfl,ha,rfl,_,rfl,z.2.2,lp,ps,rfl,ht _ i2,.inl hp,fun _=>⟨rfl,_,rfl⟩,fun hn=>absurd i2 hn⟩
  ·rintro σ H2 ⟨rfl,v,rfl⟩;exact ⟨_,rfl,l,rfl,.inr ⟨_,_,hS,Jku hP,by rw [List.length_map,List.length_map]; omega,Jjx h3⟩,fun H3 e3=>q H3 e3⟩
theorem JgY (T:Txt K mg):JN P w K mg base YO 2 T.Jcj T.JbF ["goals", "places"] (Jli K):=by
 refine T.Jcq.F.ok Jdw (fun vs H Q E h=>?_) (fun cdv A outer s H vs Q E hr h=>?_)
 ·obtain ⟨_,_,_,_,rfl,_⟩:=h;rfl
 ·obtain ⟨l,lp,gs,ps,rfl,hS,hp,ht,h1,h2,h3,q⟩:=h;refine ⟨_,(@Jd _ _ _ _ _ (@Yv _ _ _ _ _ _ _ _ PassesOwn.never rfl (@Zt _ _ _ _ (@pv _ 0 _ _ rfl (.inl rfl) rfl rfl)) (@JV _ _ 2 _ Jdw.nd rfl (Or.inl rfl) (.inl rfl)) (@Jg _ _ _ (@JG _ _ _ _ (@Jn _ _ _ _ _ _ _ _ _ _ _ _ _ _ _ T.Zv (JaF T) (hr.mono (by decide)) Y1 (@Ja _ _ _ _ _ (@pv _ 2 _ _ rfl (.inl rfl) rfl rfl) (@Ja _ _ _ _ _ (@pv _ 1 _ _ rfl (.inl rfl) rfl rfl) (@Jb _) rfl) rfl) rfl (by decide) rfl rfl) rfl)) (by intro _; rfl)) (@Jg _ _ _ (@JG _ _ _ _ (@Jn _ _ _ _ _ _ _ _ _ _ _ _ _ _ _ T.Y7 (Jas T) (hr.mono (by decide)) JE (@Ja _ _ _ _ _ (@pv _ 0 _ _ rfl (.inl rfl) rfl rfl) (@Jb _) rfl) rfl (by decide) rfl rfl) rfl))),?_⟩;refine ⟨_,rfl,l,rfl,⟨_,hS⟩,Ja4 (xs:=gs.map V.str) (fun i σ H2=>H2=H∧∃ v,σ=[some (.ref l),some (.ref lp),v]) ⟨rfl,none,rfl⟩ (fun i σ H2 _ h=>by rw [h.1]; exact hS) ?_ ?_⟩
  ·rintro i x σ H2 hx ⟨rfl,v,rfl⟩;obtain ⟨g,hg,rfl⟩:=List.mem_map.mp (List.mem_of_getElem? hx);exact ⟨_,rfl,_,rfl,g,lp,ps,rfl,ht _ (h2 g hg),.inl hp,fun _=>⟨rfl,_,rfl⟩,fun hn=>absurd (h2 g hg) hn⟩
  ·rintro σ H2 ⟨rfl,v,rfl⟩;exact ⟨_,rfl,l,rfl,.inl ⟨gs,hS,h1,h3⟩,fun H3 e3=>q H3 e3⟩
theorem Jh6 (T:Txt K mg):JN P w K mg base YO 3 T.Jbn T.Jcg ["self", "places", "lanes", "goals"] (JjG K T.JD):=by
 refine T.Jc7.F.ok Jh4 (fun vs H Q E h=>?_) (fun cdv A outer s H vs Q E hr h=>?_)
 ·obtain ⟨_,_,_,_,_,_,_,_,rfl,_⟩:=h;rfl
 ·obtain ⟨b,lp,ll,lg,dx,ps,zs,gs,rfl,hb,hp,hl,hP,hg,G,q⟩:=h;refine ⟨_,(@Jd _ _ _ _ _ (@JG _ _ _ _ (@Jn _ _ _ _ _ _ _ _ _ _ _ _ _ _ _ T.JbP (Jgf T) (hr.mono (by decide)) JE (@Ja _ _ _ _ _ (@pv _ 1 _ _ rfl (.inl rfl) rfl rfl) (@Jb _) rfl) rfl (by decide) rfl rfl) rfl) (@Jd _ _ _ _ _ (@JG _ _ _ _ (@Jn _ _ _ _ _ _ _ _ _ _ _ _ _ _ _ T.Jcp (JgX T) (hr.mono (by decide)) JE (@Ja _ _ _ _ _ (@pv _ 2 _ _ rfl (.inl rfl) rfl rfl) (@Ja _ _ _ _ _ (@pv _ 1 _ _ rfl (.inl rfl) rfl rfl) (@Jb _) rfl) rfl) rfl (by decide) rfl rfl) rfl) (@Jd _ _ _ _ _ (@JG _ _ _ _ (@Jn _ _ _ _ _ _ _ _ _ _ _ _ _ _ _ T.Jcq (JgY T) (hr.mono (by decide)) JE (@Ja _ _ _ _ _ (@pv _ 3 _ _ rfl (.inl rfl) rfl rfl) (@Ja _ _ _ _ _ (@pv _ 1 _ _ rfl (.inl rfl) rfl rfl) (@Jb _) rfl) rfl) rfl (by decide) rfl rfl) rfl) (@Jd _ _ _ _ _ (@JcO _ _ _ _ _ _ _ _ (@pv _ 0 _ _ rfl (.inl rfl) rfl rfl) (@Zb _ _ _ _ _ _ _ _ _ (@Ja0 _) rfl T.JdF PyProof.Rows.boot_tuple (@Ja _ _ _ _ _ (@JS _ _ _ _ _ _ _ _ _ (@Jd2 _) rfl T.JcS PyProof.Rows.boot_sorted (@Ja _ _ _ _ _ (@pv _ 1 _ _ rfl (.inl rfl) rfl rfl) (@Jb _) rfl) (by decide) (by decide) rfl rfl) (@Jb _) rfl) (by decide) (by decide) rfl rfl) rfl) (@Jd _ _ _ _ _ (@JcO _ _ _ _ _ _ _ _ (@pv _ 0 _ _ rfl (.inl rfl) rfl rfl) (@Zb _ _ _ _ _ _ _ _ _ (@Ja0 _) rfl T.JdF PyProof.Rows.boot_tuple (@Ja _ _ _ _ _ (@JS _ _ _ _ _ _ _ _ _ (@JkT _) rfl T.JcS PyProof.Rows.boot_sorted (@Ja _ _ _ _ _ (@pv _ 2 _ _ rfl (.inl rfl) rfl rfl) (@Jb _) rfl) (by decide) (by decide) rfl rfl) (@Jb _) rfl) (by decide) (by decide) rfl rfl) rfl) (@Jg _ _ _ (@JcO _ _ _ _ _ _ _ _ (@pv _ 0 _ _ rfl (.inl rfl) rfl rfl) (@Zb _ _ _ _ _ _ _ _ _ (@Ja0 _) rfl T.JdF PyProof.Rows.boot_tuple (@Ja _ _ _ _ _ (@JS _ _ _ _ _ _ _ _ _ (@Jd2 _) rfl T.JcS PyProof.Rows.boot_sorted (@Ja _ _ _ _ _ (@pv _ 3 _ _ rfl (.inl rfl) rfl rfl) (@Jb _) rfl) (by decide) (by decide) rfl rfl) (@Jb _) rfl) (by decide) (by decide) rfl rfl) rfl))))))),?_⟩;have ht:∀ p∈ps,YX p:=fun p h=>YI (G.p3 p h)
  have hzl:zs.length≤40:=by have:=G.l1; rwa [List.length_map] at this
  have hl2:∀ z∈zs,z.2.1∈ps∧z.2.2∈ps:=fun z hz=>G.l2 z.2 (List.mem_map.mpr ⟨z,hz,rfl⟩)
  have hgl:=G.glen;refine ⟨_,rfl,lp,ps,rfl,hp,G.p1,G.p2,G.p3,G.p4,fun H1 e1=>?_⟩;refine ⟨_,rfl,_,rfl,ll,lp,zs,ps,rfl,e1.seq hl,ZR hP e1,e1.seq hp,ht,hzl,hl2,G.l3,fun H2 e2=>?_⟩;have e12:=e1.trans e2;refine ⟨_,rfl,_,rfl,lg,lp,gs,ps,rfl,e12.seq hg,e12.seq hp,ht,by omega,G.g1,G.g2,fun H3 e3=>?_⟩;have e13:=e12.trans e3;have hb3:=e13 _ _ hb;refine ⟨_,rfl,lp,ps,rfl,e13.seq hp,by have:=G.p2; omega,fun p4 ps' n4 pp ps4=>⟨p4,_,rfl,.inl ⟨Js.of Jh,fun t5 n5=>?_⟩⟩⟩;have e35:=(Jf.upd (o:=.lst (ps'.map V.str)) n4).trans (Jf.upd (o:=.tup (ps'.map V.str)) n5);refine ⟨_,rfl,b,_,dx,_,rfl,e35 _ _ hb3,T.Yr,T.Jae,by decide,?_⟩;have b6:=(Zo.of (b:=b) (e13.trans e35)).trans (Zo.put (o:=.ins T.JD dx (Yi "places" (.ref t5) [])));have t5b:t5≠b:=fun e=>by
   have z:=(Jf.upd (o:=.lst (ps'.map V.str)) n4) _ _ hb3;rw [e,z] at n5; cases n5
  have hp6:upd (upd (upd H3 p4 (.lst (ps'.map V.str))) t5 (.tup (ps'.map V.str))) b (.ins T.JD dx (Yi "places" (.ref t5) [])) t5=some (.tup (ps'.map V.str)):=by rw [Jq t5b,Jh]
  have hb6:upd (upd (upd H3 p4 (.lst (ps'.map V.str))) t5 (.tup (ps'.map V.str))) b (.ins T.JD dx (Yi "places" (.ref t5) [])) b=some (.ins T.JD dx [("places",.ref t5)]):=Jh;generalize upd (upd (upd H3 p4 (.lst (ps'.map V.str))) t5 (.tup (ps'.map V.str))) b (.ins T.JD dx (Yi "places" (.ref t5) []))=H6 at b6 hp6 hb6;refine ⟨_,rfl,ll,zs,rfl,b6.seq hb hl,fun z hz=>let ⟨a,h1,h2⟩:=hP z hz; ⟨a,h1,b6.tup hb h2⟩,by omega,fun p7 zs' n7 zp zs7=>⟨p7,_,rfl,.inl ⟨Js.of Jh,fun t8 n8=>?_⟩⟩⟩;have e68:=(Jf.upd (o:=.lst (zs'.map (·.1))) n7).trans (Jf.upd (o:=.tup (zs'.map (·.1))) n8);refine ⟨_,rfl,b,_,dx,_,rfl,e68 _ _ hb6,T.Yr,T.Jby,by show 1 < 1000; decide,?_⟩;have b9:=(b6.trans (Zo.of e68)).trans (Zo.put (o:=.ins T.JD dx (Yi "lanes" (.ref t8) [("places",.ref t5)])));have t8b:t8≠b:=fun e=>by
   have z:=(Jf.upd (o:=.lst (zs'.map (·.1))) n7) _ _ hb6;rw [e,z] at n8; cases n8
  have hl9:upd (upd (upd H6 p7 (.lst (zs'.map (·.1)))) t8 (.tup (zs'.map (·.1)))) b (.ins T.JD dx (Yi "lanes" (.ref t8) [("places",.ref t5)])) t8=some (.tup (zs'.map (·.1))):=by rw [Jq t8b,Jh]
  have hp9:upd (upd (upd H6 p7 (.lst (zs'.map (·.1)))) t8 (.tup (zs'.map (·.1)))) b (.ins T.JD dx (Yi "lanes" (.ref t8) [("places",.ref t5)])) t5=some (.tup (ps'.map V.str)):=by rw [Jq t5b]; exact e68 _ _ hp6
  have hb9:upd (upd (upd H6 p7 (.lst (zs'.map (·.1)))) t8 (.tup (zs'.map (·.1)))) b (.ins T.JD dx (Yi "lanes" (.ref t8) [("places",.ref t5)])) b=some (.ins T.JD dx [("places",.ref t5),("lanes",.ref t8)]):=Jh;generalize upd (upd (upd H6 p7 (.lst (zs'.map (·.1)))) t8 (.tup (zs'.map (·.1)))) b (.ins T.JD dx (Yi "lanes" (.ref t8) [("places",.ref t5)]))=H9 at b9 hl9 hp9 hb9;refine ⟨_,rfl,lg,gs,rfl,b9.seq hb hg,by omega,fun p10 gs' n10 gp gs10=>⟨p10,_,rfl,.inl ⟨Js.of Jh,fun t11 n11=>?_⟩⟩⟩;have e911:=(Jf.upd (o:=.lst (gs'.map V.str)) n10).trans (Jf.upd (o:=.tup (gs'.map V.str)) n11);refine ⟨_,rfl,b,_,dx,_,rfl,e911 _ _ hb9,T.Yr,T.Jbz,by show 2 < 1000; decide,?_⟩;have b12:=(b9.trans (Zo.of e911)).trans (Zo.put (o:=.ins T.JD dx (Yi "goals" (.ref t11) [("places",.ref t5),("lanes",.ref t8)])));have t11b:t11≠b:=fun e=>by
   have z:=(Jf.upd (o:=.lst (gs'.map V.str)) n10) _ _ hb9;rw [e,z] at n11; cases n11
  refine q _ ps' zs' gs' b12 pp ps4 zp zs7 gp gs10 ⟨dx,t5,t8,t11,Jh,?_,?_,fun z hz=>?_,?_⟩
  ·rw [Jq t5b]; exact e911 _ _ hp9
  ·rw [Jq t8b]; exact e911 _ _ hl9
  ·obtain ⟨a,h1,h2⟩:=hP z (zp.mem_iff.mp hz);exact ⟨a,h1,b12.tup hb h2⟩
  ·rw [Jq t11b,Jh]
theorem Y8 (T:Txt K mg):JN P w K mg base (Y3 P w) 2 T.Z6 T.ZS ["self", "place"] (Jlg K T.JD T.YB):=by
 refine T.JW.F.ok1 JdQ (fun vs H Q E h=>?_) (fun cdv A outer s H vs Q E hr h=>?_)
 ·obtain ⟨_,_,_,_,_,rfl,_⟩:=h;rfl
 ·obtain ⟨b,z,ps,zs,gs,rfl,ht,⟨dx,tp,tl,tg,hb,hp,_⟩,q1,q2⟩:=h;refine ⟨_,(@Jg _ _ _ (@JG _ _ _ _ (@Jn _ _ _ _ _ _ _ _ _ _ _ _ _ _ _ T.Zv (JaF T) (hr.mono (by decide)) YC (@Ja _ _ _ _ _ (@pv _ 1 _ _ rfl (.inl rfl) rfl rfl) (@Ja _ _ _ _ _ (@Yw _ _ _ _ _ (@pv _ 0 _ _ rfl (.inl rfl) rfl rfl) rfl) (@Jb _) rfl) rfl) rfl (by decide) rfl rfl) rfl)),?_⟩;exact ⟨_,rfl,_,rfl,b,_,dx,_,.ref tp,rfl,hb,T.Yr,T.Jae,rfl,z,tp,ps,rfl,ht,.inr (JK.of hp),q1,q2⟩
theorem JfB (T:Txt K mg):JN P w K mg base (Y3 P w) 3 T.Jbm T.Ja5 ["self", "place"] (Jle K T.JD T.YB):=by
 refine T.Jag.F.ok1 Jfr (fun vs H Q E h=>?_) (fun cdv A outer s H vs Q E hr h=>?_)
 ·obtain ⟨_,_,_,_,_,rfl,_⟩:=h;rfl
 ·obtain ⟨b,z,ps,zs,gs,rfl,ht,B,q1,q2⟩:=h;refine ⟨_,(@Jd _ _ _ _ _ (@JG _ _ _ _ (@J0 _ _ _ _ _ _ _ _ _ _ _ _ _ _ _ _ _ _ _ _ (@pv _ 0 _ _ rfl (.inl rfl) rfl rfl) T.Yr T.JW.m (Y8 T) (hr.mono (by decide)) T.JW.b .nil YC (@Ja _ _ _ _ _ (@pv _ 1 _ _ rfl (.inl rfl) rfl rfl) (@Jb _) rfl) rfl rfl rfl) rfl) (@Jg _ _ _ (@Jt _ _ _ _ (@Jbw _ _ _ _ _ _ _ _ (@Jhx _) (@pv _ 1 _ _ rfl (.inl rfl) rfl rfl) (@Yw _ _ _ _ _ (@pv _ 0 _ _ rfl (.inl rfl) rfl rfl) rfl) (by with_unfolding_all rfl))))),?_⟩;obtain ⟨dx,tp,tl,tg,hb,hp,hl,hP,hg⟩:=id B;refine ⟨_,rfl,b,dx,_,rfl,hb,rfl,_,rfl,b,z,ps,zs,gs,rfl,ht,B,fun hin=>?_,q2⟩;refine ⟨_,rfl,_,rfl,b,_,dx,_,.ref tg,rfl,hb,T.Yr,T.Jbz,rfl,tg,_,rfl,.inr (JK.of hg),rfl,Jb3 gs,?_⟩;rw [if_neg Bool.false_ne_true,JcV];exact q1 hin
theorem JaY (T:Txt K mg):JN P w K mg base (Y3 P w) 3 T.Jc0 T.Jcf ["self", "place"] (Jn6 K T.JD T.YB):=by
 refine T.Yz.F.ok1 Jh3 (fun vs H Q E h=>?_) (fun cdv A outer s H vs Q E hr h=>?_)
 ·obtain ⟨_,_,_,_,_,rfl,_⟩:=h;rfl
 ·obtain ⟨b,z,ps,zs,gs,rfl,ht,hlen,B,q1,q2⟩:=h;refine ⟨_,(@Jd _ _ _ _ _ (@JG _ _ _ _ (@J0 _ _ _ _ _ _ _ _ _ _ _ _ _ _ _ _ _ _ _ _ (@pv _ 0 _ _ rfl (.inl rfl) rfl rfl) T.Yr T.JW.m (Y8 T) (hr.mono (by decide)) T.JW.b .nil YC (@Ja _ _ _ _ _ (@pv _ 1 _ _ rfl (.inr (.inl rfl)) rfl rfl) (@Jb _) rfl) rfl rfl rfl) rfl) (@Jg _ _ _ (@Jt _ _ _ _ (@Zb _ _ _ _ _ _ _ _ _ (@Ja0 _) rfl T.JdF PyProof.Rows.boot_tuple (@Ja _ _ _ _ _ (@Jda _ _ _ _ _ _ _ 1 ["lane", "place"] [1] _ _ _ _ ["self", "place"] ((Jo Ja9).names) (by decide +kernel) (@JcP _ _ _ _ (@Yw _ _ _ _ _ (@pv _ 0 _ _ rfl (.inl rfl) rfl rfl) rfl)) (fun _ _ _ _=>(@ZV _ _ _ _ _ _ _ _ _ 0 (by decide +kernel) rfl rfl)) (fun _ _ _ _=>(@JgW _ _ _ (@Jp _ _ _ _ _ _ _ _ (@J2 _) (@JA _ _ _ _ _ _ _ (show IxR _ (Jm2 K) from (@JM _)) (@ZA _ _ _ _ _ _ _ _ _ 0 rfl rfl (by decide) (by decide)) (@Jc _ _ _ _) (fun _ _=>rfl)) (@ZW _ _ _ _ _ _ _ _ _ 1 rfl rfl (by decide) (by decide)) (Ju _)))) (fun _ _ _ _=>(@JA _ _ _ _ _ _ _ (show IxR _ (Jm2 K) from (@JM _)) (@ZA _ _ _ _ _ _ _ _ _ 0 rfl rfl (by decide) (by decide)) (@Jc _ _ _ _) (fun _ _=>rfl))) rfl rfl rfl (by intro _; rfl)) (@Jb _) rfl) (by decide) (by decide) rfl rfl)))),?_⟩;obtain ⟨dx,tp,tl,tg,hb,hp,hl,hP,hg⟩:=id B;refine ⟨_,rfl,b,dx,_,rfl,hb,rfl,_,rfl,b,z,ps,zs,gs,rfl,ht,B,fun hin=>?_,q2⟩;refine ⟨_,rfl,b,_,dx,_,.ref tl,rfl,hb,T.Yr,T.Jby,rfl,tl,rfl,⟨_,JK.of hl⟩,fun D hD=>?_⟩;refine JfQ (xs:=zs.map (·.1)) (fun i ys H2=>Jf H H2∧H2 D=some (.lst ys)∧ys=(Jm ((zs.map (·.2)).take i) z).map V.str) rfl (fun i ys H2 p=>JK.of (p.1 _ _ hl)) ?_ (fun i ys H2 p=>p.2.1) ?_ ?_
  ·exact ⟨Jf.upd hD,Jh,by simp [Jm]⟩
  ·rintro i x ys H2 hx ⟨e2,hy,rfl⟩;rw [List.getElem?_map] at hx;obtain ⟨y,hy1,rfl⟩:=Option.map_eq_some_iff.mp hx;obtain ⟨a,ea,ha⟩:=hP y (List.mem_of_getElem? hy1);have ha2:=e2.tup ha;have step:(zs.map (·.2)).take (i + 1)=(zs.map (·.2)).take i ++ [y.2]:=by
    rw [List.take_succ,List.getElem?_map,hy1]; rfl
   have wstep:Jm ((zs.map (·.2)).take (i + 1)) z=Jm ((zs.map (·.2)).take i) z ++ (if y.2.1=z then [y.2.2] else []):=by
    unfold Jm;rw [step,List.filter_append,List.map_append];by_cases h:y.2.1=z
    ·simp [h]
    ·simp [h]
   have wl:(Jm ((zs.map (·.2)).take i) z).length≤40:=by
    unfold Jm;rw [List.length_map];refine Nat.le_trans (List.length_filter_le _ _) ?_;rw [List.length_take,List.length_map];omega
   refine ⟨_,rfl,a,_,_,.str y.2.1,ea,rfl,ha2,rfl,_,rfl,rfl,_,rfl,?_⟩;by_cases h:y.2.1=z
   ·refine YH (by rw [h]; exact decide_eq_true rfl) ⟨_,rfl,a,_,_,.str y.2.2,ea,rfl,ha2,rfl,hy,by rw [List.length_map]; exact Nat.lt_of_le_of_lt wl (by decide),fun b' u e=>?_,Jh,?_⟩
    ·rw [Jq (JB e hD)]; exact e2 b' u e
    ·rw [wstep,if_pos h,List.map_append]; rfl
   ·refine J3 (decide_eq_false (fun e=>h (V.str.inj e))) ⟨e2,hy,?_⟩;rw [wstep,if_neg h,List.append_nil]
  ·rintro ys H2 ⟨e2,hy,rfl⟩;rw [List.length_map] at hy;rw [show zs.length=(zs.map (·.2)).length by simp,List.take_length] at hy;refine ⟨D,_,rfl,.inl ⟨Js.of hy,fun t n=>?_⟩⟩;exact q1 hin t _ (e2.trans (Jf.upd n)) Jh
theorem Jnc (T:Txt K mg):JN P w K mg base YO 2 T.Jhc T.JfG ["_law_cell", "_law_many"] JmF:=by
 refine T.Jhk.F.ok YF (fun vs H Q E h=>?_) (fun cdv A outer s H vs Q E hr h=>?_)
 ·obtain ⟨_,_,rfl,_⟩:=h;rfl
 ·obtain ⟨c,n,rfl,hn1,hn2,q⟩:=h;refine ⟨_,(@Jd _ _ _ _ _ (@Jr _ _ 2 _ _ _ _ YF.nd rfl (Or.inr rfl) (@JR _ _ _ _) rfl (by first | exact .inl rfl | exact .inr rfl | assumption)) (@Jd _ _ _ _ _ (@J7 _ _ _ (@Jr _ _ 3 _ _ _ _ YF.nd rfl (Or.inl rfl) (@Jn _ _ _ _ _ _ _ _ _ _ _ _ _ _ _ T.JgE (JiP T) (hr.mono (by decide)) JE (@Ja _ _ _ _ _ (@Jl _ _ _ _ _ _ _ _ (@ZJ _) (@pv _ 0 _ _ rfl (.inl rfl) rfl rfl) (@Jc _ _ _ _)) (@Ja _ _ _ _ _ (@Jl _ _ _ _ _ _ _ _ (@ZX _) (@Jc _ _ _ _) (@pv _ 1 _ _ rfl (.inl rfl) rfl rfl)) (@Ja _ _ _ _ _ (@Jc _ _ _ _) (@Jb _) rfl) rfl) rfl) rfl (by decide) rfl rfl) rfl (.inl rfl))) (@Jd _ _ _ _ _ (@Jr _ _ 4 _ _ _ _ YF.nd rfl (Or.inl rfl) (@Yj _ _ _ _ (@Jb _)) rfl (.inl rfl)) (@Jd _ _ _ _ _ (@Yv _ _ _ _ _ _ _ _ PassesOwn.never rfl (@Za _ _ _ _ _ _ rfl T.Y2 (@Ja _ _ _ _ _ (@pv _ 1 _ _ rfl (.inl rfl) rfl rfl) (@Jb _) rfl) rfl) (@JV _ _ 5 _ YF.nd rfl (Or.inl rfl) (.inl rfl)) (@Jd _ _ _ _ _ (@Jr _ _ 6 _ _ _ _ YF.nd rfl (Or.inl rfl) (@Jfy _ _ _ _ _ _ _ _ _ _ (@JgK _) (@pv _ 3 _ _ rfl (.inl rfl) rfl rfl) (@JeZ _ _ _ (@Jl _ _ _ _ _ _ _ _ (@ZX _) (@Jc _ _ _ _) (@pv _ 5 _ _ rfl (.inl rfl) rfl rfl))) (@JeZ _ _ _ (@Jl _ _ _ _ _ _ _ _ (@JP _) (@Jl _ _ _ _ _ _ _ _ (@ZX _) (@Jc _ _ _ _) (@pv _ 5 _ _ rfl (.inl rfl) rfl rfl)) (@Jc _ _ _ _)))) rfl (.inl rfl)) (@Jd _ _ _ _ _ (@Jr _ _ 7 _ _ _ _ YF.nd rfl (Or.inl rfl) (@Jl _ _ _ _ _ _ _ _ (@JP _) (@Jc _ _ _ _) (@Jl _ _ _ _ _ _ _ _ (@JZ _) (@JA _ _ _ _ _ _ _ (@J4 _) (@pv _ 3 _ _ rfl (.inl rfl) rfl rfl) (@Jl _ _ _ _ _ _ _ _ (@JP _) (@Jl _ _ _ _ _ _ _ _ (@ZX _) (@Jc _ _ _ _) (@pv _ 5 _ _ rfl (.inl rfl) rfl rfl)) (@Jc _ _ _ _)) (fun _ _=>rfl)) (@Jc _ _ _ _))) rfl (.inl rfl)) (@Jd _ _ _ _ _ (@J7 _ _ _ (@JL _ _ _ _ _ _ _ _ (@Jp _ _ _ _ _ _ _ _ (@J2 _) (@Jl _ _ _ _ _ _ _ _ (@JZ _) (@pv _ 0 _ _ rfl (.inl rfl) rfl rfl) (@Jc _ _ _ _)) (@Jc _ _ _ _) (Ju _)) (@Jd _ _ _ _ _ (@Jr _ _ 6 _ _ _ _ YF.nd rfl (Or.inl rfl) (@Jfy _ _ _ _ _ _ _ _ _ _ (@JgK _) (@pv _ 3 _ _ rfl (.inl rfl) rfl rfl) (@JjN _) (@JeZ _ _ _ (@Jc _ _ _ _))) rfl (.inl rfl)) (@Jd _ _ _ _ _ (@Jr _ _ 7 _ _ _ _ YF.nd rfl (Or.inl rfl) (@Jl _ _ _ _ _ _ _ _ (@JP _) (@Jc _ _ _ _) (@Jl _ _ _ _ _ _ _ _ (@JZ _) (@JA _ _ _ _ _ _ _ (@J4 _) (@pv _ 3 _ _ rfl (.inl rfl) rfl rfl) (@Jc _ _ _ _) (fun _ _=>rfl)) (@Jc _ _ _ _))) rfl (.inl rfl)) (@Jg _ _ _ (@JiG _ _ _ _ _ _ (@Jl _ _ _ _ _ _ _ _ (@JZ _) (@Jl _ _ _ _ _ _ _ _ (@JP _) (@JA _ _ _ _ _ _ _ (@J4 _) (@pv _ 3 _ _ rfl (.inl rfl) rfl rfl) (@Jc _ _ _ _) (fun _ _=>rfl)) (@Jl _ _ _ _ _ _ _ _ (@ZX _) (@Jc _ _ _ _) (@pv _ 5 _ _ rfl (.inl rfl) rfl rfl))) (@Jc _ _ _ _)) (@Jpf _ _ _ _ _ _ _ (@pv _ 6 _ _ rfl (.inl rfl) rfl rfl) (@Jl _ _ _ _ _ _ _ _ (@JZ _) (@JA _ _ _ _ _ _ _ (@J4 _) (@pv _ 3 _ _ rfl (.inl rfl) rfl rfl) (@Jc _ _ _ _) (fun _ _=>rfl)) (@pv _ 7 _ _ rfl (.inl rfl) rfl rfl)) (@JmO _) (by intro _; rfl)) rfl rfl rfl)))) (@Jw _))) (@Jd _ _ _ _ _ (@J7 _ _ _ (@JL _ _ _ _ _ _ _ _ (@Jp _ _ _ _ _ _ _ _ (@J2 _) (@Jl _ _ _ _ _ _ _ _ (@JZ _) (@pv _ 0 _ _ rfl (.inl rfl) rfl rfl) (@Jc _ _ _ _)) (@Jc _ _ _ _) (Ju _)) (@Jd _ _ _ _ _ (@Jr _ _ 6 _ _ _ _ YF.nd rfl (Or.inl rfl) (@Jl _ _ _ _ _ _ _ _ (@Jph _) (@Yj _ _ _ _ (@Ja _ _ _ _ _ (@Jl _ _ _ _ _ _ _ _ (@JZ _) (@Jl _ _ _ _ _ _ _ _ (@JP _) (@JA _ _ _ _ _ _ _ (@J4 _) (@pv _ 3 _ _ rfl (.inl rfl) rfl rfl) (@Jc _ _ _ _) (fun _ _=>rfl)) (@Jl _ _ _ _ _ _ _ _ (@ZJ _) (@pv _ 5 _ _ rfl (.inl rfl) rfl rfl) (@Jc _ _ _ _))) (@Jc _ _ _ _)) (@Jb _) rfl)) (@Jc _ _ _ _)) rfl (.inl rfl)) (@Jg _ _ _ (@Jr _ _ 7 _ _ _ _ YF.nd rfl (Or.inl rfl) (@Jl _ _ _ _ _ _ _ _ (@JP _) (@Jc _ _ _ _) (@Jl _ _ _ _ _ _ _ _ (@JZ _) (@Jl _ _ _ _ _ _ _ _ (@JP _) (@pv _ 5 _ _ rfl (.inl rfl) rfl rfl) (@JA _ _ _ _ _ _ _ (@J4 _) (@pv _ 3 _ _ rfl (.inl rfl) rfl rfl) (@Jc _ _ _ _) (fun _ _=>rfl))) (@Jc _ _ _ _))) rfl (.inl rfl)))) (@Jw _))) (@Jd _ _ _ _ _ (@J7 _ _ _ (@Jr _ _ 8 _ _ _ _ YF.nd rfl (Or.inl rfl) (@JaE _ _ _ _ _ _ _ _ _ _ _ _ PySem.F.plainAttrs_str PySem.F.slot_str_join PySem.F.type_str_join (@Jox _) (@JR _ _ _ _) (@Ja _ _ _ _ _ (@Jda _ _ _ _ _ _ _ 1 ["_law_x", "_law_letters"] [2] _ _ _ _ ["_law_cell", "_law_many", "_law_letters", "_law_free", "_law_found", "_law_k", "_law_places", "_law_size", "_law_head", "_law_more", "_law_name"] ((Jo JeV).names) (by decide +kernel) (@Zt _ _ _ _ (@Jfy _ _ _ _ _ _ _ _ _ _ (@JgK _) (@pv _ 6 _ _ rfl (.inl rfl) rfl rfl) (@JjN _) (@JeZ _ _ _ (@Jl _ _ _ _ _ _ _ _ (@Yq _) (@pv _ 7 _ _ rfl (.inl rfl) rfl rfl) (@Jc _ _ _ _))))) (fun _ _ _ _=>(@ZV _ _ _ _ _ _ _ _ _ 0 (by decide +kernel) rfl rfl)) (fun _ _ _ _=>(@Jbv _)) (fun _ _ _ _=>(@JA _ _ _ _ _ _ _ (@JlT _) (@ZW _ _ _ _ _ _ _ _ _ 1 rfl rfl (by decide) (by decide)) (@ZA _ _ _ _ _ _ _ _ _ 0 rfl rfl (by decide) (by decide)) (fun _ _=>rfl))) rfl rfl rfl (by intro _; rfl)) (@Jb _) rfl) rfl rfl rfl rfl rfl) rfl (.inl rfl))) (@Jg _ _ _ (@Yv _ _ _ _ _ _ _ _ PassesOwn.never rfl (@Za _ _ _ _ _ _ rfl T.Y2 (@Ja _ _ _ _ _ (@Jc _ _ _ _) (@Jb _) rfl) rfl) (@JV _ _ 9 _ YF.nd rfl (Or.inl rfl) (.inl rfl)) (@Jd _ _ _ _ _ (@Jr _ _ 10 _ _ _ _ YF.nd rfl (Or.inl rfl) (@Jl _ _ _ _ _ _ _ _ (@Jkw _) (@pv _ 8 _ _ rfl (.inl rfl) rfl rfl) (@JA _ _ _ _ _ _ _ (@JlT _) (@pv _ 2 _ _ rfl (.inr (.inl rfl)) rfl rfl) (@Jl _ _ _ _ _ _ _ _ (@JZ _) (@Jl _ _ _ _ _ _ _ _ (@JP _) (@JA _ _ _ _ _ _ _ (@J4 _) (@pv _ 6 _ _ rfl (.inl rfl) rfl rfl) (@Jl _ _ _ _ _ _ _ _ (@Yq _) (@pv _ 7 _ _ rfl (.inl rfl) rfl rfl) (@Jc _ _ _ _)) (fun _ _=>rfl)) (@pv _ 9 _ _ rfl (.inl rfl) rfl rfl)) (@Jc _ _ _ _)) (fun _ _=>rfl))) rfl (.inl rfl)) (@Jg _ _ _ (@JL _ _ _ _ _ _ _ _ (@Jp _ _ _ _ _ _ _ _ (@Jbd _) (@pv _ 10 _ _ rfl (.inl rfl) rfl rfl) (@pv _ 4 _ _ rfl (.inl rfl) rfl rfl) (by with_unfolding_all rfl)) (@Jd _ _ _ _ _ (@JG _ _ _ _ (@JaE _ _ _ _ _ _ _ _ _ _ _ _ PySem.F.plainAttrs_list PySem.F.slot_list_append PySem.F.type_list_append (@YY _) (@pv _ 4 _ _ rfl (.inl rfl) rfl rfl) (@Ja _ _ _ _ _ (@pv _ 10 _ _ rfl (.inl rfl) rfl rfl) (@Jb _) rfl) rfl rfl rfl rfl rfl) rfl) (@Jg _ _ _ (@Jm4 _ _))) (@Jw _)))) (by intro _; rfl)))))))) (by intro _; rfl)) (@Jg _ _ _ (@Jt _ _ _ _ (@pv _ 4 _ _ rfl (.inl rfl) rfl rfl))))))),?_⟩
  try dsimp only [cxK,Jdo]
  refine ⟨fun σ1 H1=>∃ (pf:Addr) (fs:List Int),Jf H H1∧H1 pf=some (.lst (fs.map V.int))∧fs.length=7 * n∧(∀ x∈fs,0≤x∧x < 26)∧σ1=[some (.int c),some (.int n),some (.str LT),some (.ref pf),none,none,none,none,none,none,none],
   ⟨_,rfl,_,_,rfl,rfl,⟨by decide,by decide⟩,_,rfl,_,_,rfl,rfl,.inl ⟨by decide,by decide⟩,c / 4,7 * n,26,congrArg (fun z=>[V.int (c / 4),V.int z,V.int 26]) (by omega:7 * (n:Int)=((7 * n:Nat):Int)),by omega,by decide,by decide,fun pf fs H1 h1 e1 h2 h3 h4=>⟨pf,fs,e1,h2,h3,h4,rfl⟩⟩,?_⟩
  rintro σ1 H1 ⟨pf,fs,e1,hf,hfl,hfr,rfl⟩;refine ⟨by show 0≤sizeLine; decide,fun pl hpl=>?_⟩;have npl:H pl=none:=by
   cases hd:H pl with
   | none=>rfl
   | some u=>rw [e1 _ _ hd] at hpl; cases hpl
  have sl:=hfl;refine ⟨_,rfl,(n:Int),rfl,by omega,by omega,?_⟩;refine Zc (n:=n) (fun i σ H2=>∃ (ss:List Str) (v5 v6 v7 v8 v9 v10:Option V),Jf H1 H2∧H2 pl=some (.lst (ss.map V.str))∧ss.length=i∧(∀ s∈ss,Zp s=true)∧ss.Nodup∧σ=[some (.int c),some (.int n),some (.str LT),some (.ref pf),some (.ref pl),v5,v6,v7,v8,v9,v10])
   ⟨[],none,none,none,none,none,none,Jf.upd hpl,Jh,rfl,(fun s hs=>nomatch hs),List.nodup_nil,rfl⟩ ?_ ?_
  ·rintro i σ H2 hi ⟨ss,v5,v6,v7,v8,v9,v10,e2,hs2,hsl,hsg,hsn,rfl⟩;have hf2:=Js.of (K:=K) (e2 _ _ hf);have at_:∀ {H':Hp} {e:Int},Jf H2 H'→0≤e→e < 7 * n→∃ y,(0≤y∧y < 26)∧atI (fs.map V.int) e=some (.int y):=fun {H' e} _ h0 h1=>by
    obtain ⟨y,h2,h3⟩:=JcA (xs:=fs) (e:=e) h0 (by omega);exact ⟨y,hfr y h3,h2⟩
   refine ⟨_,rfl,_,rfl,_,_,rfl,rfl,.inl ⟨by decide,by decide⟩,_,rfl,_,rfl,_,_,rfl,rfl,.inl ⟨by decide,by decide⟩,_,_,rfl,rfl,_,rfl,pf,_,rfl,hf2,fun p1 n1=>?_⟩;obtain ⟨ys1,ey1,my1⟩:=Jjg (xs:=fs) (lo:=some (7 * (0 + (i:Int)))) (hi:=some (7 * (0 + (i:Int)) + 6));have ly1:ys1.length=6:=by
    have z:=congrArg List.length ey1;rw [List.length_map] at z;rw [← z];unfold JaT;rw [List.length_map];have a1:HT.sIx fs.length 0 (some (7 * (0 + (i:Int))))=7 * i:=by
     rw [show (7 * (0 + (i:Int)))=((7 * i:Nat):Int) by omega,HT.JjI];omega
    have a2:HT.sIx fs.length fs.length (some (7 * (0 + (i:Int)) + 6))=7 * i + 6:=by
     rw [show (7 * (0 + (i:Int)) + 6)=((7 * i + 6:Nat):Int) by omega,HT.JjI];omega
    rw [a1,a2,List.length_take,List.length_drop,List.length_map];omega
   have e3:=Jf.upd (o:=.lst (JaT (fs.map V.int) (some (7 * (0 + (i:Int)))) (some (7 * (0 + (i:Int)) + 6)))) n1;have h3:upd H2 p1 (.lst (JaT (fs.map V.int) (some (7 * (0 + (i:Int)))) (some (7 * (0 + (i:Int)) + 6)))) p1=some (.lst (ys1.map V.int)):=by rw [Jh,ey1]
   generalize upd H2 p1 (.lst (JaT (fs.map V.int) (some (7 * (0 + (i:Int)))) (some (7 * (0 + (i:Int)) + 6))))=H3 at e3 h3;obtain ⟨y1,yr1,ya1⟩:=at_ e3 (e:=7 * (0 + (i:Int)) + 6) (by omega) (by omega);refine ⟨_,rfl,_,rfl,_,_,rfl,rfl,.inl ⟨by decide,by decide⟩,_,_,rfl,rfl,pf,_,_,.int y1,rfl,rfl,e3.seq hf2,ya1,_,_,rfl,rfl,(by show (0:Int) < 6; decide),_,_,rfl,rfl,?_⟩;refine ⟨fun σ1 H4=>∃ (pp:Addr) (xs:List Int) (sz:Int),Jf H2 H4∧H4 pp=some (.lst (xs.map V.int))∧xs.length=6∧(∀ x∈xs,0≤x∧x < 26)∧1≤sz∧sz≤6∧σ1=[some (.int c),some (.int n),some (.str LT),some (.ref pf),some (.ref pl),some (.int (0 + (i:Int))),some (.ref pp),some (.int sz),v8,v9,v10],?_,?_⟩
   ·refine ⟨_,rfl,_,_,rfl,rfl,(by show (0:Int) < 4; decide),rfl,_,rfl,YE (fun _=>?_) (fun _=>?_)⟩
    ·refine ⟨_,rfl,_,rfl,pf,_,rfl,e3.seq hf2,fun p4 n4=>?_⟩;obtain ⟨ys2,ey2,my2⟩:=Jjg (xs:=fs) (lo:=none) (hi:=some 6);have ly2:ys2.length=6:=by
      have z:=congrArg List.length ey2;rw [List.length_map] at z;have z2:=Jj5 (xs:=fs) (k:=6) (by decide) (by omega);omega
     have n42:H2 p4=none:=by
      cases hd:H2 p4 with
      | none=>rfl
      | some u=>rw [e3 _ _ hd] at n4; cases n4
     have e4:=e3.trans (Jf.upd (o:=.lst (JaT (fs.map V.int) none (some 6))) n4);obtain ⟨y6,yr6,ya6⟩:=at_ e4 (e:=6) (by omega) (by omega);refine ⟨_,rfl,pf,_,_,.int y6,rfl,rfl,e4.seq hf2,ya6,_,_,rfl,rfl,(by show (0:Int) < 6; decide),_,_,rfl,rfl,?_⟩;obtain ⟨y0,yr0,ya0⟩:=at_ e4 (e:=0) (by omega) (by omega);obtain ⟨yo,yro,yao⟩:=at_ e4 (e:=1) (by omega) (by omega);have hsz1:1≤1 + y6 % 6∧1 + y6 % 6≤6:=by omega
     refine ⟨_,rfl,pf,_,_,.int yo,rfl,rfl,e4.seq hf2,yao,_,rfl,_,_,rfl,rfl,.inl ⟨by decide,by decide⟩,_,_,rfl,rfl,_,_,rfl,rfl,(by show (0:Int) < 26; decide),?_⟩;have hj0:=Int.emod_nonneg y0 (b:=1 + y6 % 6) (by omega);have hj1:=Int.emod_lt_of_pos y0 (b:=1 + y6 % 6) (by omega);refine ⟨_,rfl,_,rfl,pf,_,_,.int y0,rfl,rfl,e4.seq hf2,ya0,_,rfl,_,_,rfl,rfl,(by show (0:Int) < 1 + y6 % 6; omega),p4,_,_,(y0 % (1 + y6 % 6)).toNat,rfl,rfl,Jh,?_,?_⟩
     ·rw [ey2,List.length_map,ly2];unfold ixN;rw [if_pos hj0,if_pos (by omega)]
     ·refine ⟨p4,ys2.set (y0 % (1 + y6 % 6)).toNat ((yo + 5 * (0 + (i:Int))) % 26),1 + y6 % 6,fun b u e=>?_,?_,by rw [List.length_set]; exact ly2,fun x hx=>?_,hsz1.1,hsz1.2,rfl⟩
      ·rw [Jq (JB e n42)]; exact e4 b u e
      ·rw [Jh,ey2,List.map_set]
      ·rcases List.mem_or_eq_of_mem_set hx with w | w
       ·exact hfr x (my2 x w)
       ·rw [w]; omega
    ·exact ⟨p1,ys1,1 + y1 % 6,e3,h3,ly1,fun x hx=>hfr x (my1 x hx),by omega,by omega,rfl⟩
   rintro σ1 H4 ⟨pp,xs,sz,e4,hx4,lx4,rx4,s41,s42,rfl⟩;refine ⟨fun σ1 H4=>∃ (pp:Addr) (xs:List Int) (sz:Int),Jf H2 H4∧H4 pp=some (.lst (xs.map V.int))∧xs.length=6∧(∀ x∈xs,0≤x∧x < 26)∧1≤sz∧sz≤6∧σ1=[some (.int c),some (.int n),some (.str LT),some (.ref pf),some (.ref pl),some (.int (0 + (i:Int))),some (.ref pp),some (.int sz),v8,v9,v10],?_,?_⟩
   ·refine ⟨_,rfl,_,_,rfl,rfl,(by show (0:Int) < 4; decide),rfl,_,rfl,YE (fun _=>?_) (fun _=>⟨pp,xs,sz,e4,hx4,lx4,rx4,s41,s42,rfl⟩)⟩;obtain ⟨yo,yro,yao⟩:=at_ e4 (e:=1) (by omega) (by omega);refine ⟨_,rfl,pf,_,_,.int yo,rfl,rfl,e4.seq hf2,yao,_,rfl,_,_,rfl,rfl,⟨by decide,by decide⟩,_,_,rfl,rfl,_,_,rfl,rfl,(by show (0:Int) < 26; decide),by show 1≤sizeLine; decide,fun p5 n5=>?_⟩;have e5:=e4.trans (Jf.upd (o:=.lst [.int ((yo + (0 + (i:Int)) / 6) % 26)]) n5);refine ⟨p5,6,_,rfl,rfl,Jh,by decide,by decide,by show 1 * 6≤sizeLine; decide,fun p6 n6=>?_⟩;have e6:=e5.trans (Jf.upd (o:=.lst (List.replicate (6:Int).toNat [V.int ((yo + (0 + (i:Int)) / 6) % 26)]).flatten) n6);obtain ⟨y0,yr0,ya0⟩:=at_ e6 (e:=0) (by omega) (by omega);refine ⟨_,rfl,_,rfl,pf,_,_,.int y0,rfl,rfl,e6.seq hf2,ya0,_,_,rfl,rfl,_,_,rfl,rfl,(by show (0:Int) < 6; decide),_,_,rfl,rfl,?_⟩;refine ⟨p6,List.replicate 6 ((yo + (0 + (i:Int)) / 6) % 26),_,e6,?_,by simp,fun x hx=>?_,?_,?_,rfl⟩
    ·rw [Jh]; rfl
    ·rw [(List.mem_replicate.mp hx).2]; omega
    ·omega
    ·omega
   clear hx4 lx4 rx4 s41 s42 e4 pp xs sz H4 e3 h3 H3 ya1 yr1 y1 ly1 my1 ey1 ys1;rintro σ1 H4 ⟨pp,xs,sz,e4,hx4,lx4,rx4,s41,s42,rfl⟩;refine ⟨fun σ1 H5=>∃ hd:Str,Jf H2 H5∧H5 pp=some (.lst (xs.map V.int))∧hd.length≤5∧(∀ c∈hd.cps.toList,Zw c=true)∧σ1=[some (.int c),some (.int n),some (.str LT),some (.ref pf),some (.ref pl),some (.int (0 + (i:Int))),some (.ref pp),some (.int sz),some (.str hd),v9,v10],?_,?_⟩
   ·refine ⟨rfl,_,rfl,_,rfl,_,_,rfl,rfl,_,rfl,pp,_,rfl,Js.of hx4,fun p5 n5=>⟨p5,rfl,⟨_,Js.of Jh⟩,fun D hD=>?_⟩⟩;have e5:=Jf.upd (o:=.lst (JaT (xs.map V.int) none (some (sz - 1)))) n5;have hcl:=Jj5 (xs:=xs) (k:=sz - 1) (by omega) (by omega);refine JhL (xs:=JaT (xs.map V.int) none (some (sz - 1))) (fun _ v=>∃ c,v=.str ⟨#[c]⟩∧Zw c=true) rfl (Js.of Jh) hD (by have:sizeLine=16777216:=sizeLine_eq; omega) (fun i x H6 hx6 e6 Q' hQ=>?_) (fun ys H6 e6 hD6 hl6 hF=>?_)
    ·obtain ⟨j,hj,rfl⟩:=List.mem_map.mp (Joz (List.mem_of_getElem? hx6));obtain ⟨hj0,hj1⟩:=rx4 j hj;exact ⟨_,rfl,_,rfl,_,_,_,rfl,rfl,Jms,JhD hj0 hj1,hQ _ ⟨_,rfl,Jit (by omega)⟩⟩
    ·obtain ⟨zs,rfl,hz⟩:∃ zs:List Str,ys=zs.map V.str∧∀ y∈zs,∃ c,y=⟨#[c]⟩∧Zw c=true:=by
      clear hD6 hl6
      induction ys with
      | nil=>exact ⟨[],rfl,fun u hu=>nomatch hu⟩
      | cons v r ih =>
       obtain ⟨zs,rfl,hz⟩:=ih fun i v' e=>hF (i + 1) v' (by simpa using e)
       obtain ⟨d,rfl,hu⟩:=hF 0 v rfl;refine ⟨⟨#[d]⟩ :: zs,rfl,fun u' h'=>?_⟩;rcases List.mem_cons.mp h' with rfl | h'
       ·exact ⟨d,rfl,hu⟩
       ·exact hz u' h'
     rw [List.length_map] at hl6;obtain ⟨j1,j2⟩:=Jgk hz;have ej:Txt.join Str.empty zs=Str.join Str.empty zs:=StrLaws.glued_eq_join _ _;have hsum:(zs.map (·.length)).sum=zs.length:=PyProof.Rows.sumLen_of_ones zs fun u hu=>by
      obtain ⟨d,rfl,_⟩:=hz u hu;rfl
     refine ⟨_,D,zs,rfl,rfl,Js.of hD6,by show _ + zs.length * 0≤_; omega,Txt.join Str.empty zs,(e4.trans e5).trans e6,e6 _ _ (e5 _ _ hx4),?_,?_,rfl⟩
     ·rw [ej,j1]; omega
     ·rw [ej]; exact j2
   rintro σ1 H5 ⟨hd,e5,hx5,hd1,hd2,rfl⟩;obtain ⟨x,hxa,hxm⟩:=JcA (xs:=xs) (e:=sz - 1) (by omega) (by omega);have hs5:=e5 _ _ hs2;refine ⟨26,rfl,by decide,by decide,Zc (n:=26) (fun j σ H6=>H6=H5∧(∀ m:Nat,m < j→nam hd ((x + m) % 26).toNat∈ss)∧∃ v9 v10,σ=[some (.int c),some (.int n),some (.str LT),some (.ref pf),some (.ref pl),some (.int (0 + (i:Int))),some (.ref pp),some (.int sz),some (.str hd),v9,v10]) ⟨rfl,fun m hm=>absurd hm (Nat.not_lt_zero _),_,_,rfl⟩ ?_ ?_⟩
   ·rintro j σ H6 hj ⟨rfl,hin,v9,v10,rfl⟩;have m0:=Int.emod_nonneg (x + (0 + (j:Int))) (b:=26) (by decide);have m1:=Int.emod_lt_of_pos (x + (0 + (j:Int))) (b:=26) (by decide);have en:(x + (0 + (j:Int))) % 26=(x + (j:Nat)) % 26:=by rw [Int.zero_add]
    refine ⟨_,rfl,_,rfl,_,rfl,_,rfl,_,_,rfl,rfl,pp,_,_,.int x,rfl,rfl,Js.of hx5,hxa,_,rfl,_,_,rfl,rfl,_,_,rfl,rfl,(by show (0:Int) < 26; decide),_,_,_,rfl,rfl,Jms,JhD m0 m1,_,_,rfl,rfl,?_,?_⟩
    ·show hd.length + 1≤sizeLine;have:sizeLine=16777216:=sizeLine_eq;omega
    ·refine ⟨_,rfl,_,rfl,pl,_,rfl,.inl (Js.of hs5),rfl,Jb3 ss,_,rfl,?_⟩;rw [if_pos rfl,JcV];show if (!decide (nam hd ((x + (0 + (j:Int))) % 26).toNat∈ss))=true then _ else _;rw [en];by_cases hmem:nam hd ((x + (j:Nat)) % 26).toNat∈ss
     ·refine J3 (by rw [decide_eq_true hmem]; rfl) ⟨rfl,fun m hm=>?_,_,_,rfl⟩;by_cases hmj:m=j
      ·rw [hmj]; exact hmem
      ·exact hin m (by omega)
     ·refine YH (by rw [decide_eq_false hmem]; rfl) ?_;refine ⟨_,rfl,.inl ⟨rfl,_,Js.of hs5⟩,_,rfl,pl,_,_,rfl,rfl,hs5,by rw [List.length_map]; have:sizeLine=16777216:=sizeLine_eq; omega,?_⟩;refine ⟨ss ++ [nam hd ((x + (j:Nat)) % 26).toNat],_,_,_,_,_,_,fun b u e=>?_,?_,by simp [hsl],fun s hs=>?_,?_,rfl⟩
      ·rw [Jq (JB e hpl)]; exact e5 b u (e2 b u e)
      ·rw [Jh,List.map_append];rfl
      ·rcases List.mem_append.mp hs with w | w
       ·exact hsg s w
       ·rw [List.mem_singleton.mp w];exact Jnh hd1 hd2 (by rw [en] at m0 m1; omega)
      ·rw [List.nodup_append];refine ⟨hsn,by simp,fun a ha b hb e=>?_⟩;rw [List.mem_singleton] at hb;subst hb e;exact hmem ha
   ·rintro σ H6 ⟨rfl,hin,_⟩;exact (Jni (x:=x) (ss:=ss) (by omega) fun m hm=>hin m hm).elim
  ·rintro σ H2 ⟨ss,v5,v6,v7,v8,v9,v10,e2,hs2,hsl,hsg,hsn,rfl⟩;exact ⟨_,rfl,q pl ss H2 npl (e1.trans e2) hs2 hsl hsg hsn⟩
theorem Jnb (T:Txt K mg):JN P w K mg base YO 2 T.Jha T.JfE ["_law_cell", "_law_draw", "_law_size"] (JmC K):=by
 refine T.Jhj.F.ok Zg (fun vs H Q E h=>?_) (fun cdv A outer s H vs Q E hr h=>?_)
 ·obtain ⟨_,_,_,rfl,_⟩:=h;rfl
 ·obtain ⟨c,d,n,rfl,hn1,hn2,q⟩:=h;have hu:=Jbg hr;have szl:sizeLine=16777216:=sizeLine_eq;refine ⟨_,(@Jd _ _ _ _ _ (@Jr _ _ 3 _ _ _ _ Zg.nd rfl (Or.inl rfl) (@Yj _ _ _ _ (@Jb _)) rfl (.inl rfl)) (@Jd _ _ _ _ _ (@Jr _ _ 4 _ _ _ _ Zg.nd rfl (Or.inl rfl) (@Jl _ _ _ _ _ _ _ _ (@JZ _) (@Jl _ _ _ _ _ _ _ _ (@ZJ _) (@pv _ 0 _ _ rfl (.inl rfl) rfl rfl) (@Jc _ _ _ _)) (@Jc _ _ _ _)) rfl (.inl rfl)) (@Jd _ _ _ _ _ (@J7 _ _ _ (@JL _ _ _ _ _ _ _ _ (@Jp _ _ _ _ _ _ _ _ (@J2 _) (@Jl _ _ _ _ _ _ _ _ (@JZ _) (@pv _ 0 _ _ rfl (.inl rfl) rfl rfl) (@Jc _ _ _ _)) (@Jc _ _ _ _) (Ju _)) (@Jg _ _ _ (@Yv _ _ _ _ _ _ _ _ PassesOwn.never rfl (@Za _ _ _ _ _ _ rfl T.Y2 (@Ja _ _ _ _ _ (@Jl _ _ _ _ _ _ _ _ (@Yq _) (@pv _ 2 _ _ rfl (.inl rfl) rfl rfl) (@Jc _ _ _ _)) (@Jb _) rfl) rfl) (@JV _ _ 5 _ Zg.nd rfl (Or.inl rfl) (.inl rfl)) (@Jd _ _ _ _ _ (@JG _ _ _ _ (@JaE _ _ _ _ _ _ _ _ _ _ _ _ PySem.F.plainAttrs_list PySem.F.slot_list_append PySem.F.type_list_append (@YY _) (@pv _ 3 _ _ rfl (.inl rfl) rfl rfl) (@Ja _ _ _ _ _ (@YG _ _ _ _ _ (@Ja _ _ _ _ _ (@pv _ 5 _ _ rfl (.inl rfl) rfl rfl) (@Ja _ _ _ _ _ (@Jl _ _ _ _ _ _ _ _ (@JP _) (@pv _ 5 _ _ rfl (.inl rfl) rfl rfl) (@Jc _ _ _ _)) (@Jb _) rfl) rfl)) (@Jb _) rfl) rfl rfl rfl rfl rfl) rfl) (@Jg _ _ _ (@JG _ _ _ _ (@JaE _ _ _ _ _ _ _ _ _ _ _ _ PySem.F.plainAttrs_list PySem.F.slot_list_append PySem.F.type_list_append (@YY _) (@pv _ 3 _ _ rfl (.inl rfl) rfl rfl) (@Ja _ _ _ _ _ (@YG _ _ _ _ _ (@Ja _ _ _ _ _ (@pv _ 5 _ _ rfl (.inl rfl) rfl rfl) (@Ja _ _ _ _ _ (@JS _ _ _ _ _ _ _ _ _ (@Jb4 _ rfl) rfl T.JdX PyProof.Rows.boot_max (@Ja _ _ _ _ _ (@Jc _ _ _ _) (@Ja _ _ _ _ _ (@Jl _ _ _ _ _ _ _ _ (@Yq _) (@pv _ 5 _ _ rfl (.inl rfl) rfl rfl) (@Jc _ _ _ _)) (@Jb _) rfl) rfl) (by decide) (by decide) rfl rfl) (@Jb _) rfl) rfl)) (@Jb _) rfl) rfl rfl rfl rfl rfl) rfl))) (by intro _; rfl))) (@Jw _))) (@Jd _ _ _ _ _ (@J7 _ _ _ (@JL _ _ _ _ _ _ _ _ (@Jp _ _ _ _ _ _ _ _ (@J2 _) (@Jl _ _ _ _ _ _ _ _ (@JZ _) (@pv _ 0 _ _ rfl (.inl rfl) rfl rfl) (@Jc _ _ _ _)) (@Jc _ _ _ _) (Ju _)) (@Jg _ _ _ (@Yv _ _ _ _ _ _ _ _ PassesOwn.never rfl (@Jlt _ _ _ _ _ _ _ rfl T.Y2 (@Ja _ _ _ _ _ (@Jc _ _ _ _) (@Ja _ _ _ _ _ (@Jl _ _ _ _ _ _ _ _ (@Yq _) (@pv _ 2 _ _ rfl (.inl rfl) rfl rfl) (@Jc _ _ _ _)) (@Jb _) rfl) rfl) rfl rfl) (@JV _ _ 5 _ Zg.nd rfl (Or.inl rfl) (.inl rfl)) (@Jd _ _ _ _ _ (@JG _ _ _ _ (@JaE _ _ _ _ _ _ _ _ _ _ _ _ PySem.F.plainAttrs_list PySem.F.slot_list_append PySem.F.type_list_append (@YY _) (@pv _ 3 _ _ rfl (.inl rfl) rfl rfl) (@Ja _ _ _ _ _ (@YG _ _ _ _ _ (@Ja _ _ _ _ _ (@pv _ 5 _ _ rfl (.inl rfl) rfl rfl) (@Ja _ _ _ _ _ (@Jl _ _ _ _ _ _ _ _ (@JP _) (@pv _ 5 _ _ rfl (.inl rfl) rfl rfl) (@Jc _ _ _ _)) (@Jb _) rfl) rfl)) (@Jb _) rfl) rfl rfl rfl rfl rfl) rfl) (@Jg _ _ _ (@JG _ _ _ _ (@JaE _ _ _ _ _ _ _ _ _ _ _ _ PySem.F.plainAttrs_list PySem.F.slot_list_append PySem.F.type_list_append (@YY _) (@pv _ 3 _ _ rfl (.inl rfl) rfl rfl) (@Ja _ _ _ _ _ (@YG _ _ _ _ _ (@Ja _ _ _ _ _ (@pv _ 5 _ _ rfl (.inl rfl) rfl rfl) (@Ja _ _ _ _ _ (@Jc _ _ _ _) (@Jb _) rfl) rfl)) (@Jb _) rfl) rfl rfl rfl rfl rfl) rfl))) (by intro _; rfl))) (@Jw _))) (@Jd _ _ _ _ _ (@J7 _ _ _ (@JL _ _ _ _ _ _ _ _ (@Jp _ _ _ _ _ _ _ _ (@J2 _) (@Jl _ _ _ _ _ _ _ _ (@JZ _) (@pv _ 0 _ _ rfl (.inl rfl) rfl rfl) (@Jc _ _ _ _)) (@Jc _ _ _ _) (Ju _)) (@Jg _ _ _ (@Jr _ _ 4 _ _ _ _ Zg.nd rfl (Or.inl rfl) (@Jl _ _ _ _ _ _ _ _ (@ZX _) (@Jc _ _ _ _) (@JS _ _ _ _ _ _ _ _ _ (@Jb4 _ rfl) rfl T.JdX PyProof.Rows.boot_max (@Ja _ _ _ _ _ (@Jc _ _ _ _) (@Ja _ _ _ _ _ (@Jl _ _ _ _ _ _ _ _ (@Yq _) (@pv _ 2 _ _ rfl (.inl rfl) rfl rfl) (@Jc _ _ _ _)) (@Jb _) rfl) rfl) (by decide) (by decide) rfl rfl)) rfl (.inl rfl))) (@Jw _))) (@Jd _ _ _ _ _ (@J7 _ _ _ (@JL _ _ _ _ _ _ _ _ (@Jp _ _ _ _ _ _ _ _ (@J2 _) (@Jl _ _ _ _ _ _ _ _ (@JZ _) (@pv _ 0 _ _ rfl (.inl rfl) rfl rfl) (@Jc _ _ _ _)) (@Jc _ _ _ _) (Ju _)) (@Jg _ _ _ (@Jr _ _ 4 _ _ _ _ Zg.nd rfl (Or.inl rfl) (@Jl _ _ _ _ _ _ _ _ (@JZ _) (@Jl _ _ _ _ _ _ _ _ (@JP _) (@Jl _ _ _ _ _ _ _ _ (@ZJ _) (@pv _ 0 _ _ rfl (.inl rfl) rfl rfl) (@Jc _ _ _ _)) (@Jc _ _ _ _)) (@Jc _ _ _ _)) rfl (.inl rfl))) (@Jw _))) (@Jd _ _ _ _ _ (@J7 _ _ _ (@Jr _ _ 6 _ _ _ _ Zg.nd rfl (Or.inl rfl) (@Jn _ _ _ _ _ _ _ _ _ _ _ _ _ _ _ T.JgE (JiP T) (hr.mono (by decide)) JE (@Ja _ _ _ _ _ (@pv _ 1 _ _ rfl (.inl rfl) rfl rfl) (@Ja _ _ _ _ _ (@Jl _ _ _ _ _ _ _ _ (@ZX _) (@Jc _ _ _ _) (@pv _ 4 _ _ rfl (.inl rfl) rfl rfl)) (@Ja _ _ _ _ _ (@pv _ 2 _ _ rfl (.inl rfl) rfl rfl) (@Jb _) rfl) rfl) rfl) rfl (by decide) rfl rfl) rfl (.inl rfl))) (@Jd _ _ _ _ _ (@Yv _ _ _ _ _ _ _ _ PassesOwn.never rfl (@Za _ _ _ _ _ _ rfl T.Y2 (@Ja _ _ _ _ _ (@pv _ 4 _ _ rfl (.inl rfl) rfl rfl) (@Jb _) rfl) rfl) (@JV _ _ 5 _ Zg.nd rfl (Or.inl rfl) (.inl rfl)) (@Jd _ _ _ _ _ (@Jr _ _ 7 _ _ _ _ Zg.nd rfl (Or.inl rfl) (@YG _ _ _ _ _ (@Ja _ _ _ _ _ (@JA _ _ _ _ _ _ _ (@J4 _) (@pv _ 6 _ _ rfl (.inl rfl) rfl rfl) (@Jl _ _ _ _ _ _ _ _ (@ZX _) (@Jc _ _ _ _) (@pv _ 5 _ _ rfl (.inl rfl) rfl rfl)) (fun _ _=>rfl)) (@Ja _ _ _ _ _ (@JA _ _ _ _ _ _ _ (@J4 _) (@pv _ 6 _ _ rfl (.inl rfl) rfl rfl) (@Jl _ _ _ _ _ _ _ _ (@JP _) (@Jl _ _ _ _ _ _ _ _ (@ZX _) (@Jc _ _ _ _) (@pv _ 5 _ _ rfl (.inl rfl) rfl rfl)) (@Jc _ _ _ _)) (fun _ _=>rfl)) (@Jb _) rfl) rfl)) rfl (.inl rfl)) (@Jd _ _ _ _ _ (@J7 _ _ _ (@JL _ _ _ _ _ _ _ _ (@Jp _ _ _ _ _ _ _ _ (@J2 _) (@Jl _ _ _ _ _ _ _ _ (@JZ _) (@pv _ 0 _ _ rfl (.inl rfl) rfl rfl) (@Jc _ _ _ _)) (@Jc _ _ _ _) (Ju _)) (@Jg _ _ _ (@Jr _ _ 7 _ _ _ _ Zg.nd rfl (Or.inl rfl) (@YG _ _ _ _ _ (@Ja _ _ _ _ _ (@Jl _ _ _ _ _ _ _ _ (@JP _) (@Jc _ _ _ _) (@Jl _ _ _ _ _ _ _ _ (@ZJ _) (@pv _ 5 _ _ rfl (.inl rfl) rfl rfl) (@Jc _ _ _ _))) (@Ja _ _ _ _ _ (@JA _ _ _ _ _ _ _ (@J4 _) (@pv _ 6 _ _ rfl (.inl rfl) rfl rfl) (@pv _ 5 _ _ rfl (.inl rfl) rfl rfl) (fun _ _=>rfl)) (@Jb _) rfl) rfl)) rfl (.inl rfl))) (@Jw _))) (@Jg _ _ _ (@J7 _ _ _ (@JL _ _ _ _ _ _ _ _ (@Jp _ _ _ _ _ _ _ _ (@Jh5 _ hu) (@pv _ 7 _ _ rfl (.inl rfl) rfl rfl) (@pv _ 3 _ _ rfl (.inl rfl) rfl rfl) (by with_unfolding_all rfl)) (@Jg _ _ _ (@JG _ _ _ _ (@JaE _ _ _ _ _ _ _ _ _ _ _ _ PySem.F.plainAttrs_list PySem.F.slot_list_append PySem.F.type_list_append (@YY _) (@pv _ 3 _ _ rfl (.inl rfl) rfl rfl) (@Ja _ _ _ _ _ (@pv _ 7 _ _ rfl (.inl rfl) rfl rfl) (@Jb _) rfl) rfl rfl rfl rfl rfl) rfl)) (@Jw _)))))) (by intro _; rfl)) (@Jg _ _ _ (@Jt _ _ _ _ (@pv _ 3 _ _ rfl (.inl rfl) rfl rfl))))))))))),?_⟩
  try dsimp only [cxK,Jdo]
  refine ⟨by show 0≤sizeLine; decide,fun pl hpl=>?_⟩;have W0:PW K H pl n (upd H pl (.lst [])) []:=⟨Jf.upd hpl,Jh,(fun z hz=>nomatch hz),List.nodup_nil,(fun z hz=>nomatch hz)⟩
  generalize upd H pl (.lst [])=H1 at W0;refine ⟨_,rfl,_,_,rfl,rfl,⟨by decide,by decide⟩,_,_,rfl,rfl,(by show (0:Int) < 9; decide),?_⟩;refine ⟨fun σ1 H2=>∃ zs v5,PW K H pl n H2 zs∧(c % 4=0→zs.length≤22)∧(c % 4≠0→zs=[])∧σ1=[some (.int c),some (.int d),some (.int n),some (.ref pl),some (.int (c / 4 % 9)),v5,none,none],?_,?_⟩
  ·refine ⟨_,rfl,_,_,rfl,rfl,(by show (0:Int) < 4; decide),rfl,_,rfl,YE (fun c0=>?_) (fun c0=>⟨[],none,W0,fun _=>Nat.zero_le _,fun _=>rfl,rfl⟩)⟩;have c0':c % 4=0:=V.int.inj (of_decide_eq_true c0);refine ⟨_,rfl,_,_,rfl,rfl,(n:Int) - 1,rfl,by omega,by omega,?_⟩;rw [show ((n:Int) - 1).toNat=n - 1 by omega];refine Zc (n:=n - 1) (fun i σ H2=>∃ zs v5,PW K H pl n H2 zs∧zs.length=2 * i∧(∀ z∈zs,z.2.1 < i)∧σ=[some (.int c),some (.int d),some (.int n),some (.ref pl),some (.int (c / 4 % 9)),v5,none,none]) ⟨[],none,W0,rfl,(fun z hz=>nomatch hz),rfl⟩ ?_ ?_
   ·rintro i σ H2 hi ⟨zs,v5,W,hl,hz,rfl⟩;refine ⟨_,rfl,.inl ⟨rfl,_,Js.of W.at_⟩,_,rfl,_,rfl,_,_,rfl,rfl,by show 2≤sizeLine; omega,fun t1 n1=>⟨pl,_,_,rfl,rfl,(Jf.upd n1) _ _ W.at_,by rw [List.length_map]; omega,?_⟩⟩;have W1:=W.add hpl (Jf.upd n1) (t:=t1) (a:=0 + (i:Int)) (b:=0 + (i:Int) + 1) Jh (fun q=>by
     obtain ⟨z,h1,h2⟩:=List.mem_map.mp q;have:=hz z h1;rw [h2] at this;have:(0:Int) + i < i:=this;omega) ⟨by omega,by omega⟩
    refine ⟨_,rfl,.inl ⟨rfl,_,Js.of W1.at_⟩,_,rfl,_,rfl,_,_,rfl,rfl,_,_,rfl,by show 2≤sizeLine; omega,fun t2 n2=>⟨pl,_,_,rfl,rfl,(Jf.upd n2) _ _ W1.at_,by rw [List.length_map,List.length_append]; show _ + 1 < _; omega,?_⟩⟩;have W2:=W1.add hpl (Jf.upd n2) (t:=t2) (a:=0 + (i:Int)) (b:=if 0 + (i:Int) - 1 > 0 then 0 + (i:Int) - 1 else 0) Jh (fun q=>by
     rw [List.map_append,List.mem_append] at q;rcases q with q | q
     ·obtain ⟨z,h1,h2⟩:=List.mem_map.mp q;have:=hz z h1;rw [h2] at this;have:(0:Int) + i < i:=this;omega
     ·have e:=congrArg Prod.snd (List.mem_singleton.mp q);have e:(if 0 + (i:Int) - 1 > 0 then 0 + (i:Int) - 1 else 0)=0 + (i:Int) + 1:=e;split at e <;> omega) ⟨by omega,by split <;> omega⟩
    exact ⟨_,_,W2,by simp [hl]; omega,fun z hz2=>by
     rcases List.mem_append.mp hz2 with q | q
     ·rcases List.mem_append.mp q with q | q
      ·have:=hz z q; show z.2.1 < ((i + 1:Nat):Int); omega
      ·rw [List.mem_singleton.mp q]; show (0:Int) + i < ((i + 1:Nat):Int); omega
     ·rw [List.mem_singleton.mp q]; show (0:Int) + i < ((i + 1:Nat):Int); omega,rfl⟩
   ·rintro σ H2 ⟨zs,v5,W,hl,hz,rfl⟩;exact ⟨zs,v5,W,fun _=>by omega,fun h=>absurd c0' h,rfl⟩
  rintro σ1 H2 ⟨zs,v5,W,l1,l2,rfl⟩;refine ⟨fun σ1 H2=>∃ zs v5,PW K H pl n H2 zs∧(c % 4=0∨c % 4=1→zs.length≤22)∧(c % 4≠0→c % 4≠1→zs=[])∧σ1=[some (.int c),some (.int d),some (.int n),some (.ref pl),some (.int (c / 4 % 9)),v5,none,none],?_,?_⟩
  ·refine ⟨_,rfl,_,_,rfl,rfl,(by show (0:Int) < 4; decide),rfl,_,rfl,YE (fun c1=>?_) (fun c1=>⟨zs,v5,W,fun h=>l1 (h.elim id fun e=>absurd (decide_eq_true (congrArg V.int e)) c1),fun h _=>l2 h,rfl⟩)⟩;have c1':c % 4=1:=V.int.inj (of_decide_eq_true c1);obtain rfl:zs=[]:=l2 (by omega);refine ⟨_,rfl,_,_,rfl,rfl,1,(n:Int) - 1,rfl,⟨by omega,by omega,by omega,by omega⟩,?_⟩;rw [show ((n:Int) - 1 - 1).toNat=n - 2 by omega];refine Zc (n:=n - 2) (fun i σ H2=>∃ zs v5,PW K H pl n H2 zs∧zs.length=2 * i∧(∀ z∈zs,z.2.1 < 1 + i)∧σ=[some (.int c),some (.int d),some (.int n),some (.ref pl),some (.int (c / 4 % 9)),v5,none,none]) ⟨[],v5,W,rfl,(fun z hz=>nomatch hz),rfl⟩ ?_ ?_
   ·rintro i σ H2 hi ⟨zs,v5,W,hl,hz,rfl⟩;refine ⟨_,rfl,.inl ⟨rfl,_,Js.of W.at_⟩,_,rfl,_,rfl,_,_,rfl,rfl,by show 2≤sizeLine; omega,fun t1 n1=>⟨pl,_,_,rfl,rfl,(Jf.upd n1) _ _ W.at_,by rw [List.length_map]; omega,?_⟩⟩;have W1:=W.add hpl (Jf.upd n1) (t:=t1) (a:=1 + (i:Int)) (b:=1 + (i:Int) + 1) Jh (fun q=>by
     obtain ⟨z,h1,h2⟩:=List.mem_map.mp q;have:=hz z h1;rw [h2] at this;have:(1:Int) + i < 1 + i:=this;omega) ⟨by omega,by omega⟩
    refine ⟨_,rfl,.inl ⟨rfl,_,Js.of W1.at_⟩,_,rfl,by show 2≤sizeLine; omega,fun t2 n2=>⟨pl,_,_,rfl,rfl,(Jf.upd n2) _ _ W1.at_,by rw [List.length_map,List.length_append]; show _ + 1 < _; omega,?_⟩⟩;have W2:=W1.add hpl (Jf.upd n2) (t:=t2) (a:=1 + (i:Int)) (b:=0) Jh (fun q=>by
     rw [List.map_append,List.mem_append] at q;rcases q with q | q
     ·obtain ⟨z,h1,h2⟩:=List.mem_map.mp q;have:=hz z h1;rw [h2] at this;have:(1:Int) + i < 1 + i:=this;omega
     ·have e:=congrArg Prod.snd (List.mem_singleton.mp q);have e:(0:Int)=1 + (i:Int) + 1:=e;omega) ⟨by omega,by omega⟩
    exact ⟨_,_,W2,by simp [hl]; omega,fun z hz2=>by
     rcases List.mem_append.mp hz2 with q | q
     ·rcases List.mem_append.mp q with q | q
      ·have:=hz z q; show z.2.1 < 1 + ((i + 1:Nat):Int); omega
      ·rw [List.mem_singleton.mp q]; show (1:Int) + i < 1 + ((i + 1:Nat):Int); omega
     ·rw [List.mem_singleton.mp q]; show (1:Int) + i < 1 + ((i + 1:Nat):Int); omega,rfl⟩
   ·rintro σ H2 ⟨zs,v5,W,hl,hz,rfl⟩;exact ⟨zs,v5,W,fun _=>by omega,fun h h'=>absurd c1' h',rfl⟩
  clear l1 l2 W v5 zs H2;rintro σ1 H2 ⟨zs,v5,W,l1,l2,rfl⟩;have m9:0≤c / 4 % 9∧c / 4 % 9≤8:=by omega
  refine ⟨fun σ1 H3=>∃ m:Int,H3=H2∧0≤m∧zs.length + m≤40∧(c % 4=2→m≤2 * ((n:Int) - 2)∨m=0)∧σ1=[some (.int c),some (.int d),some (.int n),some (.ref pl),some (.int m),v5,none,none],?_,?_⟩
  ·refine ⟨_,rfl,_,_,rfl,rfl,(by show (0:Int) < 4; decide),rfl,_,rfl,YE (fun c2=>?_) (fun c2=>⟨_,rfl,m9.1,?_,fun h=>absurd (decide_eq_true (congrArg V.int h)) c2,rfl⟩)⟩
   ·have c2':c % 4=2:=V.int.inj (of_decide_eq_true c2);obtain rfl:zs=[]:=l2 (by omega) (by omega);refine ⟨_,rfl,_,_,rfl,rfl,_,_,rfl,_,_,rfl,rfl,.inl ⟨by decide,by decide⟩,_,rfl,?_,?_,fun _=>?_,rfl⟩
    ·split <;> omega
    ·show ((0:Nat):Int) + _≤40;split <;> omega
    ·split <;> omega
   ·by_cases h:c % 4=0∨c % 4=1
    ·have:=l1 h; omega
    ·rw [l2 (fun e=>h (.inl e)) (fun e=>h (.inr e))];show ((0:Nat):Int) + _≤40;omega
  rintro σ1 H3 ⟨m,rfl,hm0,hm1,hm2,rfl⟩;refine ⟨fun σ1 H4=>∃ m:Nat,H4=H3∧zs.length + m≤40∧(c % 4=2→m≤2 * (n - 2))∧σ1=[some (.int c),some (.int d),some (.int n),some (.ref pl),some (.int m),v5,none,none],?_,?_⟩
  ·refine ⟨_,rfl,_,_,rfl,rfl,(by show (0:Int) < 4; decide),rfl,_,rfl,YE (fun c3=>?_) (fun c3=>⟨m.toNat,rfl,by omega,fun h=>by have:=hm2 h; omega,by rw [Int.toNat_of_nonneg hm0]⟩)⟩;have c3':c % 4=3:=V.int.inj (of_decide_eq_true c3);obtain rfl:zs=[]:=l2 (by omega) (by omega);refine ⟨_,rfl,_,_,rfl,rfl,⟨by decide,by decide⟩,_,_,rfl,rfl,_,_,rfl,rfl,(by show (0:Int) < 41; decide),((c / 4 + 40) % 41).toNat,rfl,?_,fun h=>by omega,?_⟩
   ·show 0 + _≤40;omega
   ·rw [Int.toNat_of_nonneg (by omega)]; rfl
  clear hm2 hm1 hm0 m;rintro σ1 H4 ⟨m,rfl,hm1,hm2,rfl⟩;refine ⟨fun σ1 H5=>∃ (pe:Addr) (es:List Int),PW K H pl n H5 zs∧Js K H5 pe (es.map V.int)∧pe≠pl∧es.length=2 * m∧(∀ x∈es,0≤x∧x < n)∧σ1=[some (.int c),some (.int d),some (.int n),some (.ref pl),some (.int m),v5,some (.ref pe),none],
   ⟨_,rfl,_,rfl,_,_,rfl,rfl,.inl ⟨by decide,by decide⟩,_,rfl,d,2 * m,n,congrArg (fun z=>[V.int d,V.int z,V.int n]) (by omega:2 * (m:Int)=((2 * m:Nat):Int)),by omega,by omega,by omega,fun pe es H4 h1 e4 h2 h3 h4=>?_⟩,?_⟩
  ·exact ⟨pe,es,⟨W.sm.trans e4,e4 _ _ W.at_,fun z hz=>let ⟨a,g1,g2⟩:=W.ip z hz; ⟨a,g1,e4.tup g2⟩,W.nd,W.rg⟩,Js.of h2,(fun e=>by rw [e,W.at_] at h1; cases h1),h3,h4,rfl⟩
  rintro σ1 H4 ⟨pe,es,W4,he,hne,hel,her,rfl⟩;refine ⟨_,rfl,(m:Int),rfl,by omega,by omega,?_⟩;refine Zc (n:=m) (fun i σ H5=>∃ zs' v5 v7,PW K H pl n H5 zs'∧Js K H5 pe (es.map V.int)∧zs'.length≤zs.length + i∧σ=[some (.int c),some (.int d),some (.int n),some (.ref pl),some (.int m),v5,some (.ref pe),v7]) ⟨zs,v5,none,W4,he,by omega,rfl⟩ ?_ ?_
  ·rintro i σ H5 hi ⟨zs',v5,v7,W5,he5,hl5,rfl⟩;obtain ⟨x1,a1,g1⟩:=JcA (xs:=es) (e:=2 * (0 + (i:Int))) (by omega) (by omega);obtain ⟨x2,a2,g2⟩:=JcA (xs:=es) (e:=2 * (0 + (i:Int)) + 1) (by omega) (by omega);refine ⟨_,rfl,_,rfl,_,_,rfl,rfl,.inl ⟨by decide,by decide⟩,pe,_,_,.int x1,rfl,rfl,he5,a1,_,rfl,_,rfl,_,_,rfl,rfl,.inl ⟨by decide,by decide⟩,_,_,rfl,rfl,pe,_,_,.int x2,rfl,rfl,he5,a2,by show 2≤sizeLine; omega,fun t n1=>?_⟩;have e6:=Jf.upd (o:=.tup [.int x1,.int x2]) n1;refine ⟨fun σ1 H6=>∃ t a b,Jf H5 H6∧H6 t=some (.tup [.int a,.int b])∧((0≤a∧a < n)∧(0≤b∧b < n))∧σ1=[some (.int c),some (.int d),some (.int n),some (.ref pl),some (.int m),some (.int (0 + (i:Int))),some (.ref pe),some (.ref t)],?_,?_⟩
   ·refine ⟨_,rfl,_,_,rfl,rfl,(by show (0:Int) < 4; decide),rfl,_,rfl,YE (fun c2=>?_) (fun c2=>⟨t,x1,x2,e6,Jh,⟨her x1 g1,her x2 g2⟩,rfl⟩)⟩;have c2':c % 4=2:=V.int.inj (of_decide_eq_true c2);have hmm:=hm2 c2';obtain ⟨x3,a3,g3⟩:=JcA (xs:=es) (e:=0 + (i:Int)) (by omega) (by omega);refine ⟨_,rfl,_,_,rfl,rfl,⟨by decide,by decide⟩,_,_,rfl,rfl,_,rfl,_,rfl,pe,_,_,.int x3,rfl,rfl,e6.seq he5,a3,by show 2≤sizeLine; omega,fun t2 n2=>?_⟩;exact ⟨t2,1 + (0 + (i:Int)) / 2,x3,e6.trans (Jf.upd n2),Jh,⟨by omega,her x3 g3⟩,rfl⟩
   rintro σ1 H6 ⟨t,a,b,e6,ht,hab,rfl⟩;refine ⟨fun σ1 H7=>∃ zs' v5 v7,PW K H pl n H7 zs'∧Js K H7 pe (es.map V.int)∧zs'.length≤zs.length + (i + 1)∧σ1=[some (.int c),some (.int d),some (.int n),some (.ref pl),some (.int m),v5,some (.ref pe),v7],?_,fun σ' H' h=>h⟩;have W6:PW K H pl n H6 zs':=⟨W5.sm.trans e6,e6 _ _ W5.at_,fun z hz=>let ⟨a,g1,g2⟩:=W5.ip z hz; ⟨a,g1,e6.tup g2⟩,W5.nd,W5.rg⟩
   classical
   refine ⟨_,rfl,_,rfl,t,pl,_,Jev (a,b),_,rfl,rfl,JK.of ht,Js.of W6.at_,JjA W6.ip,_,rfl,?_⟩;have emem:(Jev (a,b)∈(zs'.map (·.2)).map Jev)↔(a,b)∈zs'.map (·.2):=by
    constructor
    ·intro h;obtain ⟨y,h1,h2⟩:=List.mem_map.mp h;rw [← Jnl h2]; exact h1
    ·exact fun h=>List.mem_map.mpr ⟨_,h,rfl⟩
   by_cases hin:(a,b)∈zs'.map (·.2)
   ·refine J3 (by rw [if_pos rfl,decide_eq_true (emem.mpr hin)]; rfl) ⟨zs',_,_,W6,e6.seq he5,by omega,rfl⟩
   ·refine YH (by rw [if_pos rfl,decide_eq_false (fun h=>hin (emem.mp h))]; rfl) ?_;refine ⟨_,rfl,.inl ⟨rfl,_,Js.of W6.at_⟩,_,rfl,pl,_,_,rfl,rfl,W6.at_,by rw [List.length_map]; omega,?_⟩;refine ⟨_,_,_,W6.add hpl (Jf.refl _) ht hin hab,?_,by simp; omega,rfl⟩;rcases e6.seq he5 with (h | ⟨o,h⟩) | h
    ·exact .inl (.inl (by rw [Jq hne]; exact h))
    ·exact .inl (.inr ⟨o,by rw [Jq hne]; exact h⟩)
    ·exact .inr h
  ·rintro σ H5 ⟨zs',v5,v7,W5,he5,hl5,rfl⟩;exact ⟨_,rfl,q pl zs' H5 hpl W5 (by omega)⟩
end
def JmH:Sp:=fun vs H Q _=>∃ (c kd:Int) (n:Nat),vs=[.int c,.int kd,.int n]∧1≤n∧n≤12∧∀ (p:Addr) (gs:List Int) (H':Hp),H p=none→Jf H H'→H' p=some (.lst (gs.map V.int))→gs.Nodup→(∀ g∈gs,0≤g∧g < n)→Q (.ref p) H'
def nm (ps:List Str) (x:Int):Str:=ps.getD x.toNat Str.empty
theorem Jh8 {ps:List Str} {x:Int} (h0:0≤x) (h1:x < ps.length):atI (ps.map V.str) x=some (.str (nm ps x)):=by
 obtain ⟨j,rfl⟩:∃ j:Nat,x=(j:Int):=⟨x.toNat,by omega⟩
 have hj:j < ps.length:=by omega
 refine JbN ?_;unfold nm;rw [List.getElem?_map,List.getD_eq_getElem?_getD,Int.toNat_natCast,List.getElem?_eq_getElem hj];rfl
theorem Jgj {ps:List Str} {x:Int} (h0:0≤x) (h1:x < ps.length):nm ps x∈ps:=by
 have hj:x.toNat < ps.length:=by omega
 unfold nm;rw [List.getD_eq_getElem?_getD,List.getElem?_eq_getElem hj];exact List.getElem_mem hj
theorem JiW {ps:List Str} (nd:ps.Nodup) {x y:Int} (h0:0≤x) (h1:x < ps.length) (g0:0≤y) (g1:y < ps.length) (e:nm ps x=nm ps y):x=y:=by
 have hx:x.toNat < ps.length:=by omega
 have hy:y.toNat < ps.length:=by omega
 unfold nm at e;rw [List.getD_eq_getElem?_getD,List.getD_eq_getElem?_getD,List.getElem?_eq_getElem hx,List.getElem?_eq_getElem hy] at e;have e:ps[x.toNat]=ps[y.toNat]:=e;have z:x.toNat=y.toNat:=by
  rcases Nat.lt_trichotomy x.toNat y.toNat with h | h | h
  ·exact absurd e (List.pairwise_iff_getElem.mp nd _ _ hx hy h)
  ·exact h
  ·exact absurd e.symm (List.pairwise_iff_getElem.mp nd _ _ hy hx h)
 omega
def nm2 (ps:List Str) (p:Int×Int):Str×Str:=(nm ps p.1,nm ps p.2)
theorem JhC {α β:Type} {f:α→β}:∀ {l:List α},l.Nodup→(∀ a∈l,∀ b∈l,f a=f b→a=b)→(l.map f).Nodup:=by
 intro l h hi;rw [List.Nodup,List.pairwise_map];exact List.Pairwise.imp_of_mem (fun ha hb hne e=>hne (hi _ ha _ hb e)) h
structure Ground (K:PySem.W.Frag) (H:Hp) (t:Addr) (ps:List Str) (zs:List (V×(Str×Str))) (gs:List Str):Prop where
 good:Jc5 ps (zs.map (·.2)) gs
 at_:∃ pn pl pg,H t=some (.tup [.ref pn,.ref pl,.ref pg])∧H pn=some (.lst (ps.map V.str))∧H pl=some (.lst (zs.map (·.1)))∧YV K H zs∧H pg=some (.lst (gs.map V.str))
theorem Ground.same {K:PySem.W.Frag} {H H':Hp} {t:Addr} {ps:List Str} {zs:List (V×(Str×Str))} {gs:List Str} (G:Ground K H t ps zs gs) (e:Jf H H'):Ground K H' t ps zs gs :=
 ⟨G.good,let ⟨pn,pl,pg,h1,h2,h3,h4,h5⟩:=G.at_; ⟨pn,pl,pg,e _ _ h1,e _ _ h2,e _ _ h3,ZR h4 e,e _ _ h5⟩⟩
def Jlf (K:PySem.W.Frag):Sp:=fun vs H Q _=>∃ (a:Addr) (ns:List Int) (k:Int),vs=[.ref a,.int k]∧Js K H a (ns.map V.int)∧0≤k∧∀ t ps zs gs H',Jf H H'→Ground K H' t ps zs gs→Q (.ref t) H'
section
variable {P:Program} {w:World} {K:PySem.W.Frag} {mg:Str→Option Value} {base:Heap}
theorem Jnd (T:Txt K mg):JN P w K mg base YO 2 T.Jhd T.JfH ["_law_cell", "_law_kind", "_law_size"] JmH:=by
 refine T.Jhl.F.ok JcH (fun vs H Q E h=>?_) (fun cdv A outer s H vs Q E hr h=>?_)
 ·obtain ⟨_,_,_,rfl,_⟩:=h;rfl
 ·obtain ⟨c,kd,n,rfl,hn1,hn2,q⟩:=h;have szl:sizeLine=16777216:=sizeLine_eq;refine ⟨_,(@Jd _ _ _ _ _ (@J7 _ _ _ (@Jr _ _ 3 _ _ _ _ JcH.nd rfl (Or.inr rfl) (@Jn _ _ _ _ _ _ _ _ _ _ _ _ _ _ _ T.JgE (JiP T) (hr.mono (by decide)) JE (@Ja _ _ _ _ _ (@Jl _ _ _ _ _ _ _ _ (@ZJ _) (@pv _ 0 _ _ rfl (.inl rfl) rfl rfl) (@Jc _ _ _ _)) (@Ja _ _ _ _ _ (@pv _ 2 _ _ rfl (.inl rfl) rfl rfl) (@Ja _ _ _ _ _ (@Jc _ _ _ _) (@Jb _) rfl) rfl) rfl) rfl (by decide) rfl rfl) rfl (by first | exact .inl rfl | exact .inr rfl | assumption))) (@Jd _ _ _ _ _ (@J7 _ _ _ (@JnM _ _ _ _ _ _ _ _ _ _ 4 1 ["_law_k", "_law_marks"] [3] _ _ _ _ ["_law_cell", "_law_kind", "_law_size", "_law_marks", "_law_found"] ((Jo JeW).names) (by decide +kernel) JcH.nd rfl (@Za _ _ _ _ _ _ rfl T.Y2 (@Ja _ _ _ _ _ (@pv _ 2 _ _ rfl (.inl rfl) rfl rfl) (@Jb _) rfl) rfl) (fun _ _ _ _=>(@ZV _ _ _ _ _ _ _ _ _ 0 (by decide +kernel) rfl rfl)) (fun _ _ _ _=>(@JgW _ _ _ (@Jp _ _ _ _ _ _ _ _ (@J2 _) (@JA _ _ _ _ _ _ _ (show IxR _ (JiF K) from (@J4 _)) (@ZW _ _ _ _ _ _ _ _ _ 1 rfl rfl (by decide) (by decide)) (@ZA _ _ _ _ _ _ _ _ _ 0 rfl rfl (by decide) (by decide)) (fun _ _=>rfl)) (@Jc _ _ _ _) (Ju _)))) (fun _ _ _ _=>(@ZA _ _ _ _ _ _ _ _ _ 0 rfl rfl (by decide) (by decide))) rfl rfl rfl rfl rfl (by intro _; rfl))) (@Jd _ _ _ _ _ (@J7 _ _ _ (@JL _ _ _ _ _ _ _ _ (@PW.pt _ _ _ (@Jlq _ _ _ _ _ _ _ (@Jp _ _ _ _ _ _ _ _ (@Jbe _) (@pv _ 1 _ _ rfl (.inl rfl) rfl rfl) (@Jc _ _ _ _) (Ju _)) (@JjL _ _ _ _ (@Jp _ _ _ _ _ _ _ _ (@Jp3 _) (@Jl _ _ _ _ _ _ _ _ (@JZ _) (@pv _ 0 _ _ rfl (.inl rfl) rfl rfl) (@Jc _ _ _ _)) (@Jc _ _ _ _) (Ju _))))) (@Jg _ _ _ (@Jr _ _ 4 _ _ _ _ JcH.nd rfl (Or.inl rfl) (@Yj _ _ _ _ (@Ja _ _ _ _ _ (@Jl _ _ _ _ _ _ _ _ (@Yq _) (@pv _ 2 _ _ rfl (.inl rfl) rfl rfl) (@Jc _ _ _ _)) (@Jb _) rfl)) rfl (.inl rfl))) (@Jw _))) (@Jd _ _ _ _ _ (@J7 _ _ _ (@JL _ _ _ _ _ _ _ _ (@PW.pt _ _ _ (@Jlq _ _ _ _ _ _ _ (@Jp _ _ _ _ _ _ _ _ (@J2 _) (@Jl _ _ _ _ _ _ _ _ (@JZ _) (@pv _ 0 _ _ rfl (.inl rfl) rfl rfl) (@Jc _ _ _ _)) (@Jc _ _ _ _) (Ju _)) (@JjL _ _ _ _ (@Jp _ _ _ _ _ _ _ _ (@JfA _ hr.units0) (@pv _ 4 _ _ rfl (.inl rfl) rfl rfl) (@Yj _ _ _ _ (@Jb _)) (Ju _))))) (@Jg _ _ _ (@Jr _ _ 4 _ _ _ _ JcH.nd rfl (Or.inl rfl) (@Yj _ _ _ _ (@Ja _ _ _ _ _ (@Jl _ _ _ _ _ _ _ _ (@Yq _) (@pv _ 2 _ _ rfl (.inl rfl) rfl rfl) (@Jc _ _ _ _)) (@Jb _) rfl)) rfl (.inl rfl))) (@Jw _))) (@Jg _ _ _ (@Jt _ _ _ _ (@pv _ 4 _ _ rfl (.inl rfl) rfl rfl))))))),?_⟩;refine ⟨fun σ1 H1=>∃ (pm:Addr) (ms:List Int),Jf H H1∧Js K H1 pm (ms.map V.int)∧ms.length=n∧σ1=[some (.int c),some (.int kd),some (.int n),some (.ref pm),none],
   ⟨_,rfl,_,_,rfl,rfl,⟨by decide,by decide⟩,_,rfl,_,n,_,rfl,by omega,by decide,by decide,fun pm ms H1 h1 e1 h2 h3 h4=>⟨pm,ms,e1,Js.of h2,h3,rfl⟩⟩,?_⟩
  rintro σ1 H1 ⟨pm,ms,e1,hm,hml,rfl⟩;have fresh:∀ {p:Addr} {H':Hp},Jf H H'→H' p=none→H p=none:=fun {p H'} e h=>by
   cases hd:H p with
   | none=>rfl
   | some u=>rw [e _ _ hd] at h; cases h
  let R:St→Hp→Prop:=fun σ1 H2=>∃ (p:Addr) (gs:List Int),H p=none∧Jf H H2∧H2 p=some (.lst (gs.map V.int))∧gs.Nodup∧(∀ g∈gs,0≤g∧g < n)∧σ1=[some (.int c),some (.int kd),some (.int n),some (.ref pm),some (.ref p)]
  have one:∀ {p:Addr} {H2:Hp},Jf H H2→H2 p=none→R [some (.int c),some (.int kd),some (.int n),some (.ref pm),some (.ref p)] (upd H2 p (.lst [.int ((n:Int) - 1)])):=fun {p H2} e2 np =>
   ⟨p,[(n:Int) - 1],fresh e2 np,e2.trans (Jf.upd np),Jh,by simp,fun g hg=>by rw [List.mem_singleton.mp hg]; omega,rfl⟩
  refine ⟨R,?_,?_⟩
  ·refine ⟨_,rfl,(n:Int),rfl,by omega,by omega,fun D hD=>?_⟩;rw [show ((n:Int)).toNat=n from Int.toNat_natCast n];refine JkS (n:=n) (fun i ys H2=>Jf H1 H2∧H2 D=some (.lst ys)∧∃ gs:List Int,ys=gs.map V.int∧gs.length≤i∧gs.Nodup∧∀ g∈gs,0≤g∧g < i) rfl ⟨Jf.upd hD,Jh,[],rfl,Nat.le_refl _,List.nodup_nil,fun g hg=>nomatch hg⟩ (fun i ys H2 p=>p.2.1) ?_ ?_
   ·rintro i ys H2 hi ⟨e2,hy,gs,rfl,hgl,hgn,hgr⟩;obtain ⟨x,a1,_⟩:=JcA (xs:=ms) (e:=0 + (i:Int)) (by omega) (by omega);refine ⟨_,rfl,_,rfl,pm,_,_,.int x,rfl,rfl,e2.seq hm,a1,rfl,_,rfl,YE (fun _=>?_) (fun _=>?_)⟩
    ·refine ⟨_,rfl,hy,by rw [List.length_map]; omega,fun b u e=>?_,Jh,gs ++ [0 + (i:Int)],by rw [List.map_append]; rfl,by simp; omega,?_,fun g hg=>?_⟩
     ·rw [Jq (JB e hD)]; exact e2 b u e
     ·rw [List.nodup_append];refine ⟨hgn,by simp,fun x hx y hy e=>?_⟩;rw [List.mem_singleton] at hy;have:=hgr x hx;omega
     ·rcases List.mem_append.mp hg with w | w
      ·have:=hgr g w; omega
      ·rw [List.mem_singleton.mp w]; omega
    ·exact ⟨e2,hy,gs,rfl,by omega,hgn,fun g hg=>by have:=hgr g hg; omega⟩
   ·rintro ys H2 ⟨e2,hy,gs,rfl,_,hgn,hgr⟩;exact ⟨D,gs,fresh e1 hD,e1.trans e2,hy,hgn,hgr,rfl⟩
  rintro σ1 H2 ⟨p2,gs2,np2,e2,hp2,nd2,rg2,rfl⟩;refine ⟨R,?_,?_⟩
  ·refine ⟨_,rfl,_,_,rfl,rfl,_,rfl,YE (fun _=>?_) (fun _=>Zk ⟨p2,gs2,np2,e2,hp2,nd2,rg2,rfl⟩)⟩;refine ⟨_,rfl,_,_,rfl,rfl,(by show (0:Int) < 3; decide),rfl,_,rfl,YE (fun _=>?_) (fun _=>⟨p2,gs2,np2,e2,hp2,nd2,rg2,rfl⟩)⟩;exact ⟨_,rfl,_,_,rfl,rfl,by show 1≤sizeLine; omega,fun p np=>one e2 np⟩
  clear rg2 nd2 hp2 e2 np2 gs2 p2 H2;rintro σ1 H2 ⟨p2,gs2,np2,e2,hp2,nd2,rg2,rfl⟩;refine ⟨R,?_,?_⟩
  ·refine ⟨_,rfl,_,_,rfl,rfl,(by show (0:Int) < 3; decide),rfl,_,rfl,YE (fun _=>?_) (fun _=>Zk ⟨p2,gs2,np2,e2,hp2,nd2,rg2,rfl⟩)⟩;refine ⟨_,rfl,by show 0≤sizeLine; omega,fun l nl=>⟨p2,l,_,rfl,rfl,(Jf.upd nl).seq (Js.of hp2),Js.of Jh,_,rfl,YE (fun _=>?_) (fun _=>?_)⟩⟩
   ·exact ⟨_,rfl,_,_,rfl,rfl,by show 1≤sizeLine; omega,fun p np=>one (e2.trans (Jf.upd nl)) np⟩
   ·exact ⟨p2,gs2,np2,e2.trans (Jf.upd nl),(Jf.upd nl) _ _ hp2,nd2,rg2,rfl⟩
  clear rg2 nd2 hp2 e2 np2 gs2 p2 H2;rintro σ1 H2 ⟨p2,gs2,np2,e2,hp2,nd2,rg2,rfl⟩;exact ⟨_,rfl,q p2 gs2 H2 np2 e2 hp2 nd2 rg2⟩
theorem Jhv {K:PySem.W.Frag} {H:Hp} {D:Addr} {ys ys':List V} {zs:List (V×(Str×Str))} (h:YV K H zs) (hD:H D=some (.lst ys)):YV K (upd H D (.lst ys')) zs:=fun z hz=>by
 obtain ⟨a,h1,h2⟩:=h z hz;refine ⟨a,h1,?_⟩;rcases h2 with (q | ⟨o,q⟩) | q
 ·exact .inl (.inl (by rw [Jq (Jad q hD (fun z=>nomatch z))]; exact q))
 ·exact .inl (.inr ⟨o,by rw [Jq (Jad q hD (fun z=>nomatch z))]; exact q⟩)
 ·exact .inr q
theorem Jna (T:Txt K mg):JN P w K mg base YO 3 T.Jg9 T.JfD ["_law_script", "_law_at_here"] (Jlf K):=by
 refine T.Jhi.F.ok Ja2 (fun vs H Q E h=>?_) (fun cdv A outer s H1 vs Q E hr h=>?_)
 ·obtain ⟨_,_,_,rfl,_⟩:=h;rfl
 ·obtain ⟨a,ns,k,rfl,hS,h0,q⟩:=h;have szl:sizeLine=16777216:=sizeLine_eq;refine ⟨_,(@Jd _ _ _ _ _ (@J7 _ _ _ (@Jr _ _ 2 _ _ _ _ Ja2.nd rfl (Or.inl rfl) (@JA _ _ _ _ _ _ _ (@J4 _) (@Yj _ _ _ _ (@Ja _ _ _ _ _ (@Jc _ _ _ _) (@Ja _ _ _ _ _ (@Jc _ _ _ _) (@Ja _ _ _ _ _ (@Jc _ _ _ _) (@Ja _ _ _ _ _ (@Jc _ _ _ _) (@Ja _ _ _ _ _ (@Jc _ _ _ _) (@Ja _ _ _ _ _ (@Jc _ _ _ _) (@Ja _ _ _ _ _ (@Jc _ _ _ _) (@Jb _) rfl) rfl) rfl) rfl) rfl) rfl) rfl)) (@Jl _ _ _ _ _ _ _ _ (@JZ _) (@Jn _ _ _ _ _ _ _ _ _ _ _ _ _ _ _ T.Jcs (JbS T) (hr.mono (by decide)) JE (@Ja _ _ _ _ _ (@pv _ 0 _ _ rfl (.inl rfl) rfl rfl) (@Ja _ _ _ _ _ (@Jl _ _ _ _ _ _ _ _ (@JP _) (@pv _ 1 _ _ rfl (.inl rfl) rfl rfl) (@Jc _ _ _ _)) (@Jb _) rfl) rfl) rfl (by decide) rfl rfl) (@Jc _ _ _ _)) (fun _ _=>rfl)) rfl (.inl rfl))) (@Jd _ _ _ _ _ (@J7 _ _ _ (@Jr _ _ 3 _ _ _ _ Ja2.nd rfl (Or.inr rfl) (@Jn _ _ _ _ _ _ _ _ _ _ _ _ _ _ _ T.Jhk (Jnc T) (hr.mono (by decide)) JE (@Ja _ _ _ _ _ (@Jn _ _ _ _ _ _ _ _ _ _ _ _ _ _ _ T.Jcs (JbS T) (hr.mono (by decide)) JE (@Ja _ _ _ _ _ (@pv _ 0 _ _ rfl (.inl rfl) rfl rfl) (@Ja _ _ _ _ _ (@Jl _ _ _ _ _ _ _ _ (@JP _) (@pv _ 1 _ _ rfl (.inl rfl) rfl rfl) (@Jc _ _ _ _)) (@Jb _) rfl) rfl) rfl (by decide) rfl rfl) (@Ja _ _ _ _ _ (@pv _ 2 _ _ rfl (.inl rfl) rfl rfl) (@Jb _) rfl) rfl) rfl (by decide) rfl rfl) rfl (by first | exact .inl rfl | exact .inr rfl | assumption))) (@Jd _ _ _ _ _ (@J7 _ _ _ (@Jr _ _ 4 _ _ _ _ Ja2.nd rfl (Or.inl rfl) (@Jn _ _ _ _ _ _ _ _ _ _ _ _ _ _ _ T.Jcs (JbS T) (hr.mono (by decide)) JE (@Ja _ _ _ _ _ (@pv _ 0 _ _ rfl (.inl rfl) rfl rfl) (@Ja _ _ _ _ _ (@pv _ 1 _ _ rfl (.inl rfl) rfl rfl) (@Jb _) rfl) rfl) rfl (by decide) rfl rfl) rfl (.inl rfl))) (@Jd _ _ _ _ _ (@J7 _ _ _ (@Jr _ _ 5 _ _ _ _ Ja2.nd rfl (Or.inl rfl) (@Jn _ _ _ _ _ _ _ _ _ _ _ _ _ _ _ T.Jhj (Jnb T) (hr.mono (by decide)) JE (@Ja _ _ _ _ _ (@pv _ 4 _ _ rfl (.inl rfl) rfl rfl) (@Ja _ _ _ _ _ (@Jn _ _ _ _ _ _ _ _ _ _ _ _ _ _ _ T.Jcs (JbS T) (hr.mono (by decide)) JE (@Ja _ _ _ _ _ (@pv _ 0 _ _ rfl (.inl rfl) rfl rfl) (@Ja _ _ _ _ _ (@Jl _ _ _ _ _ _ _ _ (@JP _) (@pv _ 1 _ _ rfl (.inl rfl) rfl rfl) (@Jc _ _ _ _)) (@Jb _) rfl) rfl) rfl (by decide) rfl rfl) (@Ja _ _ _ _ _ (@pv _ 2 _ _ rfl (.inl rfl) rfl rfl) (@Jb _) rfl) rfl) rfl) rfl (by decide) rfl rfl) rfl (.inl rfl))) (@Jd _ _ _ _ _ (@J7 _ _ _ (@Jr _ _ 6 _ _ _ _ Ja2.nd rfl (Or.inl rfl) (@Jn _ _ _ _ _ _ _ _ _ _ _ _ _ _ _ T.Jhl (Jnd T) (hr.mono (by decide)) JE (@Ja _ _ _ _ _ (@Jn _ _ _ _ _ _ _ _ _ _ _ _ _ _ _ T.Jcs (JbS T) (hr.mono (by decide)) JE (@Ja _ _ _ _ _ (@pv _ 0 _ _ rfl (.inl rfl) rfl rfl) (@Ja _ _ _ _ _ (@Jl _ _ _ _ _ _ _ _ (@JP _) (@pv _ 1 _ _ rfl (.inl rfl) rfl rfl) (@Jc _ _ _ _)) (@Jb _) rfl) rfl) rfl (by decide) rfl rfl) (@Ja _ _ _ _ _ (@Jl _ _ _ _ _ _ _ _ (@JZ _) (@pv _ 4 _ _ rfl (.inl rfl) rfl rfl) (@Jc _ _ _ _)) (@Ja _ _ _ _ _ (@pv _ 2 _ _ rfl (.inl rfl) rfl rfl) (@Jb _) rfl) rfl) rfl) rfl (by decide) rfl rfl) rfl (.inl rfl))) (@Jd _ _ _ _ _ (@J7 _ _ _ (@JnM _ _ _ _ _ _ _ _ _ _ 7 2 ["_law_a", "_law_b", "_law_names_here"] [3] _ _ _ _ ["_law_script", "_law_at_here", "_law_size", "_law_names_here", "_law_kind", "_law_pairs_here", "_law_goals_here", "_law_lanes"] ((Jo Jdy).names) (by decide +kernel) Ja2.nd rfl (@Zt _ _ _ _ (@pv _ 5 _ _ rfl (.inl rfl) rfl rfl)) (fun _ _ _ _=>(show PG _ _ (JkI K 2 _) from Jgb rfl (@Y5 _ _ _ _ _ (@ZV _ _ _ _ _ _ _ _ _ 0 (by decide +kernel) rfl rfl) (@Y5 _ _ _ _ _ (@ZV _ _ _ _ _ _ _ _ _ 1 (by decide +kernel) rfl rfl) (@Je0 _) rfl) rfl))) (fun _ _ _ _=>(@Jbv _)) (fun _ _ _ _=>(@YG _ _ _ _ _ (@Ja _ _ _ _ _ (@JA _ _ _ _ _ _ _ (show IxR _ (JiF K) from (@J4 _)) (@ZW _ _ _ _ _ _ _ _ _ 2 rfl rfl (by decide) (by decide)) (@ZA _ _ _ _ _ _ _ _ _ 0 rfl rfl (by decide) (by decide)) (fun _ _=>rfl)) (@Ja _ _ _ _ _ (@JA _ _ _ _ _ _ _ (show IxR _ (JiF K) from (@J4 _)) (@ZW _ _ _ _ _ _ _ _ _ 2 rfl rfl (by decide) (by decide)) (@ZA _ _ _ _ _ _ _ _ _ 1 rfl rfl (by decide) (by decide)) (fun _ _=>rfl)) (@Jb _) rfl) rfl))) rfl rfl rfl rfl rfl (by intro _; rfl))) (@Jg _ _ _ (@Jt _ _ _ _ (@YG _ _ _ _ _ (@Ja _ _ _ _ _ (@pv _ 3 _ _ rfl (.inr (.inl rfl)) rfl rfl) (@Ja _ _ _ _ _ (@pv _ 7 _ _ rfl (.inl rfl) rfl rfl) (@Ja _ _ _ _ _ (@Jda _ _ _ _ _ _ _ 1 ["_law_k", "_law_names_here"] [3] _ _ _ _ ["_law_script", "_law_at_here", "_law_size", "_law_names_here", "_law_kind", "_law_pairs_here", "_law_goals_here", "_law_lanes"] ((Jo Jdy).names) (by decide +kernel) (@Zt _ _ _ _ (@pv _ 6 _ _ rfl (.inl rfl) rfl rfl)) (fun _ _ _ _=>(@ZV _ _ _ _ _ _ _ _ _ 0 (by decide +kernel) rfl rfl)) (fun _ _ _ _=>(@Jbv _)) (fun _ _ _ _=>(@JA _ _ _ _ _ _ _ (show IxR _ (JiF K) from (@J4 _)) (@ZW _ _ _ _ _ _ _ _ _ 1 rfl rfl (by decide) (by decide)) (@ZA _ _ _ _ _ _ _ _ _ 0 rfl rfl (by decide) (by decide)) (fun _ _=>rfl))) rfl rfl rfl (by intro _; rfl)) (@Jb _) rfl) rfl) rfl)))))))))),?_⟩
  try dsimp only [cxK,Jdo]
  refine ⟨fun σ1 H2=>∃ n:Nat,Jf H1 H2∧1≤n∧n≤12∧σ1=[some (.ref a),some (.int k),some (.int n),none,none,none,none,none],?_,?_⟩
  ·refine ⟨by show 7≤sizeLine; omega,fun l nl=>?_⟩;obtain ⟨n,hn,h1,h2⟩:∃ n:Nat,atI [V.int 4,V.int 5,V.int 3,V.int 4,V.int 5,V.int 2,V.int 1] (ZF ns (k + 1) % 7)=some (.int n)∧1≤n∧n≤12:=by
    have h:ZF ns (k + 1) % 7=0∨ZF ns (k + 1) % 7=1∨ZF ns (k + 1) % 7=2∨ZF ns (k + 1) % 7=3∨ZF ns (k + 1) % 7=4∨ZF ns (k + 1) % 7=5∨ZF ns (k + 1) % 7=6:=by omega
    rcases h with h | h | h | h | h | h | h <;> rw [h]
    ·exact ⟨4,rfl,by decide,by decide⟩
    ·exact ⟨5,rfl,by decide,by decide⟩
    ·exact ⟨3,rfl,by decide,by decide⟩
    ·exact ⟨4,rfl,by decide,by decide⟩
    ·exact ⟨5,rfl,by decide,by decide⟩
    ·exact ⟨2,rfl,by decide,by decide⟩
    ·exact ⟨1,rfl,by decide,by decide⟩
   exact ⟨_,rfl,_,rfl,_,_,rfl,rfl,a,ns,_,rfl,(Jf.upd nl).seq hS,by omega,_,_,rfl,rfl,(by show (0:Int) < 7; decide),l,_,_,.int n,rfl,rfl,Js.of Jh,hn,n,Jf.upd nl,h1,h2,rfl⟩
  rintro σ1 H2 ⟨n,e2,hn1,hn2,rfl⟩;refine ⟨fun σ1 H4=>∃ (pn:Addr) (ps:List Str),Jf H1 H4∧H4 pn=some (.lst (ps.map V.str))∧ps.length=n∧(∀ s∈ps,Zp s=true)∧ps.Nodup∧σ1=[some (.ref a),some (.int k),some (.int n),some (.ref pn),none,none,none,none],
   ⟨_,rfl,_,rfl,_,_,rfl,rfl,a,ns,_,rfl,e2.seq hS,by omega,_,rfl,_,n,rfl,hn1,hn2,fun pn ps H4 h1 e4 h2 h3 h4 h5=>⟨pn,ps,e2.trans e4,h2,h3,h4,h5,rfl⟩⟩,?_⟩
  rintro σ1 H4 ⟨pn,ps,e4,hpn,hpl,hpg,hpd,rfl⟩;refine ⟨fun σ1 H5=>∃ kd:Int,H5=H4∧σ1=[some (.ref a),some (.int k),some (.int n),some (.ref pn),some (.int kd),none,none,none],
   ⟨_,rfl,_,rfl,a,ns,_,rfl,e4.seq hS,h0,_,rfl,rfl⟩,?_⟩
  rintro σ1 H5 ⟨kd,rfl,rfl⟩;refine ⟨fun σ1 H6=>∃ (pp:Addr) (zs:List (V×(Int×Int))),PW K H5 pp n H6 zs∧zs.length≤40∧σ1=[some (.ref a),some (.int k),some (.int n),some (.ref pn),some (.int kd),some (.ref pp),none,none],
   ⟨_,rfl,_,rfl,_,rfl,_,_,rfl,rfl,a,ns,_,rfl,e4.seq hS,by omega,_,rfl,kd,_,n,rfl,hn1,hn2,fun pp zs H6 h1 W hl=>⟨pp,zs,W,hl,rfl⟩⟩,?_⟩
  rintro σ1 H6 ⟨pp,zs,W,hzl,rfl⟩;have e6:=e4.trans W.sm;refine ⟨fun σ1 H7=>∃ (pg:Addr) (gs:List Int),Jf H6 H7∧H7 pg=some (.lst (gs.map V.int))∧gs.Nodup∧(∀ g∈gs,0≤g∧g < n)∧σ1=[some (.ref a),some (.int k),some (.int n),some (.ref pn),some (.int kd),some (.ref pp),some (.ref pg),none],
   ⟨_,rfl,_,rfl,_,_,rfl,rfl,a,ns,_,rfl,e6.seq hS,by omega,_,rfl,_,_,rfl,rfl,(by show (0:Int) < 4; decide),_,rfl,_,_,n,rfl,hn1,hn2,fun pg gs H7 h1 e7 h2 h3 h4=>⟨pg,gs,e7,h2,h3,h4,rfl⟩⟩,?_⟩
  rintro σ1 H7 ⟨pg,gs,e7,hpgs,hgd,hgr,rfl⟩;have e17:=e6.trans e7;have hpn7:=e7 _ _ (W.sm _ _ hpn);have hpp7:=e7 _ _ W.at_;refine ⟨fun σ1 H8=>∃ (pl:Addr) (ls:List (V×(Str×Str))),Jf H7 H8∧H8 pl=some (.lst (ls.map (·.1)))∧YV K H8 ls∧ls.map (·.2)=(zs.map (·.2)).map (nm2 ps)∧σ1=[some (.ref a),some (.int k),some (.int n),some (.ref pn),some (.int kd),some (.ref pp),some (.ref pg),some (.ref pl)],?_,?_⟩
  ·refine ⟨_,rfl,pp,rfl,⟨_,Js.of hpp7⟩,fun D hD=>?_⟩;refine Jgr (xs:=zs.map (·.1)) (fun i ys H8=>Jf H7 H8∧H8 D=some (.lst ys)∧∃ ls:List (V×(Str×Str)),ys=ls.map (·.1)∧YV K H8 ls∧ls.map (·.2)=((zs.take i).map (·.2)).map (nm2 ps)) rfl rfl (fun i ys H8 p=>Js.of (p.1 _ _ hpp7)) ⟨Jf.upd hD,Jh,[],rfl,(fun z hz=>nomatch hz),rfl⟩ (fun i ys H8 p=>p.2.1) ?_ ?_
   ·rintro i x ys H8 hx ⟨e8,hy,ls,rfl,hP,hls⟩;rw [List.getElem?_map] at hx;obtain ⟨z,hz,rfl⟩:=Option.map_eq_some_iff.mp hx;obtain ⟨b,eb,hb⟩:=W.ip z (List.mem_of_getElem? hz);obtain ⟨r1,r2⟩:=W.rg z (List.mem_of_getElem? hz);refine ⟨b,.int z.2.1,.int z.2.2,eb,(e7.trans e8).tup hb,?_⟩;simp only [JcF,if_true];have hll:ls.length≤40:=by
     have z:=congrArg List.length hls;rw [List.length_map,List.length_map,List.length_map,List.length_take] at z;omega
    refine ⟨_,rfl,_,rfl,pn,_,_,_,rfl,rfl,Js.of (e8 _ _ hpn7),Jh8 r1.1 (by omega),_,rfl,_,rfl,pn,_,_,_,rfl,rfl,Js.of (e8 _ _ hpn7),Jh8 r2.1 (by omega),by show 2≤sizeLine; omega,fun t nt=>?_⟩;have e9:=Jf.upd (o:=.tup [.str (nm ps z.2.1),.str (nm ps z.2.2)]) nt;refine ⟨e9 _ _ hy,by rw [List.length_map]; omega,fun b u e=>?_,Jh,ls ++ [(.ref t,nm2 ps z.2)],by rw [List.map_append]; rfl,fun z' hz'=>?_,?_⟩
    ·rw [Jq (JB e hD)]; exact e9 _ _ (e8 b u e)
    ·rcases List.mem_append.mp hz' with q | q
     ·exact Jhv (ZR hP e9) (e9 _ _ hy) z' q
     ·rw [List.mem_singleton.mp q];exact Jhv (zs:=[(.ref t,nm2 ps z.2)]) (fun z' hz'=>by rw [List.mem_singleton.mp hz']; exact ⟨t,rfl,JK.of Jh⟩) (e9 _ _ hy) _ (List.mem_singleton.mpr rfl)
    ·rw [List.map_append,hls,List.take_succ,hz,List.map_append,List.map_append]; rfl
   ·rintro ys H8 ⟨e8,hy,ls,rfl,hP,hls⟩;rw [List.length_map,List.take_length] at hls;exact ⟨D,ls,e8,hy,hP,hls,rfl⟩
  rintro σ1 H8 ⟨pl,ls,e8,hll,hP,hls,rfl⟩;refine ⟨_,rfl,_,rfl,_,rfl,pg,rfl,⟨_,Js.of (e8 _ _ hpgs)⟩,fun D hD=>?_⟩;refine JhL (xs:=gs.map V.int) (fun i v=>∃ g,gs[i]?=some g∧v=.str (nm ps g)) rfl (Js.of (e8 _ _ hpgs)) hD ?_ (fun i x H9 hx e9 Q' hQ=>?_) (fun ys H9 e9 hy hyl hF=>?_)
  ·rw [List.length_map];have:gs.length≤n:=by
    have z:=Jem (r:=(List.range n).map fun (i:Nat)=>(i:Int)) hgd fun x hx=>by
     have:=hgr x hx;exact List.mem_map.mpr ⟨x.toNat,List.mem_range.mpr (by omega),by omega⟩
    simpa using z
   omega
  ·rw [List.getElem?_map] at hx;obtain ⟨g,hg,rfl⟩:=Option.map_eq_some_iff.mp hx;have:=hgr g (List.mem_of_getElem? hg);exact ⟨_,rfl,_,rfl,pn,_,_,_,rfl,rfl,Js.of (e9 _ _ (e8 _ _ hpn7)),Jh8 this.1 (by omega),hQ _ ⟨g,hg,rfl⟩⟩
  ·have eys:ys=(gs.map (nm ps)).map V.str:=by
    apply List.ext_getElem?;intro i;by_cases hi:i < ys.length
    ·obtain ⟨g,h1,h2⟩:=hF i _ (List.getElem?_eq_getElem hi);rw [List.getElem?_eq_getElem hi,h2,List.getElem?_map,List.getElem?_map,h1];rfl
    ·rw [List.getElem?_eq_none (by omega),List.getElem?_eq_none];rw [List.length_map] at hyl;rw [List.length_map,List.length_map];omega
   subst eys;refine ⟨by show 3≤sizeLine; omega,fun t nt=>q t ps ls (gs.map (nm ps)) _ ((e17.trans e8).trans (e9.trans (Jf.upd nt))) ⟨⟨by omega,by omega,hpg,hpd,?_,?_,?_,?_,?_⟩,pn,pl,D,Jh,?_,?_,?_,?_⟩⟩
   ·rw [hls,List.length_map,List.length_map]; exact hzl
   ·intro z hz;rw [hls] at hz;obtain ⟨y,hy1,rfl⟩:=List.mem_map.mp hz;obtain ⟨z',hz',rfl⟩:=List.mem_map.mp hy1;obtain ⟨r1,r2⟩:=W.rg z' hz';exact ⟨Jgj r1.1 (by omega),Jgj r2.1 (by omega)⟩
   ·rw [hls];refine JhC W.nd fun x hx y hy e=>?_
    obtain ⟨z',hz',rfl⟩:=List.mem_map.mp hx;obtain ⟨z2,hz2,rfl⟩:=List.mem_map.mp hy;obtain ⟨r1,r2⟩:=W.rg z' hz';obtain ⟨r3,r4⟩:=W.rg z2 hz2;have e1:=congrArg Prod.fst e;have e2:=congrArg Prod.snd e;exact Prod.ext (JiW hpd r1.1 (by omega) r3.1 (by omega) e1) (JiW hpd r2.1 (by omega) r4.1 (by omega) e2)
   ·intro g hg;obtain ⟨x,hx,rfl⟩:=List.mem_map.mp hg;have:=hgr x hx;exact Jgj this.1 (by omega)
   ·refine JhC hgd fun x hx y hy e=>?_
    have h1:=hgr x hx;have h2:=hgr y hy;exact JiW hpd h1.1 (by omega) h2.1 (by omega) e
   ·exact (e9.trans (Jf.upd nt)) _ _ (e8 _ _ hpn7)
   ·exact (e9.trans (Jf.upd nt)) _ _ hll
   ·exact ZR hP (e9.trans (Jf.upd nt))
   ·exact (Jf.upd nt) _ _ hy
end
def Z7 (z:Str) (n:Int) (zs:List (Str×Str)) (gs:List Str):V:=if z∈gs then .str "north" else if n=0∨Jm zs z=[] then .str "south" else .non
def Jn7 (k:Addr):Sp:=fun vs H Q E=>∃ n m:Int,vs=[.int n,.int m]∧(0≤m∧m≤30)∧(0≤n∧n≤m→Q .non H)∧(¬ (0≤n∧n≤m)→E (.ref k) none H)
def JmI (K:PySem.W.Frag) (C k1 k2:Addr):Sp:=fun vs H Q E=>∃ (b:Addr) (z:Str) (n:Int) (ps:List Str) (zs:List (V×(Str×Str))) (gs:List Str),vs=[.ref b,.str z,.int n]∧YX z∧zs.length≤40∧JaL K C H b ps zs gs ∧
 (z∉ps→E (.ref k1) none H)∧(z∈ps→¬ (0≤n∧n≤30)→E (.ref k2) none H)∧(z∈ps→0≤n∧n≤30→∀ H',Jf H H'→Q (Z7 z n (zs.map (·.2)) gs) H')
def Jbx (n s:Int) (r:Bool) (b a:Int):List V :=
 if b > a then (if r then [.str (hs false),.int (n + b),.int (s - b),.str (hs true)] else [.str (hs true),.int (n - b),.int (s + b),.str (hs false)])
 else if a > b then (if r then [.str (hs true),.int (n - a),.int (s + a),.str (hs true)] else [.str (hs false),.int (n + a),.int (s - a),.str (hs false)])
 else (if r then [.str (hs true),.int (n - a),.int (s + a),.str (hs false)] else [.str (hs false),.int (n + a),.int (s - a),.str (hs true)])
def Jjv:Sp:=fun vs H Q _=>∃ (b:Bool) (n s:Int),vs=[.str (hs b),.int n,.int s]∧Q (.int (if b then n else s)) H
def JiM (b:Bool) (c n s:Int) (r:Bool):List V:=if b then [.str (hs b),.int (n - c),.int (s + c),.str (hs r)] else [.str (hs b),.int (n + c),.int (s - c),.str (hs r)]
def JoZ:Sp:=fun vs H Q _=>∃ (b:Bool) (c n s:Int) (r:Bool),vs=[.str (hs b),.int c,.int n,.int s,.str (hs r)]∧∀ p H',Jf H H'→H' p=some (.tup (JiM b c n s r))→Q (.ref p) H'
theorem Jfz (n s:Int) (r:Bool) (b a:Int):Jbx n s r b a=if b > a then JiM (!r) b n s r else if a > b then JiM r a n s r else JiM r a n s (!r):=by
 unfold Jbx JiM;cases r <;> rfl
def JaI (n s:Int):Prop:=0≤n∧0≤s∧n + s≤20
instance (n s:Int):Decidable (JaI n s):=by unfold JaI; exact inferInstance
def JeJ (n s:Int) (r:Bool) (b a:Int):Prop:=(0≤b∧b≤(if r then s else n))∧(0≤a∧a≤(if r then n else s))
instance (n s:Int) (r:Bool) (b a:Int):Decidable (JeJ n s r b a):=by unfold JeJ; exact inferInstance
def Jh0 (k:Addr):Sp:=fun vs H Q E=>∃ z:Str,vs=[.str z]∧YX z∧(ZZ z=true→Q .non H)∧(ZZ z=false→E (.ref k) none H)
def JmD (k:Addr):Sp:=fun vs H Q E=>∃ z:Str,vs=[.str z]∧YX z∧(∀ b,z=hs b→Q (.str (hs (!b))) H)∧(ZZ z=false→E (.ref k) none H)
def JgJ (k:Addr):Sp:=fun vs H Q E=>∃ n s:Int,vs=[.int n,.int s]∧(JaI n s→Q .non H)∧(¬ JaI n s→E (.ref k) none H)
def Jip (k:Addr):Sp:=fun vs H Q E=>∃ n s:Int,vs=[.int n,.int s]∧(0≤n∧n≤s→Q .non H)∧(¬ (0≤n∧n≤s)→E (.ref k) none H)
def Jld (k1 k2 k3:Addr):Sp:=fun vs H Q E=>∃ (n s:Int) (z:Str) (b a:Int),vs=[.int n,.int s,.str z,.int b,.int a]∧YX z∧(¬ JaI n s→E (.ref k1) none H)∧(JaI n s→ZZ z=false→E (.ref k2) none H) ∧
 (∀ r,z=hs r→JaI n s→¬ JeJ n s r b a→E (.ref k3) none H)∧(∀ r,z=hs r→JaI n s→JeJ n s r b a→∀ p H',Jf H H'→H' p=some (.tup (Jbx n s r b a))→Q (.ref p) H')
theorem tcT {σ:St} {H:Hp} {F G:Hp→Prop} (h:F H):JcF σ H (fun b H3=>if b=true then F H3 else G H3):=by
 show if true=true then F H else G H;rw [if_pos rfl];exact h
abbrev JU (zs:List (Str×Str)) (gs:List Str) (c:Int) (t:Nat) (p:Str) (r:Bool):Int:=J5 (Jm zs) (fun p=>decide (p∈gs)) c t p r
abbrev loB (zs:List (Str×Str)) (gs:List Str) (c:Int) (t:Nat) (p:Str) (r:Bool):Int:=Zj (Jm zs) (fun p=>decide (p∈gs)) c t p r
abbrev hiC (zs:List (Str×Str)) (gs:List Str) (c:Int) (t:Nat) (p:Str) (r:Bool):Int:=Zl (Jm zs) (fun p=>decide (p∈gs)) c t p r
theorem Jds {ps:List Str} {zs:List (Str×Str)} {gs:List Str} (G:Jc5 ps zs gs) {p w:Str} (h:w∈Jm zs p):w∈ps:=by
 unfold Jm at h;obtain ⟨z,hz,rfl⟩:=List.mem_map.mp h;exact (G.l2 z (List.mem_filter.mp hz).1).2
theorem Jd8 {ps:List Str} {zs:List (Str×Str)} {gs:List Str} (G:Jc5 ps zs gs) (p:Str):(Jm zs p).length≤40:=by
 unfold Jm;rw [List.length_map];exact Nat.le_trans (List.length_filter_le _ _) G.l1
theorem Jc5.perm {ps ps':List Str} {zs zs':List (Str×Str)} {gs gs':List Str} (G:Jc5 ps zs gs) (p:ps'.Perm ps) (z:zs'.Perm zs) (g:gs'.Perm gs):Jc5 ps' zs' gs' :=
 ⟨by rw [p.length_eq]; exact G.p1,by rw [p.length_eq]; exact G.p2,fun x h=>G.p3 x (p.mem_iff.mp h),p.nodup_iff.mpr G.p4,by rw [z.length_eq]; exact G.l1,
  fun x h=>let q:=G.l2 x (z.mem_iff.mp h); ⟨p.mem_iff.mpr q.1,p.mem_iff.mpr q.2⟩,z.nodup_iff.mpr G.l3,fun x h=>p.mem_iff.mpr (G.g1 x (g.mem_iff.mp h)),g.nodup_iff.mpr G.g2⟩
structure Bd (K:PySem.W.Frag) (C:Addr) (H:Hp) (b:Addr) (ps:List Str) (zs:List (V×(Str×Str))) (gs:List Str):Prop where
 B:JaL K C H b ps zs gs
 G:Jc5 ps (zs.map (·.2)) gs
theorem Bd.same {K:PySem.W.Frag} {C:Addr} {H H':Hp} {b:Addr} {ps:List Str} {zs:List (V×(Str×Str))} {gs:List Str} (h:Bd K C H b ps zs gs) (e:Jf H H'):Bd K C H' b ps zs gs:=⟨h.B.same e,h.G⟩
theorem Bd.zl {K:PySem.W.Frag} {C:Addr} {H:Hp} {b:Addr} {ps:List Str} {zs:List (V×(Str×Str))} {gs:List Str} (h:Bd K C H b ps zs gs):zs.length≤40:=by have:=h.G.l1; rwa [List.length_map] at this
theorem Zo.bd {K:PySem.W.Frag} {C C' dx:Addr} {H H':Hp} {b k:Addr} {ps:List Str} {zs:List (V×(Str×Str))} {gs:List Str} {fs:List (Str×V)} (h:Bd K C H b ps zs gs) (e:Zo k H H') (hk:H k=some (.ins C' dx fs)) (hn:k≠b):Bd K C H' b ps zs gs:=by
 obtain ⟨⟨d,tp,tl,tg,h1,h2,h3,h4,h5⟩,G⟩:=h;exact ⟨⟨d,tp,tl,tg,e _ _ (fun z=>hn z.symm) h1,e _ _ (Jad h2 hk (fun z=>nomatch z)) h2,e _ _ (Jad h3 hk (fun z=>nomatch z)) h3,fun z hz=>let ⟨a,q1,q2⟩:=h4 z hz; ⟨a,q1,e.tup hk q2⟩,e _ _ (Jad h5 hk (fun z=>nomatch z)) h5⟩,G⟩
def Z8 (p:Str) (r:Bool):List JI:=[.inr p,.inr (hs r)]
theorem Yx {a b:Bool} (h:hs a=hs b):a=b:=by cases a <;> cases b <;> first | rfl | (exact absurd h (by decide +kernel))
theorem Jjj {p q:Str} {r s:Bool} (h:Z8 p r=Z8 q s):p=q∧r=s:=by
 unfold Z8 at h;simp only [List.cons.injEq,Sum.inr.injEq,and_true] at h;exact ⟨h.1,Yx h.2⟩
def Jdg (H:Hp) (a:Addr) (ps:List Str) (f:Str→Bool→Int):Prop:=∃ kvs:List (List JI×V),H a=some (.dT kvs)∧∀ p∈ps,∀ r,YD kvs (Z8 p r)=some (.int (f p r))
theorem Jdg.same {H H':Hp} {a:Addr} {ps:List Str} {f:Str→Bool→Int} (h:Jdg H a ps f) (e:Jf H H'):Jdg H' a ps f:=let ⟨kvs,h1,h2⟩:=h; ⟨kvs,e _ _ h1,h2⟩
structure Bk (K:PySem.W.Frag) (C CB:Addr) (H:Hp) (k b:Addr) (ps:List Str) (zs:List (V×(Str×Str))) (gs:List Str) (c:Int) (t n:Nat):Prop where
 B:Bd K C H b ps zs gs
 c0:0≤c
 c1:c≤20
 t1:t≤30
 at_:∃ (dx l:Addr) (rs:List Addr),H k=some (.ins CB dx [("board",.ref b),("coins",.int c),("turns",.int t),("needs",.ref l)])∧H l=some (.lst (rs.map V.ref))∧rs.length=n∧∀ (i:Nat) a,rs[i]?=some a→Jdg H a ps (JU (zs.map (·.2)) gs c i)
theorem Bk.same {K:PySem.W.Frag} {C CB:Addr} {H H':Hp} {k b:Addr} {ps:List Str} {zs:List (V×(Str×Str))} {gs:List Str} {c:Int} {t n:Nat} (h:Bk K C CB H k b ps zs gs c t n) (e:Jf H H'):Bk K C CB H' k b ps zs gs c t n :=
 ⟨h.B.same e,h.c0,h.c1,h.t1,let ⟨dx,l,rs,h1,h2,h3,h4⟩:=h.at_; ⟨dx,l,rs,e _ _ h1,e _ _ h2,h3,fun i a q=>(h4 i a q).same e⟩⟩
section
variable (K:PySem.W.Frag) (C CB:Addr)
def Jo1:Sp:=fun vs H Q _=>∃ (k b:Addr) (z:Str) (m:Nat) (ps:List Str) (zs:List (V×(Str×Str))) (gs:List Str) (c:Int) (t n:Nat),vs=[.ref k,.str z,.int ((m:Int) + 1)]∧Bk K C CB H k b ps zs gs c t n∧m < n∧z∈ps∧Jm (zs.map (·.2)) z≠[] ∧
 ∀ H',Jf H H'→Q (.int (loB (zs.map (·.2)) gs c m z false)) H'
def Jo0:Sp:=fun vs H Q _=>∃ (k b:Addr) (z:Str) (m:Nat) (ps:List Str) (zs:List (V×(Str×Str))) (gs:List Str) (c:Int) (t n:Nat),vs=[.ref k,.str z,.int ((m:Int) + 1)]∧Bk K C CB H k b ps zs gs c t n∧m < n∧z∈ps∧Jm (zs.map (·.2)) z≠[] ∧
 ∀ H',Jf H H'→Q (.int (hiC (zs.map (·.2)) gs c m z true)) H'
def Joa:Sp:=fun vs H Q _=>∃ (k b:Addr) (z:Str) (m:Nat) (r:Bool) (ps:List Str) (zs:List (V×(Str×Str))) (gs:List Str) (c:Int) (t n:Nat),vs=[.ref k,.str z,.int m,.str (hs r)]∧Bk K C CB H k b ps zs gs c t n∧m≤n∧m≤30∧z∈ps ∧
 ∀ H',Jf H H'→Q (.int (JU (zs.map (·.2)) gs c m z r)) H'
def JmE:Sp:=fun vs H Q _=>∃ (k b:Addr) (m:Nat) (ps:List Str) (zs:List (V×(Str×Str))) (gs:List Str) (c:Int) (t n:Nat),vs=[.ref k,.int m]∧Bk K C CB H k b ps zs gs c t n∧m≤n∧m≤30 ∧
 ∀ a H',Jf H H'→Jdg H' a ps (JU (zs.map (·.2)) gs c m)→Q (.ref a) H'
def Jiq (x:Addr):Sp:=fun vs H Q E=>∃ (k b dx:Addr) (c t:Int) (ps:List Str) (zs:List (V×(Str×Str))) (gs:List Str),vs=[.ref k,.ref b,.int c,.int t]∧H k=some (.ins CB dx [])∧k≠b∧Bd K C H b ps zs gs ∧
 (¬ (0≤c∧c≤20)→E (.ref x) none H)∧(0≤c∧c≤20→¬ (0≤t∧t≤30)→E (.ref x) none H) ∧
 (0≤c∧c≤20→0≤t∧t≤30→∀ H',Zo k H H'→Bk K C CB H' k b ps zs gs c t.toNat (t.toNat + 1)→Q .non H')
def JgL (ps:List Str) (c:Int) (t:Nat) (z:Str) (m north:Int) (x:Str):Prop:=z∈ps∧(0≤m∧m≤t)∧(0≤north∧north≤c)∧ZZ x=true
def Jdu (kP kR kH:Addr) (ps:List Str) (c:Int) (t:Nat) (z:Str) (m north:Int) (x:Str) (H:Hp) (E:XK):Prop :=
 (z∉ps→E (.ref kP) none H)∧(z∈ps→¬ (0≤m∧m≤t)→E (.ref kR) none H)∧(z∈ps→0≤m∧m≤t→¬ (0≤north∧north≤c)→E (.ref kR) none H)∧(z∈ps→0≤m∧m≤t→0≤north∧north≤c→ZZ x=false→E (.ref kH) none H)
theorem Jal {kP kR kH:Addr} {ps:List Str} {c:Int} {t:Nat} {z:Str} {m north:Int} {x:Str} {H:Hp} {E:XK} (h:JgL ps c t z m north x):Jdu kP kR kH ps c t z m north x H E :=
 ⟨fun z=>absurd h.1 z,fun _ z=>absurd h.2.1 z,fun _ _ z=>absurd h.2.2.1 z,fun _ _ _ z=>by rw [h.2.2.2] at z; cases z⟩
def JmB (kP kR kH:Addr):Sp:=fun vs H Q E=>∃ (k b:Addr) (z x:Str) (m north:Int) (ps:List Str) (zs:List (V×(Str×Str))) (gs:List Str) (c:Int) (t:Nat),vs=[.ref k,.str z,.int m,.int north,.str x]∧YX z∧YX x∧Bk K C CB H k b ps zs gs c t (t + 1) ∧
 Jdu kP kR kH ps c t z m north x H E∧(JgL ps c t z m north x→Q .non H)
def Jla (kP kR kH:Addr):Sp:=fun vs H Q E=>∃ (k b:Addr) (z x:Str) (m north:Int) (ps:List Str) (zs:List (V×(Str×Str))) (gs:List Str) (c:Int) (t:Nat),vs=[.ref k,.str z,.int m,.int north,.str x]∧YX z∧YX x∧Bk K C CB H k b ps zs gs c t (t + 1) ∧
 Jdu kP kR kH ps c t z m north x H E∧(z∈ps→(0≤m∧m≤t)→(0≤north∧north≤c)→∀ r,x=hs r→∀ H',Jf H H'→Q (.str (hs (decide (JU (zs.map (·.2)) gs c m.toNat z r≤north)))) H')
def Jm9:Option Int→V
 | none=>.non
 | some i=>.int i
def Jek:Option Str→V
 | none=>.non
 | some i=>.str i
def Yl (zs:List (Str×Str)) (gs:List Str) (m:Nat) (z:Str):Prop:=z∈gs∨m=0∨Jm zs z=[]
instance (zs:List (Str×Str)) (gs:List Str) (m:Nat) (z:Str):Decidable (Yl zs gs m z):=by unfold Yl; exact inferInstance
theorem JfP {z:Str} {m:Nat} {zs:List (Str×Str)} {gs:List Str}:(Yl zs gs m z→∃ x,Z7 z (m:Int) zs gs=.str x)∧(¬ Yl zs gs m z→Z7 z (m:Int) zs gs=.non):=by
 unfold Z7 Yl;by_cases hg:z∈gs
 ·rw [if_pos hg]; exact ⟨fun _=>⟨_,rfl⟩,fun h=>absurd (.inl hg) h⟩
 ·rw [if_neg hg];by_cases h0:(m:Int)=0∨Jm zs z=[]
  ·rw [if_pos h0];refine ⟨fun _=>⟨_,rfl⟩,fun h=>absurd (.inr ?_) h⟩;rcases h0 with h0 | h0
   ·exact .inl (by omega)
   ·exact .inr h0
  ·rw [if_neg h0];refine ⟨fun h=>?_,fun _=>rfl⟩;rcases h with h | h | h
   ·exact absurd h hg
   ·exact absurd (.inl (by omega)) h0
   ·exact absurd (.inr h) h0
abbrev gB (gs:List Str):Str→Bool:=fun p=>decide (p∈gs)
def JeK (zs:List (Str×Str)) (gs:List Str) (c:Int) (m:Nat) (z:Str) (k:Int) (r:Bool):V :=
 if Yl zs gs m z then .non else if decide (JU zs gs c m z r≤k)=!r then .int (Z9 (Jm zs) (gB gs) c (m - 1) z k r) else .non
def JfT (zs:List (Str×Str)) (gs:List Str) (c:Int) (m:Nat) (z:Str) (k:Int) (r:Bool) (b:Int):V :=
 if Yl zs gs m z then .non else Jm9 (ZM (Jm zs) (gB gs) c (m - 1) z k r b)
def Jcv (zs:List (Str×Str)) (gs:List Str) (c:Int) (m:Nat) (z:Str) (k:Int) (r h:Bool):V :=
 if Yl zs gs m z then .non else Jek (Yt (Jm zs) (gB gs) c (m - 1) z k r h)
theorem JjY {α:Type} {f:α→Bool} {w:α}:∀ {l:List α} {i:Nat},l[i]?=some w→(∀ x∈l.take i,f x=false)→f w=true→l.find? f=some w
 | [],i,h,_,_=>by simp at h
 | a :: l,0,h,_,hw=>by
  have:a=w:=by simpa using h
  subst this;rw [List.find?_cons,hw]
 | a :: l,i + 1,h,hn,hw=>by
  rw [List.find?_cons,hn a (by simp)];exact JjY (by simpa using h) (fun x hx=>hn x (by simp [hx])) hw
theorem Jgd (n s:Int) (r:Bool) (b a:Int):∃ s',Jbx n s r b a=[.str (hs (after n r b a).1),.int (after n r b a).2.1,.int s',.str (hs (after n r b a).2.2)]:=by
 unfold Jbx after;by_cases h1:b > a
 ·rw [if_pos h1,if_pos h1]; cases r <;> exact ⟨_,rfl⟩
 ·rw [if_neg h1,if_neg h1];by_cases h2:a > b
  ·rw [if_pos h2,if_pos h2]; cases r <;> exact ⟨_,rfl⟩
  ·rw [if_neg h2,if_neg h2]; cases r <;> exact ⟨_,rfl⟩
theorem Jjn {n c:Int} {r:Bool} {b a:Int} (hn:0≤n∧n≤c) (hb:0≤b) (hb2:b≤own c n (!r)) (ha:0≤a) (ha2:a≤own c n r):0≤(after n r b a).2.1∧(after n r b a).2.1≤c:=by
 unfold after;unfold own at hb2 ha2;by_cases h1:b > a
 ·rw [if_pos h1]; cases r <;> simp at hb2 ha2 ⊢ <;> omega
 ·rw [if_neg h1];by_cases h2:a > b
  ·rw [if_pos h2]; cases r <;> simp at hb2 ha2 ⊢ <;> omega
  ·rw [if_neg h2]; cases r <;> simp at hb2 ha2 ⊢ <;> omega
def Jlj (kP kR kH:Addr):Sp:=fun vs H Q E=>∃ (k b:Addr) (z x:Str) (m north:Int) (ps:List Str) (zs:List (V×(Str×Str))) (gs:List Str) (c:Int) (t:Nat),vs=[.ref k,.str z,.int m,.int north,.str x]∧YX z∧YX x∧Bk K C CB H k b ps zs gs c t (t + 1) ∧
 Jdu kP kR kH ps c t z m north x H E∧(z∈ps→(0≤m∧m≤t)→(0≤north∧north≤c)→∀ r,x=hs r→∀ H',Jf H H'→Q (JeK (zs.map (·.2)) gs c m.toNat z north r) H')
def Jkh (kP kR kH:Addr):Sp:=fun vs H Q E=>∃ (k b:Addr) (z x y:Str) (m north:Int) (ps:List Str) (zs:List (V×(Str×Str))) (gs:List Str) (c:Int) (t:Nat),vs=[.ref k,.str z,.int m,.int north,.str x,.str y]∧YX z∧YX x∧YX y∧Bk K C CB H k b ps zs gs c t (t + 1) ∧
 Jdu kP kR kH ps c t z m north x H E∧(JgL ps c t z m north x→ZZ y=false→E (.ref kH) none H)∧(z∈ps→(0≤m∧m≤t)→(0≤north∧north≤c)→∀ r h,x=hs r→y=hs h→∀ H',Jf H H'→Q (Jcv (zs.map (·.2)) gs c m.toNat z north r h) H')
def JmK:Sp:=fun vs H Q _=>∃ (k b p:Addr) (z:Str) (m:Nat) (l r h:Bool) (n s:Int) (ps:List Str) (zs:List (V×(Str×Str))) (gs:List Str) (c:Int) (t:Nat),vs=[.ref k,.str z,.int ((m:Int) + 1),.ref p,.str (hs h)]∧H p=some (.tup [.str (hs l),.int n,.int s,.str (hs r)])∧Bk K C CB H k b ps zs gs c t (t + 1) ∧
 z∈ps∧m + 1≤t∧(0≤n∧n≤c)∧¬ Yl (zs.map (·.2)) gs (m + 1) z∧∀ H',Jf H H'→Q (.bl ((Yt (Jm (zs.map (·.2))) (gB gs) c m z n r l).isSome == (l == h))) H'
def Jir (kP kR kH kB:Addr):Sp:=fun vs H Q E=>∃ (k b:Addr) (z x:Str) (m north bid:Int) (ps:List Str) (zs:List (V×(Str×Str))) (gs:List Str) (c:Int) (t:Nat),vs=[.ref k,.str z,.int m,.int north,.str x,.int bid]∧YX z∧YX x∧Bk K C CB H k b ps zs gs c t (t + 1) ∧
 Jdu kP kR kH ps c t z m north x H E∧(z∈ps→(0≤m∧m≤t)→(0≤north∧north≤c)→∀ r,x=hs r→¬ (0≤bid∧bid≤own c north (!r))→E (.ref kB) none H) ∧
 (z∈ps→(0≤m∧m≤t)→(0≤north∧north≤c)→∀ r,x=hs r→0≤bid∧bid≤own c north (!r)→∀ H',Jf H H'→Q (JfT (zs.map (·.2)) gs c m.toNat z north r bid) H')
end
section
variable {P:Program} {w:World} {K:PySem.W.Frag} {mg:Str→Option Value} {base:Heap}
theorem ZK (T:Txt K mg):JN P w K mg base (Y3 P w) 1 T.Jch T.JbD ["number", "most"] (Jn7 T.J1):=by
 refine T.Y6.F.ok1 JgM (fun vs H Q E h=>?_) (fun cdv A outer s H vs Q E hr h=>?_)
 ·obtain ⟨_,_,rfl,_⟩:=h;rfl
 ·obtain ⟨n,m,rfl,hm,q1,q2⟩:=h;refine ⟨_,(@Jg _ _ _ (@JL _ _ _ _ _ _ _ _ (@PW.pt _ _ _ (@ZQ _ _ _ _ _ _ _ (@Jp _ _ _ _ _ _ _ _ (@Jbe _) (@pv _ 0 _ _ rfl (.inl rfl) rfl rfl) (@Jc _ _ _ _) (Ju _)) (@Jar _ _ _ _ (@Jp _ _ _ _ _ _ _ _ (@Jbf _) (@pv _ 0 _ _ rfl (.inl rfl) rfl rfl) (@pv _ 1 _ _ rfl (.inl rfl) rfl rfl) (Ju _))))) (@Jg _ _ _ (@JcN _ _ _ _ _ _ _ _ _ T.Jco T.Jc3 Jdz (@Je1 _ _ _ _ _ _ (PJ.cons (@JR _ _ _ _) (PJ.cons (@JjS _ _ _ _ (@pv _ 1 _ _ rfl (.inl rfl) rfl rfl)) PJ.nil)) rfl) rfl rfl (by decide) rfl)) (@Jw _))),?_⟩;have fm:∀ m:Nat,m < 31→(m:Int).natAbs.log2 < 1920∧(Str.empty ++ Str.ofString "it goes from 0 to " ++ Str.ofString (toString (m:Int))).length≤sizeLine:=by decide +kernel
  obtain ⟨m,rfl⟩:∃ j:Nat,m=(j:Int):=⟨m.toNat,by omega⟩
  have fm:=fm m (by omega);have bad:¬ (0≤n∧n≤m)→Jik T.J1 E (Jf4 [tC (.str "it goes from 0 to "),Jkg (fun σ H Q=>∃ v,σ[1]?=some (some v)∧Q v H)] Str.empty) { nx:=fun _ H'=>Q .non H',rt:=Q } [some (.int n),some (.int (m:Int))] H:=fun hb =>
   ⟨_,rfl,by decide +kernel,_,rfl,_,rfl,fm.1,_,rfl,fm.2,fm.2,q2 hb⟩
  refine ⟨_,rfl,_,_,rfl,rfl,_,rfl,YE (fun c=>?_) (fun c=>?_)⟩
  ·exact YU (bad fun z=>by have:=z.1; have:=of_decide_eq_true c; omega)
  refine ⟨_,rfl,_,rfl,_,_,rfl,rfl,_,rfl,YE (fun d=>?_) (fun d=>?_)⟩
  ·exact bad fun z=>by have:=z.2; have:=of_decide_eq_true d; omega
  ·exact q1 ⟨Int.not_lt.mp fun z=>c (decide_eq_true z),Int.not_lt.mp fun z=>d (decide_eq_true z)⟩
theorem JdW (T:Txt K mg):JN P w K mg base (Y3 P w) 4 T.Jhe T.JfI ["board", "place", "turns"] (JmI K T.JD T.YB T.J1):=by
 refine T.JcE.F.ok1 JmX (fun vs H Q E h=>?_) (fun cdv A outer s H vs Q E hr h=>?_)
 ·obtain ⟨_,_,_,_,_,_,rfl,_⟩:=h;rfl
 ·obtain ⟨b,z,n,ps,zs,gs,rfl,ht,hl,B,q1,q2,q3⟩:=h;refine ⟨_,(@Jd _ _ _ _ _ (@JG _ _ _ _ (@J0 _ _ _ _ _ _ _ _ _ _ _ _ _ _ _ _ _ _ _ _ (@pv _ 0 _ _ rfl (.inl rfl) rfl rfl) T.Yr T.JW.m (Y8 T) (hr.mono (by decide)) T.JW.b .nil YC (@Ja _ _ _ _ _ (@pv _ 1 _ _ rfl (.inl rfl) rfl rfl) (@Jb _) rfl) rfl rfl rfl) rfl) (@Jd _ _ _ _ _ (@JG _ _ _ _ (@Jn _ _ _ _ _ _ _ _ _ _ _ _ _ _ _ T.Y6 (ZK T) (hr.mono (by decide)) YC (@Ja _ _ _ _ _ (@pv _ 2 _ _ rfl (.inl rfl) rfl rfl) (@Ja _ _ _ _ _ (@JaD _ _ _ _ _ rfl T.Jaw T.Jaq (by decide)) (@Jb _) rfl) rfl) rfl (by decide) rfl rfl) rfl) (@Jd _ _ _ _ _ (@JL _ _ _ _ _ _ _ _ (@JbZ _ _ _ (@J0 _ _ _ _ _ _ _ _ _ _ _ _ _ _ _ _ _ _ _ _ (@pv _ 0 _ _ rfl (.inl rfl) rfl rfl) T.Yr T.Jag.m (JfB T) (hr.mono (by decide)) T.Jag.b .nil YC (@Ja _ _ _ _ _ (@pv _ 1 _ _ rfl (.inl rfl) rfl rfl) (@Jb _) rfl) rfl rfl rfl) (by intro _; rfl)) (@Jg _ _ _ (@Jt _ _ _ _ (@JR _ _ _ _))) (@Jw _)) (@Jd _ _ _ _ _ (@JL _ _ _ _ _ _ _ _ (@PW.pt _ _ _ (@ZQ _ _ _ _ _ _ _ (@Jp _ _ _ _ _ _ _ _ (@J2 _) (@pv _ 2 _ _ rfl (.inl rfl) rfl rfl) (@Jc _ _ _ _) (Ju _)) (@Jar _ _ _ _ (@Jp _ _ _ _ _ _ _ _ (@J2 _) (@JS _ _ _ _ _ _ _ _ _ (@YL _) rfl T.JaH PySem.boot_len (@Ja _ _ _ _ _ (@J0 _ _ _ _ _ _ _ _ _ _ _ _ _ _ _ _ _ _ _ _ (@pv _ 0 _ _ rfl (.inl rfl) rfl rfl) T.Yr T.Yz.m (JaY T) (hr.mono (by decide)) T.Yz.b .nil YC (@Ja _ _ _ _ _ (@pv _ 1 _ _ rfl (.inl rfl) rfl rfl) (@Jb _) rfl) rfl rfl rfl) (@Jb _) rfl) (by decide) (by decide) rfl rfl) (@Jc _ _ _ _) (Ju _))))) (@Jg _ _ _ (@Jt _ _ _ _ (@JR _ _ _ _))) (@Jw _)) (@Jg _ _ _ (@Jt _ _ _ _ (@Jb0 _ _ _))))))),?_⟩;obtain ⟨dx,tp,tl,tg,hb,_⟩:=id B;refine ⟨_,rfl,b,dx,_,rfl,hb,rfl,_,rfl,b,z,ps,zs,gs,rfl,ht,B,fun hin=>?_,q1⟩;refine ⟨_,rfl,n,30,rfl,⟨by decide,by decide⟩,fun hn=>?_,q2 hin⟩;refine ⟨_,rfl,b,dx,_,rfl,hb,rfl,_,rfl,b,z,ps,zs,gs,rfl,ht,B,fun _=>⟨_,rfl,?_⟩,fun h=>absurd hin h⟩;have q:=q3 hin hn;by_cases hg:z∈gs
  ·refine YH (decide_eq_true hg) ?_;have e:Z7 z n (zs.map (·.2)) gs=.str "north":=by unfold Z7; rw [if_pos hg]
   rw [e] at q;exact q H (Jf.refl _)
  ·refine J3 (decide_eq_false hg) ⟨_,rfl,rfl,_,rfl,?_⟩;by_cases h0:n=0
   ·have e:Z7 z n (zs.map (·.2)) gs=.str "south":=by unfold Z7; rw [if_neg hg,if_pos (.inl h0)]
    rw [e] at q;exact YH (by rw [h0]; exact decide_eq_true rfl) (YU (q H (Jf.refl _)))
   ·refine J3 (decide_eq_false fun e=>h0 (V.int.inj e)) ⟨_,rfl,b,dx,_,rfl,hb,rfl,_,rfl,b,z,ps,zs,gs,rfl,ht,hl,B,fun _ t H' e' ht'=>⟨t,_,rfl,.inr (JK.of ht'),rfl,_,rfl,?_⟩,fun h=>absurd hin h⟩;rw [List.length_map];by_cases hw:Jm (zs.map (·.2)) z=[]
    ·have e:Z7 z n (zs.map (·.2)) gs=.str "south":=by unfold Z7; rw [if_neg hg,if_pos (.inr hw)]
     rw [e] at q;exact YH (by rw [hw]; exact decide_eq_true rfl) (q H' e')
    ·have e:Z7 z n (zs.map (·.2)) gs=.non:=by unfold Z7; rw [if_neg hg,if_neg (fun h=>h.elim h0 hw)]
     rw [e] at q;refine J3 (decide_eq_false fun e2=>?_) (q H' e');have e3:((Jm (zs.map (·.2)) z).length:Int)=0:=V.int.inj e2;exact hw (List.length_eq_zero_iff.mp (by omega))
theorem Jcc (T:Txt K mg):JN P w K mg base (Y3 P w) 1 T.JcZ T.Jce ["hand"] (Jh0 T.YZ):=by
 refine T.JaC.F.ok1 Jh2 (fun vs H Q E h=>?_) (fun cdv A outer s H vs Q E hr h=>?_)
 ·obtain ⟨_,rfl,_⟩:=h;rfl
 ·obtain ⟨z,rfl,ht,q1,q2⟩:=h;refine ⟨_,(@Jg _ _ _ (@JL _ _ _ _ _ _ _ _ (@Jp _ _ _ _ _ _ _ _ (@Jbd _) (@pv _ 0 _ _ rfl (.inl rfl) rfl rfl) (@JjR _ _ _ _ rfl T.Jg3 (by decide)) (by with_unfolding_all rfl)) (@Jg _ _ _ (@JcN _ _ _ _ _ _ _ _ _ T.Jgz T.JhP Jdz (@Je1 _ _ _ _ _ _ (PJ.cons (@JiJ _ _ _ _ (@pv _ 0 _ _ rfl (.inl rfl) rfl rfl)) (PJ.cons (@JR _ _ _ _) PJ.nil)) rfl) rfl rfl (by decide) rfl)) (@Jw _))),?_⟩;refine ⟨_,rfl,T.JdL,_,rfl,.inr (T.JeS H),rfl,rfl,_,rfl,?_⟩;rw [if_pos rfl,JlW];have hz:=Jhq ht;have e1:(Str.empty ++ reprText z).length=(reprText z).length:=by rw [strLen_append]; exact Nat.zero_add _
  cases hb:ZZ z with
  | true=>exact Zk (q1 hb)
  | false =>
   refine YU ⟨_,rfl,z,rfl,Nat.le_trans hz (by decide),_,rfl,by rw [e1]; exact Nat.le_trans hz (by decide),_,rfl,?_,?_,q2 hb⟩
   all_goals
    rw [strLen_append,e1];refine Nat.le_trans (Nat.add_le_add_right hz _) (by decide)
theorem JiR (T:Txt K mg):JN P w K mg base (Y3 P w) 2 T.Jhb T.JfF ["hand"] (JmD T.YZ):=by
 refine T.Jfe.F.ok1 JmW (fun vs H Q E h=>?_) (fun cdv A outer s H vs Q E hr h=>?_)
 ·obtain ⟨_,rfl,_⟩:=h;rfl
 ·obtain ⟨z,rfl,ht,q1,q2⟩:=h;refine ⟨_,(@Jd _ _ _ _ _ (@JG _ _ _ _ (@Jn _ _ _ _ _ _ _ _ _ _ _ _ _ _ _ T.JaC (Jcc T) (hr.mono (by decide)) YC (@Ja _ _ _ _ _ (@pv _ 0 _ _ rfl (.inl rfl) rfl rfl) (@Jb _) rfl) rfl (by decide) rfl rfl) rfl) (@Jg _ _ _ (@Jt _ _ _ _ (@JdU _ _ _ _ _ _ _ _ (@Jp _ _ _ _ _ _ _ _ (@J2 _) (@pv _ 0 _ _ rfl (.inl rfl) rfl rfl) (@JR _ _ _ _) (Ju _)) (@JR _ _ _ _) (@JR _ _ _ _))))),?_⟩;refine ⟨_,rfl,z,rfl,ht,fun hb=>?_,q2⟩;obtain ⟨b,rfl⟩:=JdI hb;refine ⟨_,rfl,rfl,_,rfl,?_⟩;rw [Jew];cases b with
  | true=>exact YU (q1 true rfl)
  | false=>exact Zk (q1 false rfl)
theorem JbR (T:Txt K mg):JN P w K mg base YO 1 T.Jd1 T.Jdl ["hand", "north", "south"] Jjv:=by
 refine T.JaJ.F.ok Jjw (fun vs H Q E h=>?_) (fun cdv A outer s H vs Q E hr h=>?_)
 ·obtain ⟨_,_,_,rfl,_⟩:=h;rfl
 ·obtain ⟨b,n,s,rfl,q⟩:=h;refine ⟨_,(@Jg _ _ _ (@Jt _ _ _ _ (@JdU _ _ _ _ _ _ _ _ (@Jp _ _ _ _ _ _ _ _ (@J2 _) (@pv _ 0 _ _ rfl (.inl rfl) rfl rfl) (@JR _ _ _ _) (Ju _)) (@pv _ 1 _ _ rfl (.inl rfl) rfl rfl) (@pv _ 2 _ _ rfl (.inl rfl) rfl rfl)))),?_⟩;refine ⟨_,rfl,rfl,_,rfl,?_⟩;rw [Jew];cases b with
  | true=>exact YU ⟨_,rfl,q⟩
  | false=>exact Zk ⟨_,rfl,q⟩
theorem JiQ (T:Txt K mg):JN P w K mg base YO 1 T.JkN T.Ji7 ["hand", "price", "north", "south", "ribbon"] JoZ:=by
 refine T.JgF.F.ok Jo6 (fun vs H Q E h=>?_) (fun cdv A outer s H vs Q E hr h=>?_)
 ·obtain ⟨_,_,_,_,_,rfl,_⟩:=h;rfl
 ·obtain ⟨b,c,n,s,r,rfl,q⟩:=h;refine ⟨_,(@Jd _ _ _ _ _ (@JL _ _ _ _ _ _ _ _ (@Jp _ _ _ _ _ _ _ _ (@J2 _) (@pv _ 0 _ _ rfl (.inl rfl) rfl rfl) (@JR _ _ _ _) (Ju _)) (@Jg _ _ _ (@Jt _ _ _ _ (@YG _ _ _ _ _ (@Ja _ _ _ _ _ (@pv _ 0 _ _ rfl (.inl rfl) rfl rfl) (@Ja _ _ _ _ _ (@Jl _ _ _ _ _ _ _ _ (@Yq _) (@pv _ 2 _ _ rfl (.inl rfl) rfl rfl) (@pv _ 1 _ _ rfl (.inl rfl) rfl rfl)) (@Ja _ _ _ _ _ (@Jl _ _ _ _ _ _ _ _ (@JP _) (@pv _ 3 _ _ rfl (.inl rfl) rfl rfl) (@pv _ 1 _ _ rfl (.inl rfl) rfl rfl)) (@Ja _ _ _ _ _ (@pv _ 4 _ _ rfl (.inl rfl) rfl rfl) (@Jb _) rfl) rfl) rfl) rfl)))) (@Jw _)) (@Jg _ _ _ (@Jt _ _ _ _ (@YG _ _ _ _ _ (@Ja _ _ _ _ _ (@pv _ 0 _ _ rfl (.inl rfl) rfl rfl) (@Ja _ _ _ _ _ (@Jl _ _ _ _ _ _ _ _ (@JP _) (@pv _ 2 _ _ rfl (.inl rfl) rfl rfl) (@pv _ 1 _ _ rfl (.inl rfl) rfl rfl)) (@Ja _ _ _ _ _ (@Jl _ _ _ _ _ _ _ _ (@Yq _) (@pv _ 3 _ _ rfl (.inl rfl) rfl rfl) (@pv _ 1 _ _ rfl (.inl rfl) rfl rfl)) (@Ja _ _ _ _ _ (@pv _ 4 _ _ rfl (.inl rfl) rfl rfl) (@Jb _) rfl) rfl) rfl) rfl))))),?_⟩;refine ⟨_,rfl,rfl,_,rfl,?_⟩;rw [Jew];cases b with
  | true=>exact YU ⟨_,rfl,_,rfl,_,rfl,_,_,rfl,rfl,_,rfl,_,rfl,_,_,rfl,rfl,_,rfl,by show 4≤sizeLine; decide,fun p hp=>q p _ (Jf.upd hp) Jh⟩
  | false=>exact Zk ⟨_,rfl,_,rfl,_,rfl,_,_,rfl,rfl,_,rfl,_,rfl,_,_,rfl,rfl,_,rfl,by show 4≤sizeLine; decide,fun p hp=>q p _ (Jf.upd hp) Jh⟩
theorem JgZ (T:Txt K mg):JN P w K mg base (Y3 P w) 1 T.Jck T.JbG ["north", "south"] (JgJ T.J1):=by
 refine T.Jcr.F.ok1 JgN (fun vs H Q E h=>?_) (fun cdv A outer s H vs Q E hr h=>?_)
 ·obtain ⟨_,_,rfl,_⟩:=h;rfl
 ·obtain ⟨n,s,rfl,q1,q2⟩:=h;refine ⟨_,(@Jg _ _ _ (@JL _ _ _ _ _ _ _ _ (@PW.pt _ _ _ (@ZQ _ _ _ _ _ _ _ (@Jp _ _ _ _ _ _ _ _ (@Jbe _) (@pv _ 0 _ _ rfl (.inl rfl) rfl rfl) (@Jc _ _ _ _) (Ju _)) (@ZQ _ _ _ _ _ _ _ (@Jp _ _ _ _ _ _ _ _ (@Jbe _) (@pv _ 1 _ _ rfl (.inl rfl) rfl rfl) (@Jc _ _ _ _) (Ju _)) (@Jar _ _ _ _ (@Jp _ _ _ _ _ _ _ _ (@Jbf _) (@Jl _ _ _ _ _ _ _ _ (@JP _) (@pv _ 0 _ _ rfl (.inl rfl) rfl rfl) (@pv _ 1 _ _ rfl (.inl rfl) rfl rfl)) (@JaD _ _ _ _ _ rfl T.ZL T.ZI (by decide)) (Ju _)))))) (@Jg _ _ _ (@JcN _ _ _ _ _ _ _ _ _ T.Jco T.Jc3 Jdz (@Je1 _ _ _ _ _ _ (PJ.cons (@JR _ _ _ _) (PJ.cons (@JjS _ _ _ _ (@JaD _ _ _ _ _ rfl T.ZL T.ZI (by decide))) PJ.nil)) rfl) rfl rfl (by decide) rfl)) (@Jw _))),?_⟩;have bad:¬ JaI n s→Jik T.J1 E (Jf4 [tC (.str "coins go from 0, both hands' together to "),Jkg (tC (.int 20))] Str.empty) { nx:=fun _ H'=>Q .non H',rt:=Q } [some (.int n),some (.int s)] H:=fun hb =>
   ⟨_,rfl,by decide +kernel,_,rfl,by decide +kernel,_,rfl,by decide +kernel,by decide +kernel,q2 hb⟩
  refine ⟨_,rfl,_,_,rfl,rfl,_,rfl,YE (fun c=>?_) (fun c=>?_)⟩
  ·exact YU (bad fun z=>by have:=z.1; have:=of_decide_eq_true c; omega)
  refine ⟨_,rfl,_,_,rfl,rfl,_,rfl,YE (fun d=>?_) (fun d=>?_)⟩
  ·exact YU (bad fun z=>by have:=z.2.1; have:=of_decide_eq_true d; omega)
  refine ⟨_,rfl,_,rfl,_,_,rfl,rfl,_,_,rfl,rfl,_,rfl,YE (fun e=>?_) (fun e=>?_)⟩
  ·exact bad fun z=>by have:=z.2.2; have:=of_decide_eq_true e; omega
  ·refine q1 ⟨?_,?_,?_⟩
   ·exact Int.not_lt.mp fun z=>c (decide_eq_true z)
   ·exact Int.not_lt.mp fun z=>d (decide_eq_true z)
   ·exact Int.not_lt.mp fun z=>e (decide_eq_true z)
theorem JcQ (T:Txt K mg):JN P w K mg base (Y3 P w) 1 T.Jdn T.JcX ["named", "coins"] (Jip T.JbB):=by
 refine T.JaW.F.ok1 Jix (fun vs H Q E h=>?_) (fun cdv A outer s H vs Q E hr h=>?_)
 ·obtain ⟨_,_,rfl,_⟩:=h;rfl
 ·obtain ⟨n,s,rfl,q1,q2⟩:=h;refine ⟨_,(@Jg _ _ _ (@JL _ _ _ _ _ _ _ _ (@PW.pt _ _ _ (@ZQ _ _ _ _ _ _ _ (@Jp _ _ _ _ _ _ _ _ (@Jbe _) (@pv _ 0 _ _ rfl (.inl rfl) rfl rfl) (@Jc _ _ _ _) (Ju _)) (@Jar _ _ _ _ (@Jp _ _ _ _ _ _ _ _ (@Jbf _) (@pv _ 0 _ _ rfl (.inl rfl) rfl rfl) (@pv _ 1 _ _ rfl (.inl rfl) rfl rfl) (Ju _))))) (@Jg _ _ _ (@JcN _ _ _ _ _ _ _ _ _ T.JhW T.Jji Jdz (@JR _ _ _ _) rfl rfl (by decide) rfl)) (@Jw _))),?_⟩;refine ⟨_,rfl,_,_,rfl,rfl,_,rfl,YE (fun c=>?_) (fun c=>?_)⟩
  ·exact YU (q2 fun z=>by have:=z.1; have:=of_decide_eq_true c; omega)
  refine ⟨_,rfl,_,rfl,_,_,rfl,rfl,_,rfl,YE (fun d=>?_) (fun d=>?_)⟩
  ·exact q2 fun z=>by have:=z.2; have:=of_decide_eq_true d; omega
  ·exact q1 ⟨Int.not_lt.mp fun z=>c (decide_eq_true z),Int.not_lt.mp fun z=>d (decide_eq_true z)⟩
theorem JlC (T:Txt K mg):JN P w K mg base (Y3 P w) 3 T.JfN T.JeB ["north", "south", "ribbon", "bid", "answer"] (Jld T.J1 T.YZ T.JbB):=by
 refine T.JfY.F.ok1 Jht (fun vs H Q E h=>?_) (fun cdv A outer s H vs Q E hr h=>?_)
 ·obtain ⟨_,_,_,_,_,rfl,_⟩:=h;rfl
 ·obtain ⟨n,s,z,b,a,rfl,ht,q1,q2,q3,q⟩:=h;refine ⟨_,(@Jd _ _ _ _ _ (@JG _ _ _ _ (@Jn _ _ _ _ _ _ _ _ _ _ _ _ _ _ _ T.Jcr (JgZ T) (hr.mono (by decide)) YC (@Ja _ _ _ _ _ (@pv _ 0 _ _ rfl (.inl rfl) rfl rfl) (@Ja _ _ _ _ _ (@pv _ 1 _ _ rfl (.inl rfl) rfl rfl) (@Jb _) rfl) rfl) rfl (by decide) rfl rfl) rfl) (@Jd _ _ _ _ _ (@Jr _ _ 5 _ _ _ _ Jht.nd rfl (Or.inl rfl) (@Jn _ _ _ _ _ _ _ _ _ _ _ _ _ _ _ T.Jfe (JiR T) (hr.mono (by decide)) YC (@Ja _ _ _ _ _ (@pv _ 2 _ _ rfl (.inl rfl) rfl rfl) (@Jb _) rfl) rfl (by decide) rfl rfl) rfl (.inl rfl)) (@Jd _ _ _ _ _ (@JG _ _ _ _ (@Jn _ _ _ _ _ _ _ _ _ _ _ _ _ _ _ T.JaW (JcQ T) (hr.mono (by decide)) YC (@Ja _ _ _ _ _ (@pv _ 3 _ _ rfl (.inl rfl) rfl rfl) (@Ja _ _ _ _ _ (@Jn _ _ _ _ _ _ _ _ _ _ _ _ _ _ _ T.JaJ (JbR T) (hr.mono (by decide)) JE (@Ja _ _ _ _ _ (@pv _ 5 _ _ rfl (.inl rfl) rfl rfl) (@Ja _ _ _ _ _ (@pv _ 0 _ _ rfl (.inl rfl) rfl rfl) (@Ja _ _ _ _ _ (@pv _ 1 _ _ rfl (.inl rfl) rfl rfl) (@Jb _) rfl) rfl) rfl) rfl (by decide) rfl rfl) (@Jb _) rfl) rfl) rfl (by decide) rfl rfl) rfl) (@Jd _ _ _ _ _ (@JG _ _ _ _ (@Jn _ _ _ _ _ _ _ _ _ _ _ _ _ _ _ T.JaW (JcQ T) (hr.mono (by decide)) YC (@Ja _ _ _ _ _ (@pv _ 4 _ _ rfl (.inl rfl) rfl rfl) (@Ja _ _ _ _ _ (@Jn _ _ _ _ _ _ _ _ _ _ _ _ _ _ _ T.JaJ (JbR T) (hr.mono (by decide)) JE (@Ja _ _ _ _ _ (@pv _ 2 _ _ rfl (.inl rfl) rfl rfl) (@Ja _ _ _ _ _ (@pv _ 0 _ _ rfl (.inl rfl) rfl rfl) (@Ja _ _ _ _ _ (@pv _ 1 _ _ rfl (.inl rfl) rfl rfl) (@Jb _) rfl) rfl) rfl) rfl (by decide) rfl rfl) (@Jb _) rfl) rfl) rfl (by decide) rfl rfl) rfl) (@Jd _ _ _ _ _ (@JL _ _ _ _ _ _ _ _ (@Jp _ _ _ _ _ _ _ _ (@Jbf _) (@pv _ 3 _ _ rfl (.inl rfl) rfl rfl) (@pv _ 4 _ _ rfl (.inl rfl) rfl rfl) (Ju _)) (@Jg _ _ _ (@Jt _ _ _ _ (@Jn _ _ _ _ _ _ _ _ _ _ _ _ _ _ _ T.JgF (JiQ T) (hr.mono (by decide)) JE (@Ja _ _ _ _ _ (@pv _ 5 _ _ rfl (.inl rfl) rfl rfl) (@Ja _ _ _ _ _ (@pv _ 3 _ _ rfl (.inl rfl) rfl rfl) (@Ja _ _ _ _ _ (@pv _ 0 _ _ rfl (.inl rfl) rfl rfl) (@Ja _ _ _ _ _ (@pv _ 1 _ _ rfl (.inl rfl) rfl rfl) (@Ja _ _ _ _ _ (@pv _ 2 _ _ rfl (.inl rfl) rfl rfl) (@Jb _) rfl) rfl) rfl) rfl) rfl) rfl (by decide) rfl rfl))) (@Jw _)) (@Jd _ _ _ _ _ (@JL _ _ _ _ _ _ _ _ (@Jp _ _ _ _ _ _ _ _ (@Jbf _) (@pv _ 4 _ _ rfl (.inl rfl) rfl rfl) (@pv _ 3 _ _ rfl (.inl rfl) rfl rfl) (Ju _)) (@Jg _ _ _ (@Jt _ _ _ _ (@Jn _ _ _ _ _ _ _ _ _ _ _ _ _ _ _ T.JgF (JiQ T) (hr.mono (by decide)) JE (@Ja _ _ _ _ _ (@pv _ 2 _ _ rfl (.inl rfl) rfl rfl) (@Ja _ _ _ _ _ (@pv _ 4 _ _ rfl (.inl rfl) rfl rfl) (@Ja _ _ _ _ _ (@pv _ 0 _ _ rfl (.inl rfl) rfl rfl) (@Ja _ _ _ _ _ (@pv _ 1 _ _ rfl (.inl rfl) rfl rfl) (@Ja _ _ _ _ _ (@pv _ 2 _ _ rfl (.inl rfl) rfl rfl) (@Jb _) rfl) rfl) rfl) rfl) rfl) rfl (by decide) rfl rfl))) (@Jw _)) (@Jg _ _ _ (@Jt _ _ _ _ (@Jn _ _ _ _ _ _ _ _ _ _ _ _ _ _ _ T.JgF (JiQ T) (hr.mono (by decide)) JE (@Ja _ _ _ _ _ (@pv _ 2 _ _ rfl (.inl rfl) rfl rfl) (@Ja _ _ _ _ _ (@pv _ 4 _ _ rfl (.inl rfl) rfl rfl) (@Ja _ _ _ _ _ (@pv _ 0 _ _ rfl (.inl rfl) rfl rfl) (@Ja _ _ _ _ _ (@pv _ 1 _ _ rfl (.inl rfl) rfl rfl) (@Ja _ _ _ _ _ (@pv _ 5 _ _ rfl (.inl rfl) rfl rfl) (@Jb _) rfl) rfl) rfl) rfl) rfl) rfl (by decide) rfl rfl))))))))),?_⟩;refine ⟨_,rfl,_,rfl,n,s,rfl,fun hc=>?_,q1⟩;refine ⟨_,rfl,z,rfl,ht,fun r hz=>?_,q2 hc⟩;subst hz;refine ⟨_,rfl,_,rfl,_,rfl,_,rfl,_,n,s,rfl,b,_,rfl,fun hb=>?_,fun hb=>q3 r rfl hc fun z=>hb (by cases r <;> exact z.1)⟩;refine ⟨_,rfl,_,rfl,_,rfl,_,rfl,r,n,s,rfl,a,_,rfl,fun ha=>?_,fun ha=>q3 r rfl hc fun z=>ha z.2⟩;have hok:JeJ n s r b a:=⟨by cases r <;> exact hb,ha⟩
  have q:=q r rfl hc hok;refine ⟨_,rfl,_,rfl,_,_,rfl,rfl,_,rfl,?_⟩;refine YE (fun c=>?_) (fun c=>?_)
  ·have c':a < b:=of_decide_eq_true c;refine ⟨_,rfl,_,rfl,_,rfl,_,rfl,_,rfl,_,b,n,s,r,rfl,fun p H' e hp=>q p H' e ?_⟩;rw [hp,Jfz,if_pos c']
  ·have c':¬ a < b:=fun z=>c (decide_eq_true z)
   refine ⟨_,rfl,_,rfl,_,_,rfl,rfl,_,rfl,?_⟩;refine YE (fun d=>?_) (fun d=>?_)
   ·have d':b < a:=of_decide_eq_true d;refine ⟨_,rfl,_,rfl,_,rfl,_,rfl,_,rfl,_,a,n,s,r,rfl,fun p H' e hp=>q p H' e ?_⟩;rw [hp,Jfz,if_neg c',if_pos d']
   ·have d':¬ b < a:=fun z=>d (decide_eq_true z)
    refine ⟨_,rfl,_,rfl,_,rfl,_,rfl,_,rfl,_,a,n,s,_,rfl,fun p H' e hp=>q p H' e ?_⟩;rw [hp,Jfz,if_neg c',if_neg d']
theorem ZC (T:Txt K mg):JN P w K mg base YO 4 T.YR T.YK ["self", "place", "turns"] (Jo1 K T.JD T.JC):=by
 refine T.JY.F.ok Zz (fun vs H Q E h=>?_) (fun cdv A outer s H vs Q E hr h=>?_)
 ·obtain ⟨_,_,_,_,_,_,_,_,_,_,rfl,_⟩:=h;rfl
 ·obtain ⟨k,b,z,m,ps,zs,gs,c,t,n,rfl,B,hm,hz,hw,q⟩:=h;have hu:=Jbg hr;refine ⟨_,(@Jd _ _ _ _ _ (@Jr _ _ 3 _ _ _ _ Zz.nd rfl (Or.inr rfl) (@JA _ _ _ _ _ _ _ (@J4 _) (@Yw _ _ _ _ _ (@pv _ 0 _ _ rfl (.inl rfl) rfl rfl) rfl) (@Jl _ _ _ _ _ _ _ _ (@Yq _) (@pv _ 2 _ _ rfl (.inl rfl) rfl rfl) (@Jc _ _ _ _)) (fun _ _=>rfl)) rfl (by first | exact .inl rfl | exact .inr rfl | assumption)) (@Jg _ _ _ (@Jt _ _ _ _ (@JS _ _ _ _ _ _ _ _ _ (@Jmf _ rfl) rfl T.JkB PyProof.Rows.boot_min (@Ja _ _ _ _ _ (@Jda _ _ _ _ _ _ _ 1 ["way", "behind"] [3] _ _ _ _ ["self", "place", "turns", "behind"] ((Jo Yp).names) (by decide +kernel) (@JcP _ _ _ _ (@J0 _ _ _ _ _ _ _ _ _ _ _ _ _ _ _ _ _ _ _ _ (@Yw _ _ _ _ _ (@pv _ 0 _ _ rfl (.inl rfl) rfl rfl) rfl) T.Yr T.Yz.m (JaY T) (hr.mono (by decide)) T.Yz.b .nil Y1 (@Ja _ _ _ _ _ (@pv _ 1 _ _ rfl (.inl rfl) rfl rfl) (@Jb _) rfl) rfl rfl rfl)) (fun _ _ _ _=>(@ZV _ _ _ _ _ _ _ _ _ 0 (by decide +kernel) rfl rfl)) (fun _ _ _ _=>(@Jbv _)) (fun _ _ _ _=>(@JdC _ _ _ _ _ _ hu (@ZW _ _ _ _ _ _ _ _ _ 1 rfl rfl (by decide) (by decide)) (@YG _ _ _ _ _ (@Ja _ _ _ _ _ (@ZA _ _ _ _ _ _ _ _ _ 0 rfl rfl (by decide) (by decide)) (@Ja _ _ _ _ _ (@JR _ _ _ _) (@Jb _) rfl) rfl)) (fun _ _=>rfl))) rfl rfl rfl (by intro _; rfl)) (@Jb _) rfl) (by decide) (by decide) rfl rfl)))),?_⟩;obtain ⟨dx,l,rs,h1,h2,h3,h4⟩:=B.at_;obtain ⟨a,ha⟩:∃ a,rs[m]?=some a:=⟨_,List.getElem?_eq_getElem (by omega)⟩
  obtain ⟨kvs,hk1,hk2⟩:=h4 m a ha;obtain ⟨bdx,tp,tl,tg,hb,_⟩:=id B.B.B;have hwl:=Jd8 B.B.G z;have hat:atI (rs.map V.ref) ((m:Int) + 1 - 1)=some (.ref a):=by
   rw [Int.add_sub_cancel]; exact JbN (by rw [List.getElem?_map,ha]; rfl)
  refine ⟨_,rfl,k,_,dx,_,.ref l,rfl,h1,T.JJ,T.Zu,rfl,_,rfl,_,_,rfl,rfl,l,_,_,.ref a,rfl,rfl,Js.of h2,hat,?_⟩;refine ⟨_,rfl,k,_,dx,_,.ref b,rfl,h1,T.JJ,T.Yk,rfl,b,bdx,_,rfl,hb,rfl,_,rfl,b,z,ps,zs,gs,rfl,YI (B.B.G.p3 z hz),B.B.zl,B.B.B,fun _ tw H1 e1 ht=>?_,fun h=>absurd hz h⟩;refine ⟨tw,rfl,⟨_,JK.of ht⟩,fun D hD=>?_⟩;refine JfQ (xs:=(Jm (zs.map (·.2)) z).map V.str) (fun i ys H2=>Jf H1 H2∧H2 D=some (.lst ys)∧ys=((Jm (zs.map (·.2)) z).take i).map fun w=>V.int (JU (zs.map (·.2)) gs c m w false)) rfl (fun i ys H2 p=>JK.of (p.1 _ _ ht)) ⟨Jf.upd hD,Jh,by simp⟩ (fun i ys H2 p=>p.2.1) ?_ ?_
  ·rintro i x ys H2 hx ⟨e2,hy,rfl⟩;rw [List.getElem?_map] at hx;obtain ⟨w',hw1,rfl⟩:=Option.map_eq_some_iff.mp hx;have hin:=Jds B.B.G (List.mem_of_getElem? hw1);refine tcT ?_;refine ⟨_,rfl,_,rfl,by show 2≤sizeLine; decide,fun p hp=>?_⟩;have g:=Ja7.t (k:=Z8 w' false) ((Jf.upd (o:=.tup [.str w',.str "south"]) hp) _ _ (e2 _ _ (e1 _ _ hk1))) (show upd H2 p (.tup [.str w',.str "south"]) p=some (.tup ((Z8 w' false).map kV)) from Jh);rw [hk2 w' hin false] at g;have hDp:D≠p:=JB hy hp;refine ⟨a,_,rfl,g,by rw [Jq hDp]; exact hy,?_,fun b' u e=>?_,Jh,?_⟩
   ·rw [List.length_map,List.length_take];refine Nat.lt_of_le_of_lt (Nat.min_le_right _ _) (Nat.lt_of_le_of_lt hwl (by decide))
   ·rw [Jq (JB e hD),Jq (JB (e2 _ _ e) hp)]; exact e2 b' u e
   ·rw [List.take_succ,hw1,List.map_append]; rfl
  ·rintro ys H2 ⟨e2,hy,rfl⟩;rw [List.length_map,List.take_length] at hy;have e:((Jm (zs.map (·.2)) z).map fun w=>V.int (JU (zs.map (·.2)) gs c m w false))=((Jm (zs.map (·.2)) z).map fun w=>JU (zs.map (·.2)) gs c m w false).map V.int:=by rw [List.map_map]; rfl
   rw [e] at hy;refine ⟨D,_,rfl,Js.of hy,?_,fun M hM1 hM2=>?_⟩
   ·rw [List.length_map]; exact List.length_pos_iff.mpr hw
   ·rw [Joy hM1 hM2]; exact q H2 (e1.trans e2)
theorem ZB (T:Txt K mg):JN P w K mg base YO 4 T.YQ T.YJ ["self", "place", "turns"] (Jo0 K T.JD T.JC):=by
 refine T.JX.F.ok Zy (fun vs H Q E h=>?_) (fun cdv A outer s H vs Q E hr h=>?_)
 ·obtain ⟨_,_,_,_,_,_,_,_,_,_,rfl,_⟩:=h;rfl
 ·obtain ⟨k,b,z,m,ps,zs,gs,c,t,n,rfl,B,hm,hz,hw,q⟩:=h;have hu:=Jbg hr;refine ⟨_,(@Jd _ _ _ _ _ (@Jr _ _ 3 _ _ _ _ Zy.nd rfl (Or.inr rfl) (@JA _ _ _ _ _ _ _ (@J4 _) (@Yw _ _ _ _ _ (@pv _ 0 _ _ rfl (.inl rfl) rfl rfl) rfl) (@Jl _ _ _ _ _ _ _ _ (@Yq _) (@pv _ 2 _ _ rfl (.inl rfl) rfl rfl) (@Jc _ _ _ _)) (fun _ _=>rfl)) rfl (by first | exact .inl rfl | exact .inr rfl | assumption)) (@Jg _ _ _ (@Jt _ _ _ _ (@JS _ _ _ _ _ _ _ _ _ (@Jmh _ rfl) rfl T.JdX PyProof.Rows.boot_max (@Ja _ _ _ _ _ (@Jda _ _ _ _ _ _ _ 1 ["way", "behind"] [3] _ _ _ _ ["self", "place", "turns", "behind"] ((Jo Yo).names) (by decide +kernel) (@JcP _ _ _ _ (@J0 _ _ _ _ _ _ _ _ _ _ _ _ _ _ _ _ _ _ _ _ (@Yw _ _ _ _ _ (@pv _ 0 _ _ rfl (.inl rfl) rfl rfl) rfl) T.Yr T.Yz.m (JaY T) (hr.mono (by decide)) T.Yz.b .nil Y1 (@Ja _ _ _ _ _ (@pv _ 1 _ _ rfl (.inl rfl) rfl rfl) (@Jb _) rfl) rfl rfl rfl)) (fun _ _ _ _=>(@ZV _ _ _ _ _ _ _ _ _ 0 (by decide +kernel) rfl rfl)) (fun _ _ _ _=>(@Jbv _)) (fun _ _ _ _=>(@JdC _ _ _ _ _ _ hu (@ZW _ _ _ _ _ _ _ _ _ 1 rfl rfl (by decide) (by decide)) (@YG _ _ _ _ _ (@Ja _ _ _ _ _ (@ZA _ _ _ _ _ _ _ _ _ 0 rfl rfl (by decide) (by decide)) (@Ja _ _ _ _ _ (@JR _ _ _ _) (@Jb _) rfl) rfl)) (fun _ _=>rfl))) rfl rfl rfl (by intro _; rfl)) (@Jb _) rfl) (by decide) (by decide) rfl rfl)))),?_⟩;obtain ⟨dx,l,rs,h1,h2,h3,h4⟩:=B.at_;obtain ⟨a,ha⟩:∃ a,rs[m]?=some a:=⟨_,List.getElem?_eq_getElem (by omega)⟩
  obtain ⟨kvs,hk1,hk2⟩:=h4 m a ha;obtain ⟨bdx,tp,tl,tg,hb,_⟩:=id B.B.B;have hwl:=Jd8 B.B.G z;have hat:atI (rs.map V.ref) ((m:Int) + 1 - 1)=some (.ref a):=by
   rw [Int.add_sub_cancel]; exact JbN (by rw [List.getElem?_map,ha]; rfl)
  refine ⟨_,rfl,k,_,dx,_,.ref l,rfl,h1,T.JJ,T.Zu,rfl,_,rfl,_,_,rfl,rfl,l,_,_,.ref a,rfl,rfl,Js.of h2,hat,?_⟩;refine ⟨_,rfl,k,_,dx,_,.ref b,rfl,h1,T.JJ,T.Yk,rfl,b,bdx,_,rfl,hb,rfl,_,rfl,b,z,ps,zs,gs,rfl,YI (B.B.G.p3 z hz),B.B.zl,B.B.B,fun _ tw H1 e1 ht=>?_,fun h=>absurd hz h⟩;refine ⟨tw,rfl,⟨_,JK.of ht⟩,fun D hD=>?_⟩;refine JfQ (xs:=(Jm (zs.map (·.2)) z).map V.str) (fun i ys H2=>Jf H1 H2∧H2 D=some (.lst ys)∧ys=((Jm (zs.map (·.2)) z).take i).map fun w=>V.int (JU (zs.map (·.2)) gs c m w true)) rfl (fun i ys H2 p=>JK.of (p.1 _ _ ht)) ⟨Jf.upd hD,Jh,by simp⟩ (fun i ys H2 p=>p.2.1) ?_ ?_
  ·rintro i x ys H2 hx ⟨e2,hy,rfl⟩;rw [List.getElem?_map] at hx;obtain ⟨w',hw1,rfl⟩:=Option.map_eq_some_iff.mp hx;have hin:=Jds B.B.G (List.mem_of_getElem? hw1);refine tcT ?_;refine ⟨_,rfl,_,rfl,by show 2≤sizeLine; decide,fun p hp=>?_⟩;have g:=Ja7.t (k:=Z8 w' true) ((Jf.upd (o:=.tup [.str w',.str "north"]) hp) _ _ (e2 _ _ (e1 _ _ hk1))) (show upd H2 p (.tup [.str w',.str "north"]) p=some (.tup ((Z8 w' true).map kV)) from Jh);rw [hk2 w' hin true] at g;have hDp:D≠p:=JB hy hp;refine ⟨a,_,rfl,g,by rw [Jq hDp]; exact hy,?_,fun b' u e=>?_,Jh,?_⟩
   ·rw [List.length_map,List.length_take];refine Nat.lt_of_le_of_lt (Nat.min_le_right _ _) (Nat.lt_of_le_of_lt hwl (by decide))
   ·rw [Jq (JB e hD),Jq (JB (e2 _ _ e) hp)]; exact e2 b' u e
   ·rw [List.take_succ,hw1,List.map_append]; rfl
  ·rintro ys H2 ⟨e2,hy,rfl⟩;rw [List.length_map,List.take_length] at hy;have e:((Jm (zs.map (·.2)) z).map fun w=>V.int (JU (zs.map (·.2)) gs c m w true))=((Jm (zs.map (·.2)) z).map fun w=>JU (zs.map (·.2)) gs c m w true).map V.int:=by rw [List.map_map]; rfl
   rw [e] at hy;refine ⟨D,_,rfl,Js.of hy,?_,fun M hM1 hM2=>?_⟩
   ·rw [List.length_map]; exact List.length_pos_iff.mpr hw
   ·rw [JoA hM1 hM2]; exact q H2 (e1.trans e2)
theorem Jgg (T:Txt K mg):JN P w K mg base YO 5 T.JbM T.Jbl ["self", "place", "turns", "ribbon"] (Joa K T.JD T.JC):=by
 refine T.JaK.F.ok Jab (fun vs H Q E h=>?_) (fun cdv A outer s H vs Q E hr h=>?_)
 ·obtain ⟨_,_,_,_,_,_,_,_,_,_,_,rfl,_⟩:=h;rfl
 ·obtain ⟨k,b,z,m,r,ps,zs,gs,c,t,n,rfl,B,hm,hm2,hz,q⟩:=h;refine ⟨_,(@Jd _ _ _ _ _ (@Jr _ _ 4 _ _ _ _ Jab.nd rfl (Or.inl rfl) (@Jn _ _ _ _ _ _ _ _ _ _ _ _ _ _ _ T.JcE (JdW T) (hr.mono (by decide)) Y1 (@Ja _ _ _ _ _ (@Yw _ _ _ _ _ (@pv _ 0 _ _ rfl (.inl rfl) rfl rfl) rfl) (@Ja _ _ _ _ _ (@pv _ 1 _ _ rfl (.inl rfl) rfl rfl) (@Ja _ _ _ _ _ (@pv _ 2 _ _ rfl (.inl rfl) rfl rfl) (@Jb _) rfl) rfl) rfl) rfl (by decide) rfl rfl) rfl (.inl rfl)) (@Jd _ _ _ _ _ (@JL _ _ _ _ _ _ _ _ (@JdB _ _ _ _ _ _ (@JdD _ _ _ _ _ (@pv _ 4 _ _ rfl (.inl rfl) rfl rfl)) (by first | exact ZE _ (by decide) (by decide) | rfl)) (@Jg _ _ _ (@Jt _ _ _ _ (@JdU _ _ _ _ _ _ _ _ (@Jp _ _ _ _ _ _ _ _ (@J2 _) (@pv _ 4 _ _ rfl (.inl rfl) rfl rfl) (@JR _ _ _ _) (Ju _)) (@Jc _ _ _ _) (@Jl _ _ _ _ _ _ _ _ (@JP _) (@Yw _ _ _ _ _ (@pv _ 0 _ _ rfl (.inl rfl) rfl rfl) rfl) (@Jc _ _ _ _))))) (@Jw _)) (@Jd _ _ _ _ _ (@Jr _ _ 5 _ _ _ _ Jab.nd rfl (Or.inl rfl) (@J0 _ _ _ _ _ _ _ _ _ _ _ _ _ _ _ _ _ _ _ _ (@pv _ 0 _ _ rfl (.inl rfl) rfl rfl) T.JJ T.JY.m (ZC T) (hr.mono (by decide)) T.JY.b .nil JE (@Ja _ _ _ _ _ (@pv _ 1 _ _ rfl (.inl rfl) rfl rfl) (@Ja _ _ _ _ _ (@pv _ 2 _ _ rfl (.inl rfl) rfl rfl) (@Jb _) rfl) rfl) rfl rfl rfl) rfl (.inl rfl)) (@Jd _ _ _ _ _ (@Jr _ _ 6 _ _ _ _ Jab.nd rfl (Or.inl rfl) (@J0 _ _ _ _ _ _ _ _ _ _ _ _ _ _ _ _ _ _ _ _ (@pv _ 0 _ _ rfl (.inl rfl) rfl rfl) T.JJ T.JX.m (ZB T) (hr.mono (by decide)) T.JX.b .nil JE (@Ja _ _ _ _ _ (@pv _ 1 _ _ rfl (.inl rfl) rfl rfl) (@Ja _ _ _ _ _ (@pv _ 2 _ _ rfl (.inl rfl) rfl rfl) (@Jb _) rfl) rfl) rfl rfl rfl) rfl (.inl rfl)) (@Jd _ _ _ _ _ (@JL _ _ _ _ _ _ _ _ (@Jp _ _ _ _ _ _ _ _ (@J2 _) (@pv _ 3 _ _ rfl (.inl rfl) rfl rfl) (@JR _ _ _ _) (Ju _)) (@Jg _ _ _ (@Jt _ _ _ _ (@JS _ _ _ _ _ _ _ _ _ (@Jb4 _ rfl) rfl T.JdX PyProof.Rows.boot_max (@Ja _ _ _ _ _ (@pv _ 5 _ _ rfl (.inl rfl) rfl rfl) (@Ja _ _ _ _ _ (@Jl _ _ _ _ _ _ _ _ (@ZJ _) (@Jl _ _ _ _ _ _ _ _ (@JP _) (@pv _ 5 _ _ rfl (.inl rfl) rfl rfl) (@pv _ 6 _ _ rfl (.inl rfl) rfl rfl)) (@Jc _ _ _ _)) (@Jb _) rfl) rfl) (by decide) (by decide) rfl rfl))) (@Jw _)) (@Jg _ _ _ (@Jt _ _ _ _ (@JS _ _ _ _ _ _ _ _ _ (@Jmg _ rfl) rfl T.JkB PyProof.Rows.boot_min (@Ja _ _ _ _ _ (@pv _ 6 _ _ rfl (.inl rfl) rfl rfl) (@Ja _ _ _ _ _ (@Jl _ _ _ _ _ _ _ _ (@ZJ _) (@Jl _ _ _ _ _ _ _ _ (@JP _) (@Jl _ _ _ _ _ _ _ _ (@JP _) (@pv _ 5 _ _ rfl (.inl rfl) rfl rfl) (@pv _ 6 _ _ rfl (.inl rfl) rfl rfl)) (@Jc _ _ _ _)) (@Jc _ _ _ _)) (@Jb _) rfl) rfl) (by decide) (by decide) rfl rfl)))))))),?_⟩;obtain ⟨dx,l,rs,h1,h2,h3,h4⟩:=B.at_;refine ⟨_,rfl,k,_,dx,_,.ref b,rfl,h1,T.JJ,T.Yk,rfl,_,rfl,_,rfl,b,z,m,ps,zs,gs,rfl,YI (B.B.G.p3 z hz),B.B.zl,B.B.B,fun h=>absurd hz h,fun _ h=>absurd (by omega) h,fun _ _ H1 e1=>?_⟩;by_cases hg:z∈gs
  ·have ev:Z7 z m (zs.map (·.2)) gs=.str "north":=by unfold Z7; rw [if_pos hg]
   rw [ev];have en:JU (zs.map (·.2)) gs c m z r=0:=Jb2 (decide_eq_true hg);rw [en] at q;exact ⟨_,rfl,_,rfl,YU ⟨_,rfl,rfl,_,rfl,YU (q H1 e1)⟩⟩
  ·by_cases h0:(m:Int)=0∨Jm (zs.map (·.2)) z=[]
   ·have ev:Z7 z m (zs.map (·.2)) gs=.str "south":=by unfold Z7; rw [if_neg hg,if_pos h0]
    rw [ev];have en:JU (zs.map (·.2)) gs c m z r=c + 1:=by
     rcases h0 with h0 | h0
     ·have:m=0:=by omega
      subst this;exact JhA (decide_eq_false hg)
     ·exact Jb1 (decide_eq_false hg) h0
    rw [en] at q;exact ⟨_,rfl,_,rfl,YU ⟨_,rfl,rfl,_,rfl,Zk ⟨_,rfl,k,_,dx,_,.int c,rfl,e1 _ _ h1,T.JJ,T.ZY,rfl,_,_,rfl,rfl,q H1 e1⟩⟩⟩
   ·have ev:Z7 z m (zs.map (·.2)) gs=.non:=by unfold Z7; rw [if_neg hg,if_neg h0]
    rw [ev];obtain ⟨j,rfl⟩:∃ j,m=j + 1:=⟨m - 1,by omega⟩
    have hw:Jm (zs.map (·.2)) z≠[]:=fun e=>h0 (.inr e)
    refine ⟨_,rfl,_,rfl,Zk ?_⟩;refine ⟨_,rfl,k,dx,_,rfl,e1 _ _ h1,rfl,_,rfl,_,rfl,k,b,z,j,ps,zs,gs,c,t,n,rfl,B.same e1,by omega,hz,hw,fun H2 e2=>?_⟩;have e12:=e1.trans e2;refine ⟨_,rfl,k,dx,_,rfl,e12 _ _ h1,rfl,_,rfl,_,rfl,k,b,z,j,ps,zs,gs,c,t,n,rfl,B.same e12,by omega,hz,hw,fun H3 e3=>?_⟩;have q:=q H3 (e12.trans e3);refine ⟨_,rfl,rfl,_,rfl,?_⟩;rw [Jew];cases r with
    | true =>
     rw [JU,Jeo (W:=Jm (zs.map (·.2))) (g:=fun p=>decide (p∈gs)) (p:=z) (decide_eq_false hg) hw] at q;exact YU ⟨_,rfl,_,rfl,_,rfl,_,_,rfl,rfl,_,_,rfl,rfl,⟨by decide,by decide⟩,_,_,rfl,q⟩
    | false =>
     rw [JU,Jen (W:=Jm (zs.map (·.2))) (g:=fun p=>decide (p∈gs)) (p:=z) (decide_eq_false hg) hw] at q;exact Zk ⟨_,rfl,_,rfl,_,rfl,_,_,rfl,rfl,_,_,rfl,rfl,_,_,rfl,rfl,⟨by decide,by decide⟩,_,_,rfl,q⟩
theorem Jel (T:Txt K mg):JN P w K mg base YO 6 T.JaS T.Jay ["self", "turns"] (JmE K T.JD T.JC):=by
 refine T.ZG.F.ok Zx (fun vs H Q E h=>?_) (fun cdv A outer s H vs Q E hr h=>?_)
 ·obtain ⟨_,_,_,_,_,_,_,_,_,rfl,_⟩:=h;rfl
 ·obtain ⟨k,b,m,ps,zs,gs,c,t,n,rfl,B,hm,hm2,q⟩:=h;have hu:=Jbg hr;have szl:sizeLine=16777216:=sizeLine_eq;refine ⟨_,(@Jd _ _ _ _ _ (@Jr _ _ 2 _ _ _ _ Zx.nd rfl (Or.inl rfl) (@Jm6 _ _) rfl (.inl rfl)) (@Jd _ _ _ _ _ (@Yv _ _ _ _ _ _ _ _ PassesOwn.never rfl (@JcP _ _ _ _ (@Yw _ _ _ _ _ (@Yw _ _ _ _ _ (@pv _ 0 _ _ rfl (.inl rfl) rfl rfl) rfl) rfl)) (@JV _ _ 3 _ Zx.nd rfl (Or.inl rfl) (.inl rfl)) (@Jg _ _ _ (@Yv _ _ _ _ _ _ _ _ PassesOwn.never rfl (@JcP _ _ _ _ (@JjR _ _ _ _ rfl T.Jg3 (by decide))) (@JV _ _ 4 _ Zx.nd rfl (Or.inl rfl) (.inl rfl)) (@Jg _ _ _ (@JjM _ _ _ _ _ _ _ _ _ hu (@pv _ 2 _ _ rfl (.inl rfl) rfl rfl) (@YG _ _ _ _ _ (@Ja _ _ _ _ _ (@pv _ 3 _ _ rfl (.inl rfl) rfl rfl) (@Ja _ _ _ _ _ (@pv _ 4 _ _ rfl (.inl rfl) rfl rfl) (@Jb _) rfl) rfl)) (@J0 _ _ _ _ _ _ _ _ _ _ _ _ _ _ _ _ _ _ _ _ (@pv _ 0 _ _ rfl (.inl rfl) rfl rfl) T.JJ T.JaK.m (Jgg T) (hr.mono (by decide)) T.JaK.b .nil JE (@Ja _ _ _ _ _ (@pv _ 3 _ _ rfl (.inl rfl) rfl rfl) (@Ja _ _ _ _ _ (@pv _ 1 _ _ rfl (.inl rfl) rfl rfl) (@Ja _ _ _ _ _ (@pv _ 4 _ _ rfl (.inl rfl) rfl rfl) (@Jb _) rfl) rfl) rfl) rfl rfl rfl) rfl)) (by intro _; rfl))) (by intro _; rfl)) (@Jg _ _ _ (@Jt _ _ _ _ (@pv _ 2 _ _ rfl (.inl rfl) rfl rfl))))),?_⟩;obtain ⟨dx,l,rs,h1,h2,h3,h4⟩:=B.at_;obtain ⟨bdx,tp,tl,tg,hb,hp,_⟩:=id B.B.B;intro d hd;have kp:∀ {H2:Hp} {kvs:List (List JI×V)},Jf H H2→Jf H (upd H2 d (.dT kvs)):=fun e b' u h=>by rw [Jq (JB h hd)]; exact e b' u h
  refine ⟨_,rfl,k,_,dx,_,.ref b,rfl,kp (Jf.refl _) _ _ h1,T.JJ,T.Yk,rfl,b,_,bdx,_,.ref tp,rfl,kp (Jf.refl _) _ _ hb,T.Yr,T.Jae,rfl,tp,rfl,⟨_,JK.of (kp (Jf.refl _) _ _ hp)⟩,?_⟩;refine Je7 (xs:=ps.map V.str) (fun i σ H2=>∃ kvs v1 v2,Jf H H2∧H2 d=some (.dT kvs)∧kvs.length≤2 * i∧(∀ p∈ps.take i,∀ r,YD kvs (Z8 p r)=some (.int (JU (zs.map (·.2)) gs c m p r)))∧σ=[some (.ref k),some (.int m),some (.ref d),v1,v2])
   ⟨[],none,none,kp (Jf.refl _),Jh,Nat.zero_le _,fun p hp=>by simp at hp,rfl⟩ (fun i σ H2 _ h=>by obtain ⟨_,_,_,e,_⟩:=h; exact JK.of (e _ _ hp)) ?_ ?_
  ·rintro i x σ H2 hx ⟨kvs,v1,v2,e2,hd2,hl2,hv2,rfl⟩;rw [List.getElem?_map] at hx;obtain ⟨p,hp1,rfl⟩:=Option.map_eq_some_iff.mp hx;have hpm:=List.mem_of_getElem? hp1;refine ⟨T.JdL,rfl,⟨_,T.JeS _⟩,?_⟩;refine Je7 (xs:=[.str "north",.str "south"]) (fun j σ H3=>∃ kvs v2,Jf H H3∧H3 d=some (.dT kvs)∧kvs.length≤2 * i + j∧(∀ p∈ps.take i,∀ r,YD kvs (Z8 p r)=some (.int (JU (zs.map (·.2)) gs c m p r))) ∧
     (0 < j→YD kvs (Z8 p true)=some (.int (JU (zs.map (·.2)) gs c m p true)))∧(1 < j→YD kvs (Z8 p false)=some (.int (JU (zs.map (·.2)) gs c m p false)))∧σ=[some (.ref k),some (.int m),some (.ref d),some (.str p),v2])
    ⟨kvs,v2,e2,hd2,by omega,hv2,fun z=>absurd z (by decide),fun z=>absurd z (by decide),rfl⟩ (fun i σ H2 _ h=>T.JeS _) ?_ ?_
   ·rintro j y σ H3 hy ⟨kvs,v2,e3,hd3,hl3,hv3,hn3,hs3,rfl⟩;obtain ⟨r,rfl,hrj⟩:∃ r:Bool,y=.str (hs r)∧((r=true∧j=0)∨(r=false∧j=1)):=by
     match j,hy with
     | 0,h=>exact ⟨true,(Option.some.inj h).symm,.inl ⟨rfl,rfl⟩⟩
     | 1,h=>exact ⟨false,(Option.some.inj h).symm,.inr ⟨rfl,rfl⟩⟩
     | j + 2,h=>cases h
    refine ⟨_,rfl,k,dx,_,rfl,e3 _ _ h1,rfl,_,rfl,_,rfl,_,rfl,k,b,p,m,r,ps,zs,gs,c,t,n,rfl,B.same e3,hm,hm2,hpm,fun H4 e4=>?_⟩;refine ⟨_,rfl,_,rfl,_,rfl,by show 2≤sizeLine; decide,fun tp4 n4=>?_⟩;have hd4:upd H4 tp4 (.tup [.str p,.str (hs r)]) d=some (.dT kvs):=(Jf.upd n4) _ _ (e4 _ _ hd3);have hlen:ps.length≤12:=B.B.G.p2;have hil:i < ps.length:=(List.getElem?_eq_some_iff.mp hp1).1;have hj2:j≤1:=by rcases hrj with h | h <;> omega
    refine ⟨d,_,rfl,JeO.t (k:=Z8 p r) hd4 (show upd H4 tp4 (.tup [.str p,.str (hs r)]) tp4=some (.tup ((Z8 p r).map kV)) from Jh) (by omega),_,_,kp ((e3.trans e4).trans (Jf.upd n4)),Jh,?_,fun p' hp' r'=>?_,fun h=>?_,fun h=>?_,rfl⟩
    ·unfold Yn;split
     ·rw [List.length_map]; omega
     ·rw [List.length_append,List.length_singleton]; omega
    ·rw [JdO];by_cases hk:Z8 p' r'=Z8 p r
     ·obtain ⟨rfl,rfl⟩:=Jjj hk;rw [if_pos rfl]
     ·rw [if_neg hk]; exact hv3 p' hp' r'
    ·rw [JdO];rcases hrj with ⟨rfl,rfl⟩ | ⟨rfl,rfl⟩
     ·rw [if_pos rfl]
     ·rw [if_neg (fun e=>by have:=(Jjj e).2; cases this)]; exact hn3 (by decide)
    ·rcases hrj with ⟨rfl,rfl⟩ | ⟨rfl,rfl⟩
     ·exact absurd h (by decide)
     ·rw [JdO,if_pos rfl]
   ·rintro σ H3 ⟨kvs,v2,e3,hd3,hl3,hv3,hn3,hs3,rfl⟩;refine ⟨kvs,_,_,e3,hd3,by have:[V.str "north",V.str "south"].length=2:=rfl; omega,fun p' hp' r=>?_,rfl⟩;rw [List.take_succ,hp1] at hp';rcases List.mem_append.mp hp' with h | h
    ·exact hv3 p' h r
    ·have h:p'=p:=by simpa using h
     subst h;cases r with
     | true=>exact hn3 (by decide)
     | false=>exact hs3 (by decide)
  ·rintro σ H2 ⟨kvs,v1,v2,e2,hd2,hl2,hv2,rfl⟩;rw [List.length_map,List.take_length] at hv2;exact ⟨_,rfl,q d H2 e2 ⟨kvs,hd2,hv2⟩⟩
theorem JiT (T:Txt K mg):JN P w K mg base (Y3 P w) 7 T.JbT T.JcY ["self", "board", "coins", "turns"] (Jiq K T.JD T.JC T.J1):=by
 refine T.Jdr.F.ok1 Jec (fun vs H Q E h=>?_) (fun cdv A outer s H vs Q E hr h=>?_)
 ·obtain ⟨_,_,_,_,_,_,_,_,rfl,_⟩:=h;rfl
 ·obtain ⟨k,b,dx,c,t,ps,zs,gs,rfl,hk,hkb,B,q1,q2,q⟩:=h;have szl:sizeLine=16777216:=sizeLine_eq;refine ⟨_,(@Jd _ _ _ _ _ (@JG _ _ _ _ (@Jn _ _ _ _ _ _ _ _ _ _ _ _ _ _ _ T.Y6 (ZK T) (hr.mono (by decide)) YC (@Ja _ _ _ _ _ (@pv _ 2 _ _ rfl (.inl rfl) rfl rfl) (@Ja _ _ _ _ _ (@JaD _ _ _ _ _ rfl T.ZL T.ZI (by decide)) (@Jb _) rfl) rfl) rfl (by decide) rfl rfl) rfl) (@Jd _ _ _ _ _ (@JG _ _ _ _ (@Jn _ _ _ _ _ _ _ _ _ _ _ _ _ _ _ T.Y6 (ZK T) (hr.mono (by decide)) YC (@Ja _ _ _ _ _ (@pv _ 3 _ _ rfl (.inl rfl) rfl rfl) (@Ja _ _ _ _ _ (@JaD _ _ _ _ _ rfl T.Jaw T.Jaq (by decide)) (@Jb _) rfl) rfl) rfl (by decide) rfl rfl) rfl) (@Jd _ _ _ _ _ (@JcO _ _ _ _ _ _ _ _ (@pv _ 0 _ _ rfl (.inl rfl) rfl rfl) (@pv _ 1 _ _ rfl (.inl rfl) rfl rfl) rfl) (@Jd _ _ _ _ _ (@JcO _ _ _ _ _ _ _ _ (@pv _ 0 _ _ rfl (.inl rfl) rfl rfl) (@pv _ 2 _ _ rfl (.inl rfl) rfl rfl) rfl) (@Jd _ _ _ _ _ (@JcO _ _ _ _ _ _ _ _ (@pv _ 0 _ _ rfl (.inl rfl) rfl rfl) (@pv _ 3 _ _ rfl (.inl rfl) rfl rfl) rfl) (@Jd _ _ _ _ _ (@JcO _ _ _ _ _ _ _ _ (@pv _ 0 _ _ rfl (.inl rfl) rfl rfl) (@Yj _ _ _ _ (@Jb _)) rfl) (@Jg _ _ _ (@Yv _ _ _ _ _ _ _ _ PassesOwn.leaving rfl (@Za _ _ _ _ _ _ rfl T.Y2 (@Ja _ _ _ _ _ (@Jl _ _ _ _ _ _ _ _ (@JP _) (@pv _ 3 _ _ rfl (.inl rfl) rfl rfl) (@Jc _ _ _ _)) (@Jb _) rfl) rfl) (@JV _ _ 4 _ Jec.nd rfl (Or.inl rfl) (.inl rfl)) (@Jg _ _ _ (@JG _ _ _ _ (@JaE _ _ _ _ _ _ _ _ _ _ _ _ PySem.F.plainAttrs_list PySem.F.slot_list_append PySem.F.type_list_append (@YY _) (@Yw _ _ _ _ _ (@pv _ 0 _ _ rfl (.inl rfl) rfl rfl) rfl) (@Ja _ _ _ _ _ (@J0 _ _ _ _ _ _ _ _ _ _ _ _ _ _ _ _ _ _ _ _ (@pv _ 0 _ _ rfl (.inl rfl) rfl rfl) T.JJ T.ZG.m (Jel T) (hr.mono (by decide)) T.ZG.b .nil JE (@Ja _ _ _ _ _ (@pv _ 4 _ _ rfl (.inl rfl) rfl rfl) (@Jb _) rfl) rfl rfl rfl) (@Jb _) rfl) rfl rfl rfl rfl rfl) rfl)) (by intro _; rfl))))))))),?_⟩;refine ⟨_,rfl,c,20,rfl,⟨by decide,by decide⟩,fun hc=>?_,q1⟩;refine ⟨_,rfl,t,30,rfl,⟨by decide,by decide⟩,fun ht=>?_,q2 hc⟩;have q:=q hc ht;obtain ⟨tn,rfl⟩:∃ j:Nat,t=(j:Int):=⟨t.toNat,by omega⟩
  rw [Int.toNat_natCast] at q;refine ⟨_,rfl,_,rfl,k,_,dx,_,rfl,hk,T.JJ,T.Yk,by decide,?_⟩;have b1:Zo k H (upd H k (.ins T.JC dx (Yi "board" (.ref b) []))):=Zo.put;have h1:upd H k (.ins T.JC dx (Yi "board" (.ref b) [])) k=some (.ins T.JC dx [("board",.ref b)]):=Jh;generalize upd H k (.ins T.JC dx (Yi "board" (.ref b) []))=H1 at b1 h1;refine ⟨_,rfl,_,rfl,k,_,dx,_,rfl,h1,T.JJ,T.ZY,by show 1 < 1000; decide,?_⟩;have b2:=b1.trans (Zo.put (o:=.ins T.JC dx (Yi "coins" (.int c) [("board",.ref b)])));have h2:upd H1 k (.ins T.JC dx (Yi "coins" (.int c) [("board",.ref b)])) k=some (.ins T.JC dx [("board",.ref b),("coins",.int c)]):=Jh;generalize upd H1 k (.ins T.JC dx (Yi "coins" (.int c) [("board",.ref b)]))=H2 at b2 h2;refine ⟨_,rfl,_,rfl,k,_,dx,_,rfl,h2,T.JJ,T.Jcd,by show 2 < 1000; decide,?_⟩;have b3:=b2.trans (Zo.put (o:=.ins T.JC dx (Yi "turns" (.int (tn:Int)) [("board",.ref b),("coins",.int c)])));have h3:upd H2 k (.ins T.JC dx (Yi "turns" (.int (tn:Int)) [("board",.ref b),("coins",.int c)])) k=some (.ins T.JC dx [("board",.ref b),("coins",.int c),("turns",.int (tn:Int))]):=Jh;generalize upd H2 k (.ins T.JC dx (Yi "turns" (.int (tn:Int)) [("board",.ref b),("coins",.int c)]))=H3 at b3 h3;refine ⟨by show 0≤sizeLine; decide,fun l hl=>?_⟩;refine ⟨_,rfl,k,_,dx,_,rfl,(Jf.upd hl) _ _ h3,T.JJ,T.Zu,by show 3 < 1000; decide,?_⟩;have lk:l≠k:=fun e=>by rw [e,h3] at hl; cases hl
  have lH:H l=none:=by
   cases e:H l with
   | none=>rfl
   | some u=>rw [b3 l u lk e] at hl; cases hl
  have b4:=(b3.trans (Zo.of (Jf.upd (o:=.lst []) hl))).trans (Zo.put (o:=.ins T.JC dx (Yi "needs" (.ref l) [("board",.ref b),("coins",.int c),("turns",.int (tn:Int))])));have h4:upd (upd H3 l (.lst [])) k (.ins T.JC dx (Yi "needs" (.ref l) [("board",.ref b),("coins",.int c),("turns",.int (tn:Int))])) k=some (.ins T.JC dx [("board",.ref b),("coins",.int c),("turns",.int (tn:Int)),("needs",.ref l)]):=Jh;have l4:upd (upd H3 l (.lst [])) k (.ins T.JC dx (Yi "needs" (.ref l) [("board",.ref b),("coins",.int c),("turns",.int (tn:Int))])) l=some (.lst []):=by rw [Jq lk,Jh]
  generalize upd (upd H3 l (.lst [])) k (.ins T.JC dx (Yi "needs" (.ref l) [("board",.ref b),("coins",.int c),("turns",.int (tn:Int))]))=H4 at b4 h4 l4;refine ⟨_,rfl,_,_,rfl,rfl,(tn:Int) + 1,rfl,by omega,by omega,?_⟩;rw [show ((tn:Int) + 1).toNat=tn + 1 by omega];refine Zc (n:=tn + 1) (fun i σ H5=>∃ rs v,Zo k H H5∧H5 k=some (.ins T.JC dx [("board",.ref b),("coins",.int c),("turns",.int (tn:Int)),("needs",.ref l)])∧H5 l=some (.lst (rs.map V.ref))∧rs.length=i∧(∀ (j:Nat) a,rs[j]?=some a→Jdg H5 a ps (JU (zs.map (·.2)) gs c j))∧σ=[some (.ref k),some (.ref b),some (.int c),some (.int (tn:Int)),v])
   ⟨[],none,b4,h4,l4,rfl,fun j a e=>by simp at e,rfl⟩ ?_ ?_
  ·rintro i σ H5 hi ⟨rs,v,b5,h5,l5,len5,r5,rfl⟩;have B5:Bk K T.JD T.JC H5 k b ps zs gs c tn i:=⟨Zo.bd B b5 hk hkb,hc.1,hc.2,by omega,dx,l,rs,h5,l5,len5,r5⟩
   refine ⟨_,rfl,k,_,dx,_,.ref l,rfl,h5,T.JJ,T.Zu,rfl,.inl ⟨rfl,_,Js.of l5⟩,_,rfl,k,dx,_,rfl,h5,rfl,_,rfl,k,b,i,ps,zs,gs,c,tn,i,by rw [Int.zero_add]; rfl,B5,Nat.le_refl _,by omega,fun a H6 e6 r6=>?_⟩;refine ⟨l,_,_,rfl,rfl,e6 _ _ l5,by rw [List.length_map]; omega,rs ++ [a],_,?_,?_,?_,?_,?_,rfl⟩
   ·intro x u hx hu;rw [Jq (JB hu lH)];exact e6 _ _ (b5 x u hx hu)
   ·rw [Jq (fun e=>lk e.symm)]; exact e6 _ _ h5
   ·rw [Jh,List.map_append]; rfl
   ·rw [List.length_append,len5]; rfl
   ·intro j x hx;have key:∀ {y:Addr} {f:Str→Bool→Int},Jdg H6 y ps f→Jdg (upd H6 l (.lst (rs.map V.ref ++ [.ref a]))) y ps f:=fun {y f} hy=>by
     obtain ⟨kvs,y1,y2⟩:=hy;exact ⟨kvs,by rw [Jq (Jad y1 (e6 _ _ l5) (fun z=>nomatch z))]; exact y1,y2⟩
    by_cases hj:j < rs.length
    ·rw [List.getElem?_append_left hj] at hx;exact key ((r5 j x hx).same e6)
    ·rw [List.getElem?_append_right (by omega)] at hx;have hj0:j - rs.length=0:=by
      cases e:j - rs.length with
      | zero=>rfl
      | succ n=>rw [e] at hx; simp at hx
     rw [hj0] at hx;have:a=x:=by simpa using hx
     subst this;have:j=i:=by omega
     subst this;exact key r6
  ·rintro σ H5 ⟨rs,v,b5,h5,l5,len5,r5,rfl⟩;exact q H5 b5 ⟨Zo.bd B b5 hk hkb,hc.1,hc.2,by omega,dx,l,rs,h5,l5,len5,r5⟩
theorem Z3 (T:Txt K mg):JN P w K mg base (Y3 P w) 3 T.Jaz T.Z4 ["self", "place", "turns", "north", "ribbon"] (JmB K T.JD T.JC T.YB T.J1 T.YZ):=by
 refine T.Yh.F.ok1 Jd6 (fun vs H Q E h=>?_) (fun cdv A outer s H vs Q E hr h=>?_)
 ·obtain ⟨_,_,_,_,_,_,_,_,_,_,_,rfl,_⟩:=h;rfl
 ·obtain ⟨k,b,z,x,m,north,ps,zs,gs,c,t,rfl,tz,tx,B,⟨q1,q2,q3,q4⟩,q⟩:=h;refine ⟨_,(@Jd _ _ _ _ _ (@JG _ _ _ _ (@J0 _ _ _ _ _ _ _ _ _ _ _ _ _ _ _ _ _ _ _ _ (@Yw _ _ _ _ _ (@pv _ 0 _ _ rfl (.inl rfl) rfl rfl) rfl) T.Yr T.JW.m (Y8 T) (hr.mono (by decide)) T.JW.b .nil YC (@Ja _ _ _ _ _ (@pv _ 1 _ _ rfl (.inl rfl) rfl rfl) (@Jb _) rfl) rfl rfl rfl) rfl) (@Jd _ _ _ _ _ (@JG _ _ _ _ (@Jn _ _ _ _ _ _ _ _ _ _ _ _ _ _ _ T.Y6 (ZK T) (hr.mono (by decide)) YC (@Ja _ _ _ _ _ (@pv _ 2 _ _ rfl (.inl rfl) rfl rfl) (@Ja _ _ _ _ _ (@Yw _ _ _ _ _ (@pv _ 0 _ _ rfl (.inl rfl) rfl rfl) rfl) (@Jb _) rfl) rfl) rfl (by decide) rfl rfl) rfl) (@Jd _ _ _ _ _ (@JG _ _ _ _ (@Jn _ _ _ _ _ _ _ _ _ _ _ _ _ _ _ T.Y6 (ZK T) (hr.mono (by decide)) YC (@Ja _ _ _ _ _ (@pv _ 3 _ _ rfl (.inl rfl) rfl rfl) (@Ja _ _ _ _ _ (@Yw _ _ _ _ _ (@pv _ 0 _ _ rfl (.inl rfl) rfl rfl) rfl) (@Jb _) rfl) rfl) rfl (by decide) rfl rfl) rfl) (@Jg _ _ _ (@JG _ _ _ _ (@Jn _ _ _ _ _ _ _ _ _ _ _ _ _ _ _ T.JaC (Jcc T) (hr.mono (by decide)) YC (@Ja _ _ _ _ _ (@pv _ 4 _ _ rfl (.inl rfl) rfl rfl) (@Jb _) rfl) rfl (by decide) rfl rfl) rfl))))),?_⟩;obtain ⟨dx,l,rs,h1,h2,h3,h4⟩:=B.at_;obtain ⟨bdx,tp,tl,tg,hb,_⟩:=id B.B.B;have:=B.c0;have:=B.c1;have:=B.t1;refine ⟨_,rfl,k,_,dx,_,.ref b,rfl,h1,T.JJ,T.Yk,rfl,b,bdx,_,rfl,hb,rfl,_,rfl,b,z,ps,zs,gs,rfl,tz,B.B.B,fun hz=>?_,q1⟩;refine ⟨_,rfl,_,rfl,k,_,dx,_,.int t,rfl,h1,T.JJ,T.Jcd,rfl,m,t,rfl,⟨by omega,by omega⟩,fun hm=>?_,q2 hz⟩;refine ⟨_,rfl,_,rfl,k,_,dx,_,.int c,rfl,h1,T.JJ,T.ZY,rfl,north,c,rfl,⟨by omega,by omega⟩,fun hn=>?_,q3 hz hm⟩;exact ⟨_,rfl,x,rfl,tx,fun hx=>q ⟨hz,hm,hn,hx⟩,q4 hz hm hn⟩
theorem JaG (T:Txt K mg):JN P w K mg base (Y3 P w) 4 T.Jcm T.JbI ["self", "place", "turns", "north", "ribbon"] (Jla K T.JD T.JC T.YB T.J1 T.YZ):=by
 refine T.Ys.F.ok1 JgP (fun vs H Q E h=>?_) (fun cdv A outer s H vs Q E hr h=>?_)
 ·obtain ⟨_,_,_,_,_,_,_,_,_,_,_,rfl,_⟩:=h;rfl
 ·obtain ⟨k,b,z,x,m,north,ps,zs,gs,c,t,rfl,tz,tx,B,qe,q⟩:=h;have hu:=Jbg hr;refine ⟨_,(@Jd _ _ _ _ _ (@JG _ _ _ _ (@J0 _ _ _ _ _ _ _ _ _ _ _ _ _ _ _ _ _ _ _ _ (@pv _ 0 _ _ rfl (.inl rfl) rfl rfl) T.JJ T.Yh.m (Z3 T) (hr.mono (by decide)) T.Yh.b .nil YC (@Ja _ _ _ _ _ (@pv _ 1 _ _ rfl (.inl rfl) rfl rfl) (@Ja _ _ _ _ _ (@pv _ 2 _ _ rfl (.inl rfl) rfl rfl) (@Ja _ _ _ _ _ (@pv _ 3 _ _ rfl (.inl rfl) rfl rfl) (@Ja _ _ _ _ _ (@pv _ 4 _ _ rfl (.inl rfl) rfl rfl) (@Jb _) rfl) rfl) rfl) rfl) rfl rfl rfl) rfl) (@Jg _ _ _ (@Jt _ _ _ _ (@JdU _ _ _ _ _ _ _ _ (@Jp _ _ _ _ _ _ _ _ (@Jp5 _) (@pv _ 3 _ _ rfl (.inl rfl) rfl rfl) (@JdC _ _ _ _ _ _ hu (@JA _ _ _ _ _ _ _ (@J4 _) (@Yw _ _ _ _ _ (@pv _ 0 _ _ rfl (.inl rfl) rfl rfl) rfl) (@pv _ 2 _ _ rfl (.inl rfl) rfl rfl) (fun _ _=>rfl)) (@YG _ _ _ _ _ (@Ja _ _ _ _ _ (@pv _ 1 _ _ rfl (.inl rfl) rfl rfl) (@Ja _ _ _ _ _ (@pv _ 4 _ _ rfl (.inl rfl) rfl rfl) (@Jb _) rfl) rfl)) (fun _ _=>rfl)) (Ju _)) (@JR _ _ _ _) (@JR _ _ _ _))))),?_⟩;obtain ⟨dx,l,rs,h1,h2,h3,h4⟩:=B.at_;refine ⟨_,rfl,k,dx,_,rfl,h1,rfl,_,rfl,_,rfl,_,rfl,_,rfl,k,b,z,x,m,north,ps,zs,gs,c,t,rfl,tz,tx,B,qe,fun ⟨hz,hm,hn,hx⟩=>?_⟩;obtain ⟨r,rfl⟩:=JdI hx;obtain ⟨j,rfl⟩:∃ j:Nat,m=(j:Int):=⟨m.toNat,by omega⟩
  obtain ⟨a,ha⟩:∃ a,rs[j]?=some a:=⟨_,List.getElem?_eq_getElem (by omega)⟩
  obtain ⟨kvs,hk1,hk2⟩:=h4 j a ha;have hat:atI (rs.map V.ref) (j:Int)=some (.ref a):=JbN (by rw [List.getElem?_map,ha]; rfl);refine ⟨_,rfl,_,rfl,k,_,dx,_,.ref l,rfl,h1,T.JJ,T.Zu,rfl,_,rfl,l,_,_,.ref a,rfl,rfl,Js.of h2,hat,_,rfl,_,rfl,by show 2≤sizeLine; decide,fun p hp=>?_⟩;have g:=Ja7.t (k:=Z8 z r) ((Jf.upd (o:=.tup [.str z,.str (hs r)]) hp) _ _ hk1) (show upd H p (.tup [.str z,.str (hs r)]) p=some (.tup ((Z8 z r).map kV)) from Jh);rw [hk2 z hz r] at g;have q:=q hz hm hn r rfl _ (Jf.upd (o:=.tup [.str z,.str (hs r)]) hp);rw [Int.toNat_natCast] at q;refine ⟨a,_,rfl,g,_,_,rfl,rfl,_,rfl,YE (fun hc=>?_) (fun hc=>?_)⟩
  ·rw [hc] at q; exact q
  ·rw [Bool.not_eq_true] at hc; rw [hc] at q; exact q
theorem Jg0 (T:Txt K mg):JN P w K mg base (Y3 P w) 5 T.Jcn T.JbJ ["self", "place", "turns", "north", "ribbon"] (Jlj K T.JD T.JC T.YB T.J1 T.YZ):=by
 refine T.Ja1.F.ok1 Jdx (fun vs H Q E h=>?_) (fun cdv A outer s H vs Q E hr h=>?_)
 ·obtain ⟨_,_,_,_,_,_,_,_,_,_,_,rfl,_⟩:=h;rfl
 ·obtain ⟨k,b,z,x,m,north,ps,zs,gs,c,t,rfl,tz,tx,B,qe,q⟩:=h;refine ⟨_,(@Jd _ _ _ _ _ (@Jr _ _ 5 _ _ _ _ Jdx.nd rfl (Or.inl rfl) (@J0 _ _ _ _ _ _ _ _ _ _ _ _ _ _ _ _ _ _ _ _ (@pv _ 0 _ _ rfl (.inl rfl) rfl rfl) T.JJ T.Ys.m (JaG T) (hr.mono (by decide)) T.Ys.b .nil YC (@Ja _ _ _ _ _ (@pv _ 1 _ _ rfl (.inl rfl) rfl rfl) (@Ja _ _ _ _ _ (@pv _ 2 _ _ rfl (.inl rfl) rfl rfl) (@Ja _ _ _ _ _ (@pv _ 3 _ _ rfl (.inl rfl) rfl rfl) (@Ja _ _ _ _ _ (@pv _ 4 _ _ rfl (.inl rfl) rfl rfl) (@Jb _) rfl) rfl) rfl) rfl) rfl rfl rfl) rfl (.inl rfl)) (@Jd _ _ _ _ _ (@JL _ _ _ _ _ _ _ _ (@PW.pt _ _ _ (@ZQ _ _ _ _ _ _ _ (@Jp _ _ _ _ _ _ _ _ (@J2 _) (@pv _ 5 _ _ rfl (.inl rfl) rfl rfl) (@pv _ 4 _ _ rfl (.inl rfl) rfl rfl) (Ju _)) (@Jar _ _ _ _ (@JdB _ _ _ _ _ _ (@JdD _ _ _ _ _ (@Jn _ _ _ _ _ _ _ _ _ _ _ _ _ _ _ T.JcE (JdW T) (hr.mono (by decide)) Y1 (@Ja _ _ _ _ _ (@Yw _ _ _ _ _ (@pv _ 0 _ _ rfl (.inl rfl) rfl rfl) rfl) (@Ja _ _ _ _ _ (@pv _ 1 _ _ rfl (.inl rfl) rfl rfl) (@Ja _ _ _ _ _ (@pv _ 2 _ _ rfl (.inl rfl) rfl rfl) (@Jb _) rfl) rfl) rfl) rfl (by decide) rfl rfl)) (by first | exact ZE _ (by decide) (by decide) | rfl))))) (@Jg _ _ _ (@Jt _ _ _ _ (@Jb0 _ _ _))) (@Jw _)) (@Jd _ _ _ _ _ (@JL _ _ _ _ _ _ _ _ (@Jp _ _ _ _ _ _ _ _ (@J2 _) (@pv _ 4 _ _ rfl (.inl rfl) rfl rfl) (@JR _ _ _ _) (Ju _)) (@Jg _ _ _ (@Jt _ _ _ _ (@JS _ _ _ _ _ _ _ _ _ (@Jb4 _ rfl) rfl T.JdX PyProof.Rows.boot_max (@Ja _ _ _ _ _ (@Jc _ _ _ _) (@Ja _ _ _ _ _ (@Jl _ _ _ _ _ _ _ _ (@Yq _) (@J0 _ _ _ _ _ _ _ _ _ _ _ _ _ _ _ _ _ _ _ _ (@pv _ 0 _ _ rfl (.inl rfl) rfl rfl) T.JJ T.JX.m (ZB T) (hr.mono (by decide)) T.JX.b .nil JE (@Ja _ _ _ _ _ (@pv _ 1 _ _ rfl (.inl rfl) rfl rfl) (@Ja _ _ _ _ _ (@pv _ 2 _ _ rfl (.inl rfl) rfl rfl) (@Jb _) rfl) rfl) rfl rfl rfl) (@pv _ 3 _ _ rfl (.inl rfl) rfl rfl)) (@Jb _) rfl) rfl) (by decide) (by decide) rfl rfl))) (@Jw _)) (@Jg _ _ _ (@Jt _ _ _ _ (@JS _ _ _ _ _ _ _ _ _ (@Jb4 _ rfl) rfl T.JdX PyProof.Rows.boot_max (@Ja _ _ _ _ _ (@Jc _ _ _ _) (@Ja _ _ _ _ _ (@Jl _ _ _ _ _ _ _ _ (@JP _) (@Jl _ _ _ _ _ _ _ _ (@Yq _) (@pv _ 3 _ _ rfl (.inl rfl) rfl rfl) (@J0 _ _ _ _ _ _ _ _ _ _ _ _ _ _ _ _ _ _ _ _ (@pv _ 0 _ _ rfl (.inl rfl) rfl rfl) T.JJ T.JY.m (ZC T) (hr.mono (by decide)) T.JY.b .nil JE (@Ja _ _ _ _ _ (@pv _ 1 _ _ rfl (.inl rfl) rfl rfl) (@Ja _ _ _ _ _ (@pv _ 2 _ _ rfl (.inl rfl) rfl rfl) (@Jb _) rfl) rfl) rfl rfl rfl)) (@Jc _ _ _ _)) (@Jb _) rfl) rfl) (by decide) (by decide) rfl rfl)))))),?_⟩;obtain ⟨dx,l,rs,h1,h2,h3,h4⟩:=B.at_;refine ⟨_,rfl,k,dx,_,rfl,h1,rfl,_,rfl,_,rfl,_,rfl,_,rfl,k,b,z,x,m,north,ps,zs,gs,c,t,rfl,tz,tx,B,qe,fun hz hm hn r hx H1 e1=>?_⟩;subst hx;obtain ⟨j,rfl⟩:∃ j:Nat,m=(j:Int):=⟨m.toNat,by omega⟩
  have q:=fun H' e=>q hz hm hn r rfl H' e
  simp only [Int.toNat_natCast] at q ⊢;have t1:=B.t1;refine ⟨_,rfl,_,rfl,rfl,_,rfl,?_⟩;have ev:=JfP (z:=z) (m:=j) (zs:=zs.map (·.2)) (gs:=gs);cases hd:decide (JU (zs.map (·.2)) gs c j z r≤north) == r with
  | true =>
   have hd':decide (JU (zs.map (·.2)) gs c j z r≤north)=r:=by simpa using hd
   rw [hd'];refine YH (decide_eq_true rfl) (YU ?_);have e:JeK (zs.map (·.2)) gs c j z north r=.non:=by
    unfold JeK;by_cases he:Yl (zs.map (·.2)) gs j z
    ·rw [if_pos he]
    ·rw [if_neg he,hd',if_neg (by cases r <;> decide)]
   rw [e] at q;exact q H1 e1
  | false =>
   have hd':decide (JU (zs.map (·.2)) gs c j z r≤north)=!r:=by
    revert hd
    cases decide (JU (zs.map (·.2)) gs c j z r≤north) <;> cases r <;> decide
   rw [hd'];refine J3 (decide_eq_false (fun e=>by have:=Yx (V.str.inj e); cases r <;> cases this)) ?_;refine ⟨_,rfl,k,_,dx,_,.ref b,rfl,e1 _ _ h1,T.JJ,T.Yk,rfl,_,rfl,_,rfl,b,z,j,ps,zs,gs,rfl,tz,B.B.zl,(B.B.same e1).B,fun h=>absurd hz h,fun _ h=>absurd (by omega) h,fun _ _ H2 e2=>?_⟩;have e12:=e1.trans e2;by_cases he:Yl (zs.map (·.2)) gs j z
   ·obtain ⟨y,hy⟩:=ev.1 he;rw [hy];have e:JeK (zs.map (·.2)) gs c j z north r=.non:=by unfold JeK; rw [if_pos he]
    rw [e] at q;exact ⟨_,rfl,YU (q H2 e12)⟩
   ·rw [ev.2 he];refine ⟨_,rfl,Zk ?_⟩;have hw:Jm (zs.map (·.2)) z≠[]:=fun h=>he (.inr (.inr h))
    obtain ⟨i,rfl⟩:∃ i,j=i + 1:=⟨j - 1,by have:j≠0:=fun h=>he (.inr (.inl h)); omega⟩
    have e:JeK (zs.map (·.2)) gs c (i + 1) z north r=.int (Z9 (Jm (zs.map (·.2))) (gB gs) c i z north r):=by unfold JeK; rw [if_neg he,hd',if_pos rfl]; rfl
    rw [e] at q;refine ⟨_,rfl,rfl,_,rfl,?_⟩;cases r with
    | false =>
     refine YH (by decide +kernel) ?_;refine ⟨_,rfl,k,dx,_,rfl,e12 _ _ h1,rfl,_,rfl,_,rfl,k,b,z,i,ps,zs,gs,c,t,t + 1,rfl,B.same e12,by omega,hz,hw,fun H3 e3=>?_⟩;exact ⟨_,rfl,_,_,rfl,rfl,_,_,rfl,q H3 (e12.trans e3)⟩
    | true =>
     refine J3 (by decide +kernel) ?_;refine ⟨_,rfl,_,rfl,k,dx,_,rfl,e12 _ _ h1,rfl,_,rfl,_,rfl,k,b,z,i,ps,zs,gs,c,t,t + 1,rfl,B.same e12,by omega,hz,hw,fun H3 e3=>?_⟩;exact ⟨_,_,rfl,rfl,_,_,rfl,rfl,_,_,rfl,q H3 (e12.trans e3)⟩
theorem Jdb (T:Txt K mg):JN P w K mg base (Y3 P w) 5 T.JbL T.Jbk ["self", "place", "turns", "north", "ribbon", "hand"] (Jkh K T.JD T.JC T.YB T.J1 T.YZ):=by
 refine T.Zd.F.ok1 Jc9 (fun vs H Q E h=>?_) (fun cdv A outer s H vs Q E hr h=>?_)
 ·obtain ⟨_,_,_,_,_,_,_,_,_,_,_,_,rfl,_⟩:=h;rfl
 ·obtain ⟨k,b,z,x,y,m,north,ps,zs,gs,c,t,rfl,tz,tx,ty,B,qe,qh,q⟩:=h;refine ⟨_,(@Jd _ _ _ _ _ (@JG _ _ _ _ (@J0 _ _ _ _ _ _ _ _ _ _ _ _ _ _ _ _ _ _ _ _ (@pv _ 0 _ _ rfl (.inl rfl) rfl rfl) T.JJ T.Yh.m (Z3 T) (hr.mono (by decide)) T.Yh.b .nil YC (@Ja _ _ _ _ _ (@pv _ 1 _ _ rfl (.inl rfl) rfl rfl) (@Ja _ _ _ _ _ (@pv _ 2 _ _ rfl (.inl rfl) rfl rfl) (@Ja _ _ _ _ _ (@pv _ 3 _ _ rfl (.inl rfl) rfl rfl) (@Ja _ _ _ _ _ (@pv _ 4 _ _ rfl (.inl rfl) rfl rfl) (@Jb _) rfl) rfl) rfl) rfl) rfl rfl rfl) rfl) (@Jd _ _ _ _ _ (@JG _ _ _ _ (@Jn _ _ _ _ _ _ _ _ _ _ _ _ _ _ _ T.JaC (Jcc T) (hr.mono (by decide)) YC (@Ja _ _ _ _ _ (@pv _ 5 _ _ rfl (.inl rfl) rfl rfl) (@Jb _) rfl) rfl (by decide) rfl rfl) rfl) (@Jd _ _ _ _ _ (@JL _ _ _ _ _ _ _ _ (@JdB _ _ _ _ _ _ (@JdD _ _ _ _ _ (@Jn _ _ _ _ _ _ _ _ _ _ _ _ _ _ _ T.JcE (JdW T) (hr.mono (by decide)) Y1 (@Ja _ _ _ _ _ (@Yw _ _ _ _ _ (@pv _ 0 _ _ rfl (.inl rfl) rfl rfl) rfl) (@Ja _ _ _ _ _ (@pv _ 1 _ _ rfl (.inl rfl) rfl rfl) (@Ja _ _ _ _ _ (@pv _ 2 _ _ rfl (.inl rfl) rfl rfl) (@Jb _) rfl) rfl) rfl) rfl (by decide) rfl rfl)) (by first | exact ZE _ (by decide) (by decide) | rfl)) (@Jg _ _ _ (@Jt _ _ _ _ (@Jb0 _ _ _))) (@Jw _)) (@Jd _ _ _ _ _ (@Yv _ _ _ _ _ _ _ _ PassesOwn.leaving rfl (@JcP _ _ _ _ (@J0 _ _ _ _ _ _ _ _ _ _ _ _ _ _ _ _ _ _ _ _ (@Yw _ _ _ _ _ (@pv _ 0 _ _ rfl (.inl rfl) rfl rfl) rfl) T.Yr T.Yz.m (JaY T) (hr.mono (by decide)) T.Yz.b .nil Y1 (@Ja _ _ _ _ _ (@pv _ 1 _ _ rfl (.inl rfl) rfl rfl) (@Jb _) rfl) rfl rfl rfl)) (@JV _ _ 6 _ Jc9.nd rfl (Or.inl rfl) (.inl rfl)) (@Jg _ _ _ (@JL _ _ _ _ _ _ _ _ (@Jp _ _ _ _ _ _ _ _ (@J2 _) (@J0 _ _ _ _ _ _ _ _ _ _ _ _ _ _ _ _ _ _ _ _ (@pv _ 0 _ _ rfl (.inl rfl) rfl rfl) T.JJ T.Ys.m (JaG T) (hr.mono (by decide)) T.Ys.b .nil Y1 (@Ja _ _ _ _ _ (@pv _ 6 _ _ rfl (.inl rfl) rfl rfl) (@Ja _ _ _ _ _ (@Jl _ _ _ _ _ _ _ _ (@Yq _) (@pv _ 2 _ _ rfl (.inl rfl) rfl rfl) (@Jc _ _ _ _)) (@Ja _ _ _ _ _ (@pv _ 3 _ _ rfl (.inl rfl) rfl rfl) (@Ja _ _ _ _ _ (@pv _ 4 _ _ rfl (.inl rfl) rfl rfl) (@Jb _) rfl) rfl) rfl) rfl) rfl rfl rfl) (@pv _ 5 _ _ rfl (.inl rfl) rfl rfl) (Ju _)) (@Jg _ _ _ (@Jt _ _ _ _ (@pv _ 6 _ _ rfl (.inl rfl) rfl rfl))) (@Jw _))) (by intro _; rfl)) (@Jg _ _ _ (@Jt _ _ _ _ (@Jb0 _ _ _))))))),?_⟩;obtain ⟨dx,l,rs,h1,h2,h3,h4⟩:=B.at_;refine ⟨_,rfl,k,dx,_,rfl,h1,rfl,_,rfl,_,rfl,_,rfl,_,rfl,k,b,z,x,m,north,ps,zs,gs,c,t,rfl,tz,tx,B,qe,fun hok=>?_⟩;refine ⟨_,rfl,y,rfl,ty,fun hy=>?_,qh hok⟩;obtain ⟨hz,hm,hn,hx⟩:=hok;obtain ⟨r,rfl⟩:=JdI hx;obtain ⟨h,rfl⟩:=JdI hy;obtain ⟨j,rfl⟩:∃ j:Nat,m=(j:Int):=⟨m.toNat,by omega⟩
  have q:=fun H' e=>q hz hm hn r h rfl rfl H' e
  simp only [Int.toNat_natCast] at q;have t1:=B.t1;have ev:=JfP (z:=z) (m:=j) (zs:=zs.map (·.2)) (gs:=gs);refine ⟨_,rfl,k,_,dx,_,.ref b,rfl,h1,T.JJ,T.Yk,rfl,_,rfl,_,rfl,b,z,j,ps,zs,gs,rfl,tz,B.B.zl,B.B.B,fun h=>absurd hz h,fun _ h=>absurd (by omega) h,fun _ _ H1 e1=>?_⟩;by_cases he:Yl (zs.map (·.2)) gs j z
  ·obtain ⟨y,hy⟩:=ev.1 he;rw [hy];have e:Jcv (zs.map (·.2)) gs c j z north r h=.non:=by unfold Jcv; rw [if_pos he]
   rw [e] at q;exact ⟨_,rfl,YU (q H1 e1)⟩
  ·rw [ev.2 he];refine ⟨_,rfl,Zk ?_⟩;obtain ⟨i,rfl⟩:∃ i,j=i + 1:=⟨j - 1,by have:j≠0:=fun h=>he (.inr (.inl h)); omega⟩
   have e:Jcv (zs.map (·.2)) gs c (i + 1) z north r h=Jek (Yt (Jm (zs.map (·.2))) (gB gs) c i z north r h):=by unfold Jcv; rw [if_neg he]; rfl
   rw [e] at q;obtain ⟨bdx,tp,tl,tg,hb,_⟩:=id B.B.B;refine ⟨_,rfl,k,_,dx,_,.ref b,rfl,e1 _ _ h1,T.JJ,T.Yk,rfl,b,bdx,_,rfl,e1 _ _ hb,rfl,_,rfl,b,z,ps,zs,gs,rfl,tz,B.B.zl,(B.B.same e1).B,fun _ tw H2 e2 ht=>?_,fun h=>absurd hz h⟩;have e12:=e1.trans e2;refine ⟨tw,rfl,⟨_,JK.of ht⟩,?_⟩;refine Je7 (xs:=(Jm (zs.map (·.2)) z).map V.str) (fun n σ H3=>Jf H2 H3∧(∀ w∈(Jm (zs.map (·.2)) z).take n,(decide (JU (zs.map (·.2)) gs c i w r≤north) == h)=false)∧∃ v,σ=[some (.ref k),some (.str z),some (.int ((i:Int) + 1)),some (.int north),some (.str (hs r)),some (.str (hs h)),v]) ⟨Jf.refl _,fun w hw=>by simp at hw,none,rfl⟩ (fun n σ H3 _ p=>JK.of (p.1 _ _ ht)) ?_ ?_
   ·rintro n x σ H3 hx ⟨e3,hf,v,rfl⟩;rw [List.getElem?_map] at hx;obtain ⟨w',hw1,rfl⟩:=Option.map_eq_some_iff.mp hx;have hin:=Jds B.B.G (List.mem_of_getElem? hw1);have e13:=e12.trans e3;refine ⟨_,rfl,k,dx,_,rfl,e13 _ _ h1,rfl,_,rfl,_,rfl,_,_,rfl,rfl,_,rfl,_,rfl,k,b,w',hs r,(i:Int) + 1 - 1,north,ps,zs,gs,c,t,rfl,YI (B.B.G.p3 w' hin),ZH r,B.same e13,Jal ⟨hin,⟨by omega,by omega⟩,hn,Y0 r⟩,fun _ _ _ r' hr' H4 e4=>?_⟩;obtain rfl:=Yx hr';have ei:((i:Int) + 1 - 1).toNat=i:=by omega
    rw [ei];refine ⟨_,rfl,rfl,_,rfl,?_⟩;cases hd:decide (JU (zs.map (·.2)) gs c i w' r≤north) == h with
    | true =>
     have hd':decide (JU (zs.map (·.2)) gs c i w' r≤north)=h:=by simpa using hd
     rw [hd'];refine YH (decide_eq_true rfl) ⟨_,rfl,?_⟩;have es:Yt (Jm (zs.map (·.2))) (gB gs) c i z north r h=some w':=JjY hw1 hf hd;rw [es] at q;exact q H4 (e13.trans e4)
    | false =>
     refine J3 (decide_eq_false fun e=>?_) ⟨e3.trans e4,fun w hw=>?_,_,rfl⟩
     ·rw [Yx (V.str.inj e)] at hd;simp at hd
     ·rw [List.take_succ,hw1] at hw;rcases List.mem_append.mp hw with h' | h'
      ·exact hf w h'
      ·have h':w=w':=by simpa using h'
       subst h';exact hd
   ·rintro σ H3 ⟨e3,hf,v,rfl⟩;rw [List.length_map,List.take_length] at hf;have es:Yt (Jm (zs.map (·.2))) (gB gs) c i z north r h=none:=by
     unfold Yt;rw [List.find?_eq_none];intro w hw;rw [hf w hw]; exact Bool.false_ne_true
    rw [es] at q;exact q H3 (e12.trans e3)
theorem Jd7 (T:Txt K mg):JN P w K mg base YO 6 T.JaA T.Z5 ["self", "place", "turns", "settled", "holder"] (JmK K T.JD T.JC):=by
 refine T.ZD.F.ok Z1 (fun vs H Q E h=>?_) (fun cdv A outer s H vs Q E hr h=>?_)
 ·obtain ⟨_,_,_,_,_,_,_,_,_,_,_,_,_,_,_,rfl,_⟩:=h;rfl
 ·obtain ⟨k,b,p,z,m,l,r,h,n,s',ps,zs,gs,c,t,rfl,hp,B,hz,hm,hn,he,q⟩:=h;refine ⟨_,(@Jd _ _ _ _ _ (@Jr _ _ 5 _ _ _ _ Z1.nd rfl (Or.inl rfl) (@JA _ _ _ _ _ _ _ (@JM _) (@pv _ 3 _ _ rfl (.inl rfl) rfl rfl) (@Jc _ _ _ _) (fun _ _=>rfl)) rfl (.inl rfl)) (@Jd _ _ _ _ _ (@Jr _ _ 6 _ _ _ _ Z1.nd rfl (Or.inl rfl) (@J0 _ _ _ _ _ _ _ _ _ _ _ _ _ _ _ _ _ _ _ _ (@pv _ 0 _ _ rfl (.inl rfl) rfl rfl) T.JJ T.Zd.m (Jdb T) (hr.mono (by decide)) T.Zd.b .nil Y1 (@Ja _ _ _ _ _ (@pv _ 1 _ _ rfl (.inl rfl) rfl rfl) (@Ja _ _ _ _ _ (@pv _ 2 _ _ rfl (.inl rfl) rfl rfl) (@Ja _ _ _ _ _ (@JA _ _ _ _ _ _ _ (@JM _) (@pv _ 3 _ _ rfl (.inl rfl) rfl rfl) (@Jc _ _ _ _) (fun _ _=>rfl)) (@Ja _ _ _ _ _ (@JA _ _ _ _ _ _ _ (@JM _) (@pv _ 3 _ _ rfl (.inl rfl) rfl rfl) (@Jc _ _ _ _) (fun _ _=>rfl)) (@Ja _ _ _ _ _ (@pv _ 5 _ _ rfl (.inl rfl) rfl rfl) (@Jb _) rfl) rfl) rfl) rfl) rfl) rfl rfl rfl) rfl (.inl rfl)) (@Jd _ _ _ _ _ (@JL _ _ _ _ _ _ _ _ (@Jp _ _ _ _ _ _ _ _ (@J2 _) (@pv _ 5 _ _ rfl (.inl rfl) rfl rfl) (@pv _ 4 _ _ rfl (.inl rfl) rfl rfl) (Ju _)) (@Jg _ _ _ (@Jt _ _ _ _ (@Jlu _ _ _ _ _ _ (@JdD _ _ _ _ _ (@pv _ 6 _ _ rfl (.inl rfl) rfl rfl)) (by first | exact ZE _ (by decide) (by decide) | rfl)))) (@Jw _)) (@Jg _ _ _ (@Jt _ _ _ _ (@Jlu _ _ _ _ _ _ (@Jlv _ _ _ _ _ (@pv _ 6 _ _ rfl (.inl rfl) rfl rfl)) (by first | exact ZE _ (by decide) (by decide) | rfl))))))),?_⟩;obtain ⟨dx,l',rs,h1,h2,h3,h4⟩:=B.at_;refine ⟨_,rfl,p,_,_,.str (hs l),rfl,rfl,JK.of hp,rfl,?_⟩;refine ⟨_,rfl,k,dx,_,rfl,h1,rfl,_,rfl,_,rfl,_,rfl,p,_,_,.int n,rfl,rfl,JK.of hp,rfl,_,rfl,p,_,_,.str (hs r),rfl,rfl,JK.of hp,rfl,_,rfl,?_⟩;refine ⟨k,b,z,hs r,hs l,(m:Int) + 1,n,ps,zs,gs,c,t,rfl,YI (B.B.G.p3 z hz),ZH r,ZH l,B,Jal ⟨hz,⟨by omega,by omega⟩,hn,Y0 r⟩,fun _ h=>(by rw [Y0] at h; cases h),fun _ _ _ r' l'' hr' hl' H1 e1=>?_⟩;obtain rfl:=Yx hr';obtain rfl:=Yx hl';have ei:((m:Int) + 1).toNat=m + 1:=by omega
  have es:Jcv (zs.map (·.2)) gs c ((m:Int) + 1).toNat z n r l=Jek (Yt (Jm (zs.map (·.2))) (gB gs) c m z n r l):=by rw [ei]; unfold Jcv; rw [if_neg he]; rfl
  rw [es];have q:=q H1 e1;refine ⟨_,rfl,_,rfl,rfl,_,rfl,?_⟩;cases hs':Yt (Jm (zs.map (·.2))) (gB gs) c m z n r l with
  | none =>
   rw [hs'] at q;by_cases hlh:l=h
   ·subst hlh;refine YH (decide_eq_true rfl) ⟨_,rfl,?_⟩;simpa [Jek] using q
   ·refine J3 (decide_eq_false fun e=>hlh (Yx (V.str.inj e))) ⟨_,rfl,?_⟩;have:(l == h)=false:=by simpa using hlh
    rw [this] at q;simpa [Jek] using q
  | some w' =>
   rw [hs'] at q;by_cases hlh:l=h
   ·subst hlh;refine YH (decide_eq_true rfl) ⟨_,rfl,?_⟩;simpa [Jek] using q
   ·refine J3 (decide_eq_false fun e=>hlh (Yx (V.str.inj e))) ⟨_,rfl,?_⟩;have:(l == h)=false:=by simpa using hlh
    rw [this] at q;simpa [Jek] using q
theorem Jfg (T:Txt K mg):JN P w K mg base (Y3 P w) 7 T.Ja6 T.JaQ ["self", "place", "turns", "north", "ribbon", "bid"] (Jir K T.JD T.JC T.YB T.J1 T.YZ T.JbB):=by
 refine T.ZT.F.ok1 JaN (fun vs H Q E h=>?_) (fun cdv A outer s H vs Q E hr h=>?_)
 ·obtain ⟨_,_,_,_,_,_,_,_,_,_,_,_,rfl,_⟩:=h;rfl
 ·obtain ⟨k,b,z,x,m,north,bid,ps,zs,gs,c,t,rfl,tz,tx,B,qe,qb,q⟩:=h;refine ⟨_,(@Jd _ _ _ _ _ (@JG _ _ _ _ (@J0 _ _ _ _ _ _ _ _ _ _ _ _ _ _ _ _ _ _ _ _ (@pv _ 0 _ _ rfl (.inl rfl) rfl rfl) T.JJ T.Yh.m (Z3 T) (hr.mono (by decide)) T.Yh.b .nil YC (@Ja _ _ _ _ _ (@pv _ 1 _ _ rfl (.inl rfl) rfl rfl) (@Ja _ _ _ _ _ (@pv _ 2 _ _ rfl (.inl rfl) rfl rfl) (@Ja _ _ _ _ _ (@pv _ 3 _ _ rfl (.inl rfl) rfl rfl) (@Ja _ _ _ _ _ (@pv _ 4 _ _ rfl (.inl rfl) rfl rfl) (@Jb _) rfl) rfl) rfl) rfl) rfl rfl rfl) rfl) (@Jd _ _ _ _ _ (@Jr _ _ 6 _ _ _ _ JaN.nd rfl (Or.inl rfl) (@Jl _ _ _ _ _ _ _ _ (@Yq _) (@Yw _ _ _ _ _ (@pv _ 0 _ _ rfl (.inl rfl) rfl rfl) rfl) (@pv _ 3 _ _ rfl (.inl rfl) rfl rfl)) rfl (.inl rfl)) (@Jd _ _ _ _ _ (@JG _ _ _ _ (@Jn _ _ _ _ _ _ _ _ _ _ _ _ _ _ _ T.JaW (JcQ T) (hr.mono (by decide)) YC (@Ja _ _ _ _ _ (@pv _ 5 _ _ rfl (.inl rfl) rfl rfl) (@Ja _ _ _ _ _ (@Jn _ _ _ _ _ _ _ _ _ _ _ _ _ _ _ T.JaJ (JbR T) (hr.mono (by decide)) JE (@Ja _ _ _ _ _ (@Jn _ _ _ _ _ _ _ _ _ _ _ _ _ _ _ T.Jfe (JiR T) (hr.mono (by decide)) Y1 (@Ja _ _ _ _ _ (@pv _ 4 _ _ rfl (.inl rfl) rfl rfl) (@Jb _) rfl) rfl (by decide) rfl rfl) (@Ja _ _ _ _ _ (@pv _ 3 _ _ rfl (.inl rfl) rfl rfl) (@Ja _ _ _ _ _ (@pv _ 6 _ _ rfl (.inl rfl) rfl rfl) (@Jb _) rfl) rfl) rfl) rfl (by decide) rfl rfl) (@Jb _) rfl) rfl) rfl (by decide) rfl rfl) rfl) (@Jd _ _ _ _ _ (@JL _ _ _ _ _ _ _ _ (@JdB _ _ _ _ _ _ (@JdD _ _ _ _ _ (@Jn _ _ _ _ _ _ _ _ _ _ _ _ _ _ _ T.JcE (JdW T) (hr.mono (by decide)) Y1 (@Ja _ _ _ _ _ (@Yw _ _ _ _ _ (@pv _ 0 _ _ rfl (.inl rfl) rfl rfl) rfl) (@Ja _ _ _ _ _ (@pv _ 1 _ _ rfl (.inl rfl) rfl rfl) (@Ja _ _ _ _ _ (@pv _ 2 _ _ rfl (.inl rfl) rfl rfl) (@Jb _) rfl) rfl) rfl) rfl (by decide) rfl rfl)) (by first | exact ZE _ (by decide) (by decide) | rfl)) (@Jg _ _ _ (@Jt _ _ _ _ (@Jb0 _ _ _))) (@Jw _)) (@Jd _ _ _ _ _ (@Yv _ _ _ _ _ _ _ _ PassesOwn.leaving rfl (@JcP _ _ _ _ (@YG _ _ _ _ _ (@Ja _ _ _ _ _ (@Jc _ _ _ _) (@Ja _ _ _ _ _ (@pv _ 5 _ _ rfl (.inl rfl) rfl rfl) (@Jb _) rfl) rfl))) (@JV _ _ 7 _ JaN.nd rfl (Or.inl rfl) (.inl rfl)) (@Jg _ _ _ (@JL _ _ _ _ _ _ _ _ (@Jp _ _ _ _ _ _ _ _ (@Jp4 _) (@pv _ 7 _ _ rfl (.inl rfl) rfl rfl) (@Jn _ _ _ _ _ _ _ _ _ _ _ _ _ _ _ T.JaJ (JbR T) (hr.mono (by decide)) JE (@Ja _ _ _ _ _ (@pv _ 4 _ _ rfl (.inl rfl) rfl rfl) (@Ja _ _ _ _ _ (@pv _ 3 _ _ rfl (.inl rfl) rfl rfl) (@Ja _ _ _ _ _ (@pv _ 6 _ _ rfl (.inl rfl) rfl rfl) (@Jb _) rfl) rfl) rfl) rfl (by decide) rfl rfl) (Ju _)) (@Jg _ _ _ (@JL _ _ _ _ _ _ _ _ (@JbZ _ _ _ (@J0 _ _ _ _ _ _ _ _ _ _ _ _ _ _ _ _ _ _ _ _ (@pv _ 0 _ _ rfl (.inl rfl) rfl rfl) T.JJ T.ZD.m (Jd7 T) (hr.mono (by decide)) T.ZD.b .nil JE (@Ja _ _ _ _ _ (@pv _ 1 _ _ rfl (.inl rfl) rfl rfl) (@Ja _ _ _ _ _ (@pv _ 2 _ _ rfl (.inl rfl) rfl rfl) (@Ja _ _ _ _ _ (@Jn _ _ _ _ _ _ _ _ _ _ _ _ _ _ _ T.JfY (JlC T) (hr.mono (by decide)) Y1 (@Ja _ _ _ _ _ (@pv _ 3 _ _ rfl (.inl rfl) rfl rfl) (@Ja _ _ _ _ _ (@pv _ 6 _ _ rfl (.inl rfl) rfl rfl) (@Ja _ _ _ _ _ (@pv _ 4 _ _ rfl (.inl rfl) rfl rfl) (@Ja _ _ _ _ _ (@pv _ 5 _ _ rfl (.inl rfl) rfl rfl) (@Ja _ _ _ _ _ (@pv _ 7 _ _ rfl (.inl rfl) rfl rfl) (@Jb _) rfl) rfl) rfl) rfl) rfl) rfl (by decide) rfl rfl) (@Ja _ _ _ _ _ (@pv _ 4 _ _ rfl (.inl rfl) rfl rfl) (@Jb _) rfl) rfl) rfl) rfl) rfl rfl rfl) (by intro _; rfl)) (@Jg _ _ _ (@Jt _ _ _ _ (@pv _ 7 _ _ rfl (.inl rfl) rfl rfl))) (@Jw _))) (@Jw _))) (by intro _; rfl)) (@Jg _ _ _ (@Jt _ _ _ _ (@Jb0 _ _ _)))))))),?_⟩
  try dsimp only [cxK,Jdo]
  obtain ⟨dx,l,rs,h1,h2,h3,h4⟩:=B.at_;refine ⟨_,rfl,k,dx,_,rfl,h1,rfl,_,rfl,_,rfl,_,rfl,_,rfl,k,b,z,x,m,north,ps,zs,gs,c,t,rfl,tz,tx,B,qe,fun hok=>?_⟩;obtain ⟨hz,hm,hn,hx⟩:=hok;obtain ⟨r,rfl⟩:=JdI hx;obtain ⟨j,rfl⟩:∃ j:Nat,m=(j:Int):=⟨m.toNat,by omega⟩
  have qb:=qb hz hm hn r rfl;have q:=fun hb H' e=>q hz hm hn r rfl hb H' e
  simp only [Int.toNat_natCast] at q;have t1:=B.t1;have c1:=B.c1;have ev:=JfP (z:=z) (m:=j) (zs:=zs.map (·.2)) (gs:=gs);have eo:∀ r:Bool,(if r then north else c - north)=own c north r:=fun r=>rfl
  refine ⟨_,rfl,k,_,dx,_,.int c,rfl,h1,T.JJ,T.ZY,rfl,_,rfl,_,_,rfl,rfl,?_⟩;refine ⟨_,rfl,_,rfl,hs r,rfl,ZH r,fun r' hr'=>?_,fun h=>by rw [Y0] at h; cases h⟩;obtain rfl:=Yx hr';refine ⟨_,rfl,_,rfl,!r,north,c - north,rfl,bid,_,rfl,fun hb=>?_,qb⟩;have q:=q hb;have hb:0≤bid∧bid≤own c north (!r):=hb;refine ⟨_,rfl,k,_,dx,_,.ref b,rfl,h1,T.JJ,T.Yk,rfl,_,rfl,_,rfl,b,z,j,ps,zs,gs,rfl,tz,B.B.zl,B.B.B,fun h=>absurd hz h,fun _ h=>absurd (by omega) h,fun _ _ H1 e1=>?_⟩;by_cases he:Yl (zs.map (·.2)) gs j z
  ·obtain ⟨y,hy⟩:=ev.1 he;rw [hy];have e:JfT (zs.map (·.2)) gs c j z north r bid=.non:=by unfold JfT; rw [if_pos he]
   rw [e] at q;exact ⟨_,rfl,YU (q H1 e1)⟩
  ·rw [ev.2 he];refine ⟨_,rfl,Zk ?_⟩;obtain ⟨i,rfl⟩:∃ i,j=i + 1:=⟨j - 1,by have:j≠0:=fun h=>he (.inr (.inl h)); omega⟩
   have e:JfT (zs.map (·.2)) gs c (i + 1) z north r bid=Jm9 (ZM (Jm (zs.map (·.2))) (gB gs) c i z north r bid):=by unfold JfT; rw [if_neg he]; rfl
   rw [e] at q;have hon:0≤own c north r:=by unfold own; split <;> omega
   refine ⟨_,rfl,by show 2≤sizeLine; decide,fun tp ntp=>⟨tp,rfl,⟨_,JK.of Jh⟩,?_⟩⟩;have ht:upd H1 tp (.tup [.int 0,.int bid]) tp=some (.tup [.int 0,.int bid]):=Jh;have e2:=e1.trans (Jf.upd (o:=.tup [.int 0,.int bid]) ntp);generalize upd H1 tp (.tup [.int 0,.int bid])=H2 at ht e2;refine Je7 (xs:=[.int 0,.int bid]) (fun n σ H3=>Jf H H3∧H3 tp=some (.tup [.int 0,.int bid])∧(0 < n→¬ Y4 (Jm (zs.map (·.2))) (gB gs) c i z north r bid 0=true)∧(1 < n→¬ (bid≤own c north r∧Y4 (Jm (zs.map (·.2))) (gB gs) c i z north r bid bid=true))∧∃ v,σ=[some (.ref k),some (.str z),some (.int ((i:Int) + 1)),some (.int north),some (.str (hs r)),some (.int bid),some (.int (c - north)),v])
    ⟨e2,ht,fun h=>absurd h (by decide),fun h=>absurd h (by decide),none,rfl⟩ (fun n σ H3 _ p=>JK.of p.2.1) ?_ ?_
   ·rintro n x σ H3 hx ⟨e3,ht3,hf0,hf1,v,rfl⟩;obtain ⟨an,rfl,han⟩:∃ an:Int,x=.int an∧((n=0∧an=0)∨(n=1∧an=bid)):=by
     match n,hx with
     | 0,h=>exact ⟨0,(Option.some.inj h).symm,.inl ⟨rfl,rfl⟩⟩
     | 1,h=>exact ⟨bid,(Option.some.inj h).symm,.inr ⟨rfl,rfl⟩⟩
     | n + 2,h=>cases h
    have ha0:0≤an:=by rcases han with h | h <;> omega
    refine ⟨_,rfl,_,rfl,_,rfl,_,rfl,r,north,c - north,rfl,_,_,rfl,rfl,_,rfl,YE (fun hc=>?_) (fun hc=>?_)⟩
    ·have hc:an≤own c north r:=of_decide_eq_true hc;refine ⟨_,rfl,k,dx,_,rfl,e3 _ _ h1,rfl,_,rfl,_,rfl,_,rfl,_,rfl,_,rfl,_,rfl,_,rfl,north,c - north,hs r,bid,an,rfl,ZH r,?_,?_,?_,?_⟩
     ·exact fun h=>absurd ⟨hn.1,by omega,by omega⟩ h
     ·exact fun _ h=>(by rw [Y0] at h; cases h)
     ·intro r' hr' _ h;obtain rfl:=Yx hr';refine absurd ⟨⟨hb.1,?_⟩,ha0,hc⟩ h;have:=hb.2; unfold own at this; cases r <;> simpa using this
     ·intro r' hr' _ _ p H4 e4 hp;obtain rfl:=Yx hr';obtain ⟨s',hs'⟩:=Jgd north (c - north) r bid an;rw [hs'] at hp;have ab:=Jjn (r:=r) hn hb.1 hb.2 ha0 hc;refine ⟨_,rfl,k,b,p,z,i,_,_,r,_,s',ps,zs,gs,c,t,rfl,hp,B.same (e3.trans e4),hz,by omega,ab,he,fun H5 e5=>?_⟩;have e35:=(e3.trans e4).trans e5;cases hwin:Y4 (Jm (zs.map (·.2))) (gB gs) c i z north r bid an with
      | true =>
       have hwin':=hwin;unfold Y4 at hwin';rw [hwin'];refine ⟨_,rfl,YU ⟨_,rfl,?_⟩⟩;have ea:ZM (Jm (zs.map (·.2))) (gB gs) c i z north r bid=some an:=by
        unfold ZM;rcases han with ⟨rfl,rfl⟩ | ⟨rfl,rfl⟩
        ·rw [if_pos hwin]
        ·rw [if_neg (hf0 (by decide)),if_pos ⟨hc,hwin⟩]
       rw [ea] at q;exact q H5 e35
      | false =>
       have hwin':=hwin;unfold Y4 at hwin';rw [hwin'];refine ⟨_,rfl,Zk ⟨e35,e5 _ _ (e4 _ _ ht3),fun h=>?_,fun h=>?_,_,rfl⟩⟩
       ·rcases han with ⟨rfl,rfl⟩ | ⟨rfl,rfl⟩
        ·rw [hwin]; exact Bool.false_ne_true
        ·exact hf0 (by decide)
       ·rcases han with ⟨rfl,rfl⟩ | ⟨rfl,rfl⟩
        ·exact absurd h (by decide)
        ·rw [hwin]; exact fun h=>Bool.false_ne_true h.2
    ·have hc:¬ an≤own c north r:=fun h=>hc (decide_eq_true h)
     refine ⟨e3,ht3,fun h=>?_,fun h=>?_,_,rfl⟩
     ·rcases han with ⟨rfl,rfl⟩ | ⟨rfl,rfl⟩
      ·exact absurd hon hc
      ·exact hf0 (by decide)
     ·rcases han with ⟨rfl,rfl⟩ | ⟨rfl,rfl⟩
      ·exact absurd h (by decide)
      ·exact fun h=>hc h.1
   ·rintro σ H3 ⟨e3,ht3,hf0,hf1,v,rfl⟩;have ea:ZM (Jm (zs.map (·.2))) (gB gs) c i z north r bid=none:=by
     rw [JhU];exact ⟨hf0 (by show 0 < 2; decide),hf1 (by show 1 < 2; decide)⟩
    rw [ea] at q;exact q H3 e3
end
def JmG (K:PySem.W.Frag):Sp:=fun vs H Q _=>∃ (t:Addr) (z:Str) (ps:List Str) (zs:List (V×(Str×Str))) (gs:List Str),vs=[.ref t,.str z]∧Ground K H t ps zs gs∧∀ (p:Addr) (ws:List Str) (H':Hp),Jf H H'→H' p=some (.lst (ws.map V.str))→ws.Perm (Jm (zs.map (·.2)) z)→ws.Pairwise sle→Q (.ref p) H'
def Jbr (z:Str) (n:Int) (zs:List (Str×Str)) (gs:List Str):Str:=if z∈gs then "north" else if n=0∨Jm zs z=[] then "south" else ""
def JoX (K:PySem.W.Frag):Sp:=fun vs H Q _=>∃ (t:Addr) (z:Str) (n:Int) (ps:List Str) (zs:List (V×(Str×Str))) (gs:List Str),vs=[.ref t,.str z,.int n]∧Ground K H t ps zs gs∧∀ H',Jf H H'→Q (.str (Jbr z n (zs.map (·.2)) gs)) H'
section
variable {K:PySem.W.Frag} {C CB:Addr} {H:Hp} {σ:St} {i j l:Nat} {E:XK} {Q:VK}
theorem JkF {H4:Hp} {l1 l2 l3 x dx:Addr} {ps:List Str} {zs:List (V×(Str×Str))} {gs:List Str} (e4:Jf H H4) (k1:H4 l1=some (.lst (ps.map V.str))) (k2:H4 l2=some (.lst (zs.map (·.1)))) (k3:H4 l3=some (.lst (gs.map V.str))) (hP:YV K H4 zs) (G:Jc5 ps (zs.map (·.2)) gs)
  (nx:H4 x=none) (ndx:H4 dx=none) (q:∀ ps' zs' gs' H',Jf H H'→Bd K C H' x ps' zs' gs'→ps'.Perm ps→ps'.Pairwise sle→zs'.Perm zs→(zs'.map (·.2)).Pairwise ple→gs'.Perm gs→gs'.Pairwise sle→Q .non H') :
  JjG K C (.ref x :: ([.ref l1,.ref l2,.ref l3] ++ [])) (upd (upd H4 dx (.own x)) x (.ins C dx [])) Q E:=by
 have e5:Jf H4 (upd (upd H4 dx (.own x)) x (.ins C dx [])):=fun b u e=>by
  rw [Jq (JB e nx),Jq (JB e ndx)]; exact e
 refine ⟨x,l1,l2,l3,dx,ps,zs,gs,rfl,Jh,Js.of (e5 _ _ k1),Js.of (e5 _ _ k2),ZR hP e5,Js.of (e5 _ _ k3),G,fun H' ps' zs' gs' bt pp ps zp zs gp gs B=>q ps' zs' gs' H' (fun b u e=>?_) ⟨B,G.perm pp (zp.map _) gp⟩ pp ps zp zs gp gs⟩;have e6:=e4 b u e;exact bt b u (JB e6 nx) (e5 b u e6)
theorem JlK {x0 x dx:Addr} {b:Addr} {ps:List Str} {zs:List (V×(Str×Str))} {gs:List Str} {c t:Int} (B:Bd K C H b ps zs gs) (hc:0≤c∧c≤20) (ht:0≤t∧t≤30)
  (nx:H x=none) (ndx:H dx=none) (q:∀ H',Jf H H'→Bk K C CB H' x b ps zs gs c t.toNat (t.toNat + 1)→Q .non H') :
  Jiq K C CB x0 (.ref x :: ([.ref b,.int c,.int t] ++ [])) (upd (upd H dx (.own x)) x (.ins CB dx [])) Q E:=by
 have e5:Jf H (upd (upd H dx (.own x)) x (.ins CB dx [])):=fun b u e=>by
  rw [Jq (JB e nx),Jq (JB e ndx)]; exact e
 obtain ⟨bdx,_,_,_,hb,_⟩:=id B.B;refine ⟨x,b,dx,c,t,ps,zs,gs,rfl,Jh,(fun e=>by rw [← e,nx] at hb; cases hb),B.same e5,fun h=>absurd hc h,fun _ h=>absurd ht h,fun _ _ H' bt Bk'=>q H' (fun b u e=>?_) Bk'⟩;exact bt b u (JB e nx) (e5 b u e)
theorem Bk.ins {k b:Addr} {ps:List Str} {zs:List (V×(Str×Str))} {gs:List Str} {c:Int} {t n:Nat} (h:Bk K C CB H k b ps zs gs c t n):∃ dx l,H k=some (.ins CB dx [("board",.ref b),("coins",.int c),("turns",.int t),("needs",.ref l)]):=let ⟨dx,l,_,h1,_⟩:=h.at_; ⟨dx,l,h1⟩
end
theorem Jf2 {zs zs':List (Str×Str)} (h:zs'.Perm zs) (p:Str):(Jm zs' p).Perm (Jm zs p):=(h.filter _).map _
theorem Jmu {zs zs':List (Str×Str)} (h:zs'.Perm zs) (p:Str):Jm zs' p=[]↔Jm zs p=[]:=by
 have hp:=Jf2 h p;constructor
 ·intro e; rw [e] at hp; exact hp.symm.eq_nil
 ·intro e; rw [e] at hp; exact hp.eq_nil
theorem Jk1 {z:Str} {m:Nat} {zs zs':List (Str×Str)} {gs gs':List Str} (zp:zs'.Perm zs) (gp:gs'.Perm gs) :
  (z∈gs'∧Jbr z (m:Int) zs gs = "north"∧Yl zs' gs' m z)∨(z∉gs'∧Jbr z (m:Int) zs gs = "south"∧Yl zs' gs' m z)∨(Jbr z (m:Int) zs gs = ""∧¬ Yl zs' gs' m z):=by
 have e1:(z∈gs')↔(z∈gs):=gp.mem_iff;have e2:=Jmu zp z;unfold Jbr Yl;by_cases hg:z∈gs
 ·exact .inl ⟨e1.mpr hg,by rw [if_pos hg],.inl (e1.mpr hg)⟩
 ·by_cases h0:(m:Int)=0∨Jm zs z=[]
  ·refine .inr (.inl ⟨fun h=>hg (e1.mp h),by rw [if_neg hg,if_pos h0],.inr ?_⟩);rcases h0 with h0 | h0
   ·exact .inl (by omega)
   ·exact .inr (e2.mpr h0)
  ·refine .inr (.inr ⟨by rw [if_neg hg,if_neg h0],?_⟩);rintro (h | h | h)
   ·exact hg (e1.mp h)
   ·exact h0 (.inl (by omega))
   ·exact h0 (.inr (e2.mp h))
theorem Jng {zs:List (Str×Str)} {gs:List Str} {c:Int} {m:Nat} {z:Str} {r:Bool} (h:Yl zs gs m z):JU zs gs c m z r=if z∈gs then 0 else c + 1:=by
 by_cases hg:z∈gs
 ·rw [if_pos hg]; exact Jb2 (decide_eq_true hg)
 ·rw [if_neg hg];rcases h with h | h | h
  ·exact absurd h hg
  ·subst h; exact JhA (decide_eq_false hg)
  ·exact Jb1 (decide_eq_false hg) h
theorem JlI {x n:Int} (h:0 < n):0≤x % n∧x % n < n:=⟨Int.emod_nonneg _ (by omega),Int.emod_lt_of_pos _ h⟩
theorem Jmo {ps:List Str} (h:1≤ps.length) (x:Int):∃ p,atI (ps.map V.str) (x % ((ps.map V.str).length:Int))=some (.str p)∧p∈ps:=by
 rw [List.length_map];have hb:=JlI (x:=x) (n:=(ps.length:Int)) (by omega);exact ⟨_,Jh8 hb.1 hb.2,Jgj hb.1 hb.2⟩
theorem Jig {zs:List (Str×Str)} (h:zs.Pairwise ple) (p:Str):(Jm zs p).Pairwise sle:=by
 unfold Jm;rw [List.pairwise_map];refine List.Pairwise.imp_of_mem ?_ (h.filter _);intro x y hx hy hxy;have e1:x.1=p:=of_decide_eq_true (List.mem_filter.mp hx).2;have e2:y.1=p:=of_decide_eq_true (List.mem_filter.mp hy).2;have z:(if y.1.cps.toList=x.1.cps.toList then decide (y.2.cps.toList < x.2.cps.toList) else decide (y.1.cps.toList < x.1.cps.toList))=false:=hxy;rw [if_pos (by rw [e1,e2])] at z;exact z
theorem Jmv {zs zs':List (Str×Str)} {ws:List Str} {p:Str} (hz:zs'.Pairwise ple) (zp:zs'.Perm zs) (hw:ws.Perm (Jm zs p)) (hs:ws.Pairwise sle):ws=Jm zs' p :=
 Jf6 (fun _ _=>JmM) (hw.trans (Jf2 zp p).symm) hs (Jig hz p)
def Jn8 (K:PySem.W.Frag):Sp:=fun vs H Q _=>∃ (t:Addr) (c:Int) (ps:List Str) (zs:List (V×(Str×Str))) (gs:List Str),vs=[.ref t,.int c]∧Ground K H t ps zs gs∧∀ (p:Str) (H':Hp),p∈ps→Jf H H'→Q (.str p) H'
def JmA:Sp:=fun vs H Q _=>∃ i:Int,vs=[.int i]∧Q (.bl true) H
def Jo2:Sp:=fun vs H Q _=>∃ b:Bool,vs=[.str (hs b)]∧Q (.str (hs (!b))) H
def Job:Sp:=fun vs H Q _=>∃ i:Int,vs=[.int i]∧∀ b H',Jf H H'→Q (.str (hs b)) H'
def Jlb:Sp:=fun vs H Q _=>∃ (n s b a:Int) (r:Bool),vs=[.int n,.int s,.str (hs r),.int b,.int a]∧∀ p H',Jf H H'→H' p=some (.tup (Jbx n s r b a))→Q (.ref p) H'
section
variable {P:Program} {w:World} {K:PySem.W.Frag} {mg:Str→Option Value} {base:Heap}
theorem JiO (T:Txt K mg):JN P w K mg base YO 1 T.Jg8 T.JfC ["_law_found"] JmA:=by
 refine T.Jfd.F.ok JmV (fun vs H Q E h=>?_) (fun cdv A outer s H vs Q E hr h=>?_)
 ·obtain ⟨i,rfl,_⟩:=h;rfl
 ·obtain ⟨i,rfl,q⟩:=h;refine ⟨_,(@Jg _ _ _ (@Jt _ _ _ _ (@JiL _ _ _ _ _ _ _ (@JS _ _ _ _ _ _ _ _ _ (@JbU _) rfl T.Jat PyProof.Rows.boot_isinstance (@Ja _ _ _ _ _ (@pv _ 0 _ _ rfl (.inl rfl) rfl rfl) (@Ja _ _ _ _ _ (@Jgc _ _ _ _ rfl T.Jh9 PyProof.Rows.boot_int (by decide) (by decide)) (@Jb _) rfl) rfl) (by decide) (by decide) rfl rfl) (@JiK _ _ _ _ _ (@Jpg _ _ _ _ (@JS _ _ _ _ _ _ _ _ _ (@JbU _) rfl T.Jat PyProof.Rows.boot_isinstance (@Ja _ _ _ _ _ (@pv _ 0 _ _ rfl (.inl rfl) rfl rfl) (@Ja _ _ _ _ _ (@Jgc _ _ _ _ rfl T.JlH PyProof.Rows.boot_bool (by decide) (by decide)) (@Jb _) rfl) rfl) (by decide) (by decide) rfl rfl)))))),?_⟩;refine ⟨_,rfl,_,_,_,_,rfl,⟨_,.inl rfl⟩,.int i,Jpo,_,rfl,YU ?_⟩;exact ⟨_,rfl,_,_,_,_,rfl,⟨_,.inl rfl⟩,.int i,Jpp,_,rfl,q⟩
theorem Jge (T:Txt K mg):JN P w K mg base YO 1 T.JkP T.Ji9 ["_law_hand_here"] Jo2:=by
 refine T.Jff.F.ok Jo7 (fun vs H Q E h=>?_) (fun cdv A outer s H vs Q E hr h=>?_)
 ·obtain ⟨i,rfl,_⟩:=h;rfl
 ·obtain ⟨b,rfl,q⟩:=h;refine ⟨_,(@Jd _ _ _ _ _ (@JL _ _ _ _ _ _ _ _ (@Jp _ _ _ _ _ _ _ _ (@J2 _) (@pv _ 0 _ _ rfl (.inl rfl) rfl rfl) (@JR _ _ _ _) (Ju _)) (@Jg _ _ _ (@Jt _ _ _ _ (@JR _ _ _ _))) (@Jw _)) (@Jg _ _ _ (@Jt _ _ _ _ (@JR _ _ _ _)))),?_⟩;refine ⟨_,rfl,rfl,_,rfl,?_⟩;rw [Jew];cases b with
  | true=>exact YU q
  | false=>exact Zk q
theorem Jos (T:Txt K mg):JN P w K mg base YO 1 T.Jjd T.Jg6 ["_law_cell"] Job:=by
 refine T.Jjs.F.ok Joi (fun vs H Q E h=>?_) (fun cdv A outer s H vs Q E hr h=>?_)
 ·obtain ⟨i,rfl,_⟩:=h;rfl
 ·obtain ⟨i,rfl,q⟩:=h;refine ⟨_,(@Jg _ _ _ (@Jt _ _ _ _ (@JA _ _ _ _ _ _ _ (@J4 _) (@Yj _ _ _ _ (@Ja _ _ _ _ _ (@JR _ _ _ _) (@Ja _ _ _ _ _ (@JR _ _ _ _) (@Jb _) rfl) rfl)) (@Jl _ _ _ _ _ _ _ _ (@JZ _) (@pv _ 0 _ _ rfl (.inl rfl) rfl rfl) (@Jc _ _ _ _)) (fun _ _=>rfl)))),?_⟩;refine ⟨by decide,fun p hp=>⟨_,rfl,_,_,rfl,rfl,(by show (0:Int) < 2; decide),p,_,_,.str (hs (decide (i % 2=0))),rfl,rfl,Js.of Jh,?_,q _ _ (Jf.upd hp)⟩⟩;have h:i % 2=0∨i % 2=1:=by omega
  rcases h with h | h <;> rw [h] <;> rfl
theorem JlA (T:Txt K mg):JN P w K mg base YO 2 T.JfL T.Jez ["_law_north", "_law_south", "_law_ribbon", "_law_bid", "_law_reply"] Jlb:=by
 refine T.JfW.F.ok Jam (fun vs H Q E h=>?_) (fun cdv A outer s H vs Q E hr h=>?_)
 ·obtain ⟨_,_,_,_,_,rfl,_⟩:=h;rfl
 ·obtain ⟨n,s,b,a,r,rfl,q⟩:=h;refine ⟨_,(@Jd _ _ _ _ _ (@Jr _ _ 5 _ _ _ _ Jam.nd rfl (Or.inl rfl) (@pv _ 2 _ _ rfl (.inl rfl) rfl rfl) rfl (.inl rfl)) (@Jd _ _ _ _ _ (@Jr _ _ 6 _ _ _ _ Jam.nd rfl (Or.inl rfl) (@pv _ 4 _ _ rfl (.inl rfl) rfl rfl) rfl (.inl rfl)) (@Jd _ _ _ _ _ (@Jr _ _ 7 _ _ _ _ Jam.nd rfl (Or.inl rfl) (@pv _ 2 _ _ rfl (.inl rfl) rfl rfl) rfl (.inl rfl)) (@Jd _ _ _ _ _ (@JL _ _ _ _ _ _ _ _ (@Jp _ _ _ _ _ _ _ _ (@Jbf _) (@pv _ 3 _ _ rfl (.inl rfl) rfl rfl) (@pv _ 4 _ _ rfl (.inl rfl) rfl rfl) (Ju _)) (@Jd _ _ _ _ _ (@Jr _ _ 5 _ _ _ _ Jam.nd rfl (Or.inl rfl) (@Jn _ _ _ _ _ _ _ _ _ _ _ _ _ _ _ T.Jff (Jge T) (hr.mono (by decide)) JE (@Ja _ _ _ _ _ (@pv _ 2 _ _ rfl (.inl rfl) rfl rfl) (@Jb _) rfl) rfl (by decide) rfl rfl) rfl (.inl rfl)) (@Jg _ _ _ (@Jr _ _ 6 _ _ _ _ Jam.nd rfl (Or.inl rfl) (@pv _ 3 _ _ rfl (.inl rfl) rfl rfl) rfl (.inl rfl)))) (@Jw _)) (@Jd _ _ _ _ _ (@JL _ _ _ _ _ _ _ _ (@Jp _ _ _ _ _ _ _ _ (@J2 _) (@pv _ 3 _ _ rfl (.inl rfl) rfl rfl) (@pv _ 4 _ _ rfl (.inl rfl) rfl rfl) (Ju _)) (@Jg _ _ _ (@Jr _ _ 7 _ _ _ _ Jam.nd rfl (Or.inl rfl) (@Jn _ _ _ _ _ _ _ _ _ _ _ _ _ _ _ T.Jff (Jge T) (hr.mono (by decide)) JE (@Ja _ _ _ _ _ (@pv _ 2 _ _ rfl (.inl rfl) rfl rfl) (@Jb _) rfl) rfl (by decide) rfl rfl) rfl (.inl rfl))) (@Jw _)) (@Jd _ _ _ _ _ (@JL _ _ _ _ _ _ _ _ (@Jp _ _ _ _ _ _ _ _ (@J2 _) (@pv _ 5 _ _ rfl (.inl rfl) rfl rfl) (@JR _ _ _ _) (Ju _)) (@Jg _ _ _ (@Jt _ _ _ _ (@YG _ _ _ _ _ (@Ja _ _ _ _ _ (@pv _ 5 _ _ rfl (.inl rfl) rfl rfl) (@Ja _ _ _ _ _ (@Jl _ _ _ _ _ _ _ _ (@Yq _) (@pv _ 0 _ _ rfl (.inl rfl) rfl rfl) (@pv _ 6 _ _ rfl (.inl rfl) rfl rfl)) (@Ja _ _ _ _ _ (@Jl _ _ _ _ _ _ _ _ (@JP _) (@pv _ 1 _ _ rfl (.inl rfl) rfl rfl) (@pv _ 6 _ _ rfl (.inl rfl) rfl rfl)) (@Ja _ _ _ _ _ (@pv _ 7 _ _ rfl (.inl rfl) rfl rfl) (@Jb _) rfl) rfl) rfl) rfl)))) (@Jw _)) (@Jg _ _ _ (@Jt _ _ _ _ (@YG _ _ _ _ _ (@Ja _ _ _ _ _ (@pv _ 5 _ _ rfl (.inl rfl) rfl rfl) (@Ja _ _ _ _ _ (@Jl _ _ _ _ _ _ _ _ (@JP _) (@pv _ 0 _ _ rfl (.inl rfl) rfl rfl) (@pv _ 6 _ _ rfl (.inl rfl) rfl rfl)) (@Ja _ _ _ _ _ (@Jl _ _ _ _ _ _ _ _ (@Yq _) (@pv _ 1 _ _ rfl (.inl rfl) rfl rfl) (@pv _ 6 _ _ rfl (.inl rfl) rfl rfl)) (@Ja _ _ _ _ _ (@pv _ 7 _ _ rfl (.inl rfl) rfl rfl) (@Jb _) rfl) rfl) rfl) rfl)))))))))),?_⟩
  try dsimp only [cxK,Jdo]
  refine ⟨_,rfl,_,rfl,_,rfl,_,rfl,_,rfl,_,_,rfl,rfl,_,rfl,?_⟩;have fin:∀ p,H p=none→Jf H (upd H p (.tup (Jbx n s r b a))):=fun p hp=>Jf.upd hp
  refine YE (fun c=>?_) (fun c=>?_)
  ·have c':a < b:=of_decide_eq_true c;refine ⟨_,rfl,r,rfl,_,rfl,_,rfl,_,rfl,rfl,_,rfl,?_⟩;refine J3 (decide_eq_false (fun z=>by cases z; omega)) ?_;refine ⟨_,rfl,rfl,_,rfl,?_⟩;rw [Jew];have e:Jbx n s r b a=if r then [.str (hs false),.int (n + b),.int (s - b),.str (hs true)] else [.str (hs true),.int (n - b),.int (s + b),.str (hs false)]:=by unfold Jbx; rw [if_pos c']
   cases r with
   | true =>
    refine Zk ⟨_,rfl,_,rfl,_,rfl,_,_,rfl,rfl,_,rfl,_,rfl,_,_,rfl,rfl,_,rfl,by show 4≤sizeLine; decide,fun p hp=>q p _ (Jf.upd hp) ?_⟩;rw [Jh,e]; rfl
   | false =>
    refine YU ⟨_,rfl,_,rfl,_,rfl,_,_,rfl,rfl,_,rfl,_,rfl,_,_,rfl,rfl,_,rfl,by show 4≤sizeLine; decide,fun p hp=>q p _ (Jf.upd hp) ?_⟩;rw [Jh,e]; rfl
  ·have c':¬ a < b:=fun z=>c (decide_eq_true z)
   refine ⟨_,rfl,_,rfl,rfl,_,rfl,?_⟩;refine YE (fun d=>?_) (fun d=>?_)
   ·have d':b=a:=by have z:=of_decide_eq_true d; cases z; rfl
    refine ⟨_,rfl,r,rfl,_,rfl,rfl,_,rfl,?_⟩;rw [Jew];have e:Jbx n s r b a=if r then [.str (hs true),.int (n - a),.int (s + a),.str (hs false)] else [.str (hs false),.int (n + a),.int (s - a),.str (hs true)]:=by
     unfold Jbx; rw [if_neg (by omega),if_neg (by omega)]
    cases r with
    | true =>
     refine YU ⟨_,rfl,_,rfl,_,rfl,_,_,rfl,rfl,_,rfl,_,rfl,_,_,rfl,rfl,_,rfl,by show 4≤sizeLine; decide,fun p hp=>q p _ (Jf.upd hp) ?_⟩;rw [Jh,e]; rfl
    | false =>
     refine Zk ⟨_,rfl,_,rfl,_,rfl,_,_,rfl,rfl,_,rfl,_,rfl,_,_,rfl,rfl,_,rfl,by show 4≤sizeLine; decide,fun p hp=>q p _ (Jf.upd hp) ?_⟩;rw [Jh,e]; rfl
   ·have d':¬ b=a:=fun z=>d (decide_eq_true (by rw [z]))
    refine ⟨_,rfl,rfl,_,rfl,?_⟩;rw [Jew];have e:Jbx n s r b a=if r then [.str (hs true),.int (n - a),.int (s + a),.str (hs true)] else [.str (hs false),.int (n + a),.int (s - a),.str (hs false)]:=by
     unfold Jbx; rw [if_neg (by omega),if_pos (by omega)]
    cases r with
    | true =>
     refine YU ⟨_,rfl,_,rfl,_,rfl,_,_,rfl,rfl,_,rfl,_,rfl,_,_,rfl,rfl,_,rfl,by show 4≤sizeLine; decide,fun p hp=>q p _ (Jf.upd hp) ?_⟩;rw [Jh,e]; rfl
    | false =>
     refine Zk ⟨_,rfl,_,rfl,_,rfl,_,_,rfl,rfl,_,rfl,_,rfl,_,_,rfl,rfl,_,rfl,by show 4≤sizeLine; decide,fun p hp=>q p _ (Jf.upd hp) ?_⟩;rw [Jh,e]; rfl
theorem JjT (T:Txt K mg):JN P w K mg base YO 1 T.Jjb T.Jg4 ["_law_ground", "_law_place"] (JmG K):=by
 refine T.JgD.F.ok Joh (fun vs H Q E h=>?_) (fun cdv A outer s H vs Q E hr h=>?_)
 ·obtain ⟨_,_,_,_,_,rfl,_⟩:=h;rfl
 ·obtain ⟨t,z,ps,zs,gs,rfl,G,q⟩:=h;have szl:sizeLine=16777216:=sizeLine_eq;refine ⟨_,(@Jg _ _ _ (@Jt _ _ _ _ (@JS _ _ _ _ _ _ _ _ _ (@Jd2 _) rfl T.JcS PyProof.Rows.boot_sorted (@Ja _ _ _ _ _ (@Jda _ _ _ _ _ _ _ 2 ["_law_start", "_law_end", "_law_place"] [1] _ _ _ _ ["_law_ground", "_law_place"] ((Jo Jf8).names) (by decide +kernel) (@Zt _ _ _ _ (@JA _ _ _ _ _ _ _ (@JM _) (@pv _ 0 _ _ rfl (.inl rfl) rfl rfl) (@Jc _ _ _ _) (fun _ _=>rfl))) (fun _ _ _ _=>(show PG _ _ (JkI K 2 _) from Jgb rfl (@Y5 _ _ _ _ _ (@ZV _ _ _ _ _ _ _ _ _ 0 (by decide +kernel) rfl rfl) (@Y5 _ _ _ _ _ (@ZV _ _ _ _ _ _ _ _ _ 1 (by decide +kernel) rfl rfl) (@Je0 _) rfl) rfl))) (fun _ _ _ _=>(@JgW _ _ _ (@Jp _ _ _ _ _ _ _ _ (@J2 _) (@ZA _ _ _ _ _ _ _ _ _ 0 rfl rfl (by decide) (by decide)) (@ZW _ _ _ _ _ _ _ _ _ 2 rfl rfl (by decide) (by decide)) (Ju _)))) (fun _ _ _ _=>(@ZA _ _ _ _ _ _ _ _ _ 1 rfl rfl (by decide) (by decide))) rfl rfl rfl (by intro _; rfl)) (@Jb _) rfl) (by decide) (by decide) rfl rfl))),?_⟩;obtain ⟨pn,pl,pg,h1,h2,h3,h4,h5⟩:=G.at_;have hzl:zs.length≤40:=by have:=G.good.l1; rwa [List.length_map] at this
  have wl:∀ i,(Jm ((zs.map (·.2)).take i) z).length≤40:=fun i=>by
   unfold Jm;rw [List.length_map];refine Nat.le_trans (List.length_filter_le _ _) ?_;rw [List.length_take,List.length_map];omega
  refine ⟨_,rfl,t,_,_,.ref pl,rfl,rfl,JK.of h1,rfl,pl,rfl,⟨_,Js.of h3⟩,fun D hD=>?_⟩;refine Jgr (xs:=zs.map (·.1)) (fun i ys H2=>Jf H H2∧H2 D=some (.lst ys)∧ys=(Jm ((zs.map (·.2)).take i) z).map V.str) rfl rfl (fun i ys H2 p=>Js.of (p.1 _ _ h3)) ⟨Jf.upd hD,Jh,by simp [Jm]⟩ (fun i ys H2 p=>p.2.1) ?_ ?_
  ·rintro i x ys H2 hx ⟨e2,hy,rfl⟩;rw [List.getElem?_map] at hx;obtain ⟨y,hy1,rfl⟩:=Option.map_eq_some_iff.mp hx;obtain ⟨a,ea,ha⟩:=h4 y (List.mem_of_getElem? hy1);have step:(zs.map (·.2)).take (i + 1)=(zs.map (·.2)).take i ++ [y.2]:=by
    rw [List.take_succ,List.getElem?_map,hy1]; rfl
   have wstep:Jm ((zs.map (·.2)).take (i + 1)) z=Jm ((zs.map (·.2)).take i) z ++ (if y.2.1=z then [y.2.2] else []):=by
    unfold Jm;rw [step,List.filter_append,List.map_append];by_cases h:y.2.1=z
    ·simp [h]
    ·simp [h]
   have wli:=wl i;refine ⟨a,.str y.2.1,.str y.2.2,ea,e2.tup ha,_,rfl,_,rfl,rfl,_,rfl,?_⟩;by_cases h:y.2.1=z
   ·refine YH (by rw [h]; exact decide_eq_true rfl) ⟨_,rfl,hy,by rw [List.length_map]; omega,fun b' u e=>?_,Jh,?_⟩
    ·rw [Jq (JB e hD)]; exact e2 b' u e
    ·rw [wstep,if_pos h,List.map_append]; rfl
   ·refine J3 (decide_eq_false (fun e=>h (V.str.inj e))) ⟨e2,hy,?_⟩;rw [wstep,if_neg h,List.append_nil]
  ·rintro ys H2 ⟨e2,hy,rfl⟩;rw [List.length_map] at hy;rw [show zs.length=(zs.map (·.2)).length by simp] at hy;have wll:=wl (zs.map (·.2)).length;rw [List.take_length] at hy wll;exact ⟨D,_,rfl,Js.of hy,by omega,fun p ws np hp hs=>q p ws _ (e2.trans (Jf.upd np)) Jh hp hs⟩
theorem JiN (T:Txt K mg):JN P w K mg base YO 2 T.JkL T.Ji5 ["_law_ground", "_law_place", "_law_left"] (JoX K):=by
 refine T.JgC.F.ok Jo5 (fun vs H Q E h=>?_) (fun cdv A outer s H vs Q E hr h=>?_)
 ·obtain ⟨_,_,_,_,_,_,rfl,_⟩:=h;rfl
 ·obtain ⟨t,z,n,ps,zs,gs,rfl,G,q⟩:=h;refine ⟨_,(@Jd _ _ _ _ _ (@JL _ _ _ _ _ _ _ _ (@Jp _ _ _ _ _ _ _ _ (@Jhx _) (@pv _ 1 _ _ rfl (.inl rfl) rfl rfl) (@JA _ _ _ _ _ _ _ (@JM _) (@pv _ 0 _ _ rfl (.inl rfl) rfl rfl) (@Jc _ _ _ _) (fun _ _=>rfl)) (by with_unfolding_all rfl)) (@Jg _ _ _ (@Jt _ _ _ _ (@JR _ _ _ _))) (@Jw _)) (@Jd _ _ _ _ _ (@JL _ _ _ _ _ _ _ _ (@PW.pt _ _ _ (@ZQ _ _ _ _ _ _ _ (@Jp _ _ _ _ _ _ _ _ (@J2 _) (@pv _ 2 _ _ rfl (.inl rfl) rfl rfl) (@Jc _ _ _ _) (Ju _)) (@Jar _ _ _ _ (@Jp _ _ _ _ _ _ _ _ (@JfA _ hr.units0) (@Jn _ _ _ _ _ _ _ _ _ _ _ _ _ _ _ T.JgD (JjT T) (hr.mono (by decide)) JE (@Ja _ _ _ _ _ (@pv _ 0 _ _ rfl (.inl rfl) rfl rfl) (@Ja _ _ _ _ _ (@pv _ 1 _ _ rfl (.inl rfl) rfl rfl) (@Jb _) rfl) rfl) rfl (by decide) rfl rfl) (@Yj _ _ _ _ (@Jb _)) (Ju _))))) (@Jg _ _ _ (@Jt _ _ _ _ (@JR _ _ _ _))) (@Jw _)) (@Jg _ _ _ (@Jt _ _ _ _ (@JR _ _ _ _))))),?_⟩;obtain ⟨pn,pl,pg,h1,h2,h3,h4,h5⟩:=G.at_;refine ⟨_,rfl,_,rfl,t,_,_,.ref pg,rfl,rfl,JK.of h1,rfl,pg,_,rfl,.inl (Js.of h5),rfl,Jb3 gs,_,rfl,?_⟩;rw [if_neg Bool.false_ne_true,JcV];by_cases hg:z∈gs
  ·refine YH (decide_eq_true hg) ?_;have e:Jbr z n (zs.map (·.2)) gs = "north":=by unfold Jbr; rw [if_pos hg]
   rw [e] at q;exact q H (Jf.refl _)
  ·refine J3 (decide_eq_false hg) ⟨_,rfl,rfl,_,rfl,?_⟩;by_cases h0:n=0
   ·have e:Jbr z n (zs.map (·.2)) gs = "south":=by unfold Jbr; rw [if_neg hg,if_pos (.inl h0)]
    rw [e] at q;exact YH (by rw [h0]; exact decide_eq_true rfl) (YU (q H (Jf.refl _)))
   ·refine J3 (decide_eq_false fun e=>h0 (V.int.inj e)) ⟨_,rfl,_,rfl,t,z,ps,zs,gs,rfl,G,fun p ws H' e' hp wp _=>⟨by show 0≤sizeLine; decide,fun l nl=>⟨p,l,_,rfl,rfl,(Jf.upd nl).seq (Js.of hp),Js.of Jh,_,rfl,?_⟩⟩⟩;by_cases hw:Jm (zs.map (·.2)) z=[]
    ·have e:Jbr z n (zs.map (·.2)) gs = "south":=by unfold Jbr; rw [if_neg hg,if_pos (.inr hw)]
     rw [e] at q;rw [hw] at wp;exact YH (by rw [wp.eq_nil]; rfl) (q _ (e'.trans (Jf.upd nl)))
    ·have e:Jbr z n (zs.map (·.2)) gs = "":=by unfold Jbr; rw [if_neg hg,if_neg (fun h=>h.elim h0 hw)]
     rw [e] at q;refine J3 ?_ (q _ (e'.trans (Jf.upd nl)));cases ws with
     | nil=>exact absurd (wp.symm.eq_nil) hw
     | cons _ _=>rfl
theorem Jor (T:Txt K mg):JN P w K mg base YO 3 T.Jjc T.Jg5 ["_law_ground", "_law_cell"] (Jn8 K):=by
 refine T.Jjr.F.ok JeU (fun vs H Q E h=>?_) (fun cdv A outer s H vs Q E hr h=>?_)
 ·obtain ⟨_,_,_,_,_,rfl,_⟩:=h;rfl
 ·obtain ⟨t,c,ps,zs,gs,rfl,G,q⟩:=h;refine ⟨_,(@Jd _ _ _ _ _ (@Jr _ _ 2 _ _ _ _ JeU.nd rfl (Or.inl rfl) (@JA _ _ _ _ _ _ _ (@JM _) (@pv _ 0 _ _ rfl (.inl rfl) rfl rfl) (@Jc _ _ _ _) (fun _ _=>rfl)) rfl (.inl rfl)) (@Jd _ _ _ _ _ (@Yv _ _ _ _ _ _ _ _ PassesOwn.never rfl (@Za _ _ _ _ _ _ rfl T.Y2 (@Ja _ _ _ _ _ (@JS _ _ _ _ _ _ _ _ _ (@YL _) rfl T.JaH PySem.boot_len (@Ja _ _ _ _ _ (@pv _ 2 _ _ rfl (.inl rfl) rfl rfl) (@Jb _) rfl) (by decide) (by decide) rfl rfl) (@Jb _) rfl) rfl) (@JV _ _ 3 _ JeU.nd rfl (Or.inl rfl) (.inl rfl)) (@Jd _ _ _ _ _ (@Jr _ _ 4 _ _ _ _ JeU.nd rfl (Or.inl rfl) (@JA _ _ _ _ _ _ _ (@J4 _) (@pv _ 2 _ _ rfl (.inl rfl) rfl rfl) (@Jl _ _ _ _ _ _ _ _ (@JZ _) (@Jl _ _ _ _ _ _ _ _ (@JP _) (@pv _ 1 _ _ rfl (.inl rfl) rfl rfl) (@pv _ 3 _ _ rfl (.inl rfl) rfl rfl)) (@JS _ _ _ _ _ _ _ _ _ (@YL _) rfl T.JaH PySem.boot_len (@Ja _ _ _ _ _ (@pv _ 2 _ _ rfl (.inl rfl) rfl rfl) (@Jb _) rfl) (by decide) (by decide) rfl rfl)) (fun _ _=>rfl)) rfl (.inl rfl)) (@Jg _ _ _ (@JL _ _ _ _ _ _ _ _ (@Jp _ _ _ _ _ _ _ _ (@J2 _) (@Jn _ _ _ _ _ _ _ _ _ _ _ _ _ _ _ T.JgC (JiN T) (hr.mono (by decide)) JE (@Ja _ _ _ _ _ (@pv _ 0 _ _ rfl (.inl rfl) rfl rfl) (@Ja _ _ _ _ _ (@pv _ 4 _ _ rfl (.inl rfl) rfl rfl) (@Ja _ _ _ _ _ (@Jc _ _ _ _) (@Jb _) rfl) rfl) rfl) rfl (by decide) rfl rfl) (@JR _ _ _ _) (Ju _)) (@Jg _ _ _ (@Jt _ _ _ _ (@pv _ 4 _ _ rfl (.inl rfl) rfl rfl))) (@Jw _)))) (by intro _; rfl)) (@Jg _ _ _ (@Jt _ _ _ _ (@JA _ _ _ _ _ _ _ (@J4 _) (@pv _ 2 _ _ rfl (.inl rfl) rfl rfl) (@Jl _ _ _ _ _ _ _ _ (@JZ _) (@pv _ 1 _ _ rfl (.inl rfl) rfl rfl) (@JS _ _ _ _ _ _ _ _ _ (@YL _) rfl T.JaH PySem.boot_len (@Ja _ _ _ _ _ (@pv _ 2 _ _ rfl (.inl rfl) rfl rfl) (@Jb _) rfl) (by decide) (by decide) rfl rfl)) (fun _ _=>rfl)))))),?_⟩;obtain ⟨pn,pl,pg,h1,h2,h3,h4,h5⟩:=G.at_;have p1:=G.good.p1;have p2:=G.good.p2;refine ⟨_,rfl,t,_,_,.ref pn,rfl,rfl,JK.of h1,rfl,?_⟩;refine ⟨_,rfl,pn,_,rfl,.inl (Js.of h2),((ps.map V.str).length:Int),rfl,by rw [List.length_map]; omega,by rw [List.length_map]; omega,?_⟩;rw [Int.toNat_natCast];refine Zc (n:=(ps.map V.str).length) (fun i σ H2=>Jf H H2∧∃ v3 v4,σ=[some (.ref t),some (.int c),some (.ref pn),v3,v4]) ⟨Jf.refl _,none,none,rfl⟩ ?_ ?_
  ·rintro i σ H2 hi ⟨e2,v3,v4,rfl⟩;obtain ⟨p,hp,hpm⟩:=Jmo p1 (c + (0 + (i:Int)));refine ⟨_,rfl,_,rfl,_,rfl,_,_,rfl,rfl,_,rfl,pn,_,rfl,.inl (Js.of (e2 _ _ h2)),_,_,rfl,rfl,(by rw [List.length_map]; omega),pn,_,_,.str p,rfl,rfl,Js.of (e2 _ _ h2),hp,?_⟩;refine ⟨_,rfl,_,rfl,t,p,1,ps,zs,gs,rfl,G.same e2,fun H3 e3=>⟨rfl,_,rfl,YE (fun _=>?_) (fun _=>?_)⟩⟩
   ·exact ⟨_,rfl,q p H3 hpm (e2.trans e3)⟩
   ·exact ⟨e2.trans e3,_,_,rfl⟩
  ·rintro σ H2 ⟨e2,v3,v4,rfl⟩;obtain ⟨p,hp,hpm⟩:=Jmo p1 c;exact ⟨_,rfl,_,rfl,_,rfl,pn,_,rfl,.inl (Js.of (e2 _ _ h2)),_,_,rfl,rfl,(by rw [List.length_map]; omega),pn,_,_,.str p,rfl,rfl,Js.of (e2 _ _ h2),hp,q p H2 hpm e2⟩
end
def JeY (n s:Int):List (JI×V):=[(Sum.inr "north",.int n),(Sum.inr "south",.int s)]
theorem Jm3 (n s:Int) (b:Bool):YD (JaV [] (JeY n s)) (Sum.inr (hs b))=some (.int (if b then n else s)):=by
 cases b <;> rfl
structure BG (K:PySem.W.Frag) (C CB:Addr) (H:Hp) (k b t:Addr) (ps:List Str) (zs:List (V×(Str×Str))) (gs ps':List Str) (zs':List (V×(Str×Str))) (gs':List Str) (c:Int) (T:Nat):Prop where
 G:Ground K H t ps zs gs
 B:Bk K C CB H k b ps' zs' gs' c T (T + 1)
 pp:ps'.Perm ps
 zp:zs'.Perm zs
 gp:gs'.Perm gs
 zo:(zs'.map (·.2)).Pairwise ple
theorem BG.same {K:PySem.W.Frag} {C CB:Addr} {H H':Hp} {k b t:Addr} {ps:List Str} {zs:List (V×(Str×Str))} {gs ps':List Str} {zs':List (V×(Str×Str))} {gs':List Str} {c:Int} {T:Nat} (h:BG K C CB H k b t ps zs gs ps' zs' gs' c T) (e:Jf H H'):BG K C CB H' k b t ps zs gs ps' zs' gs' c T:=⟨h.G.same e,h.B.same e,h.pp,h.zp,h.gp,h.zo⟩
theorem JnU {l h:Bool} (hf:¬ l=h):(l == h)=false∧(!l)=h:=by cases l <;> cases h <;> first | exact ⟨rfl,rfl⟩ | exact absurd rfl hf
theorem Jk2 {zs:List (Str×Str)} {gs:List Str} {c:Int} {m:Nat} {p:Str} {n:Int} {r h:Bool} {b a:Int} (e:Y4 (Jm zs) (gB gs) c m p n r b a=(h == r)):(Yt (Jm zs) (gB gs) c m p (after n r b a).2.1 (after n r b a).2.2 (after n r b a).1).isSome=((after n r b a).1 == h):=by
 unfold Y4 at e;generalize (Yt (Jm zs) (gB gs) c m p (after n r b a).2.1 (after n r b a).2.2 (after n r b a).1).isSome=s at e ⊢;generalize (after n r b a).1=l at e ⊢;cases s <;> cases l <;> cases h <;> cases r <;> simp at e ⊢
theorem Jhs {zs:List (Str×Str)} {gs:List Str} {c:Int} {m:Nat} {p w:Str} {n:Int} {r h:Bool} (e:Yt (Jm zs) (gB gs) c m p n r h=some w):w∈Jm zs p∧decide (JU zs gs c m w r≤n)=h:=by
 unfold Yt at e;exact ⟨List.mem_of_find?_eq_some e,by have:=List.find?_some e; simpa using this⟩
theorem Jn5 {zs:List (Str×Str)} {gs:List Str} {c:Int} {m:Nat} {p w:Str} {n:Int} {r h:Bool} (e:(Yt (Jm zs) (gB gs) c m p n r h).isSome=false) (hw:w∈Jm zs p):decide (JU zs gs c m w r≤n)=!h:=by
 unfold Yt at e;have e':((Jm zs p).find? fun w=>decide (J5 (Jm zs) (gB gs) c m w r≤n) == h)=none:=by
  cases hx:(Jm zs p).find? fun w=>decide (J5 (Jm zs) (gB gs) c m w r≤n) == h with
  | none=>rfl
  | some y=>rw [hx] at e; cases e
 have:=List.find?_eq_none.mp e' w hw;cases hd:decide (JU zs gs c m w r≤n) <;> cases h <;> first | rfl | (exact absurd (by show (decide (JU zs gs c m w r≤n) == _)=true; rw [hd]; rfl) this)
theorem Jk4 {zs:List (Str×Str)} {gs:List Str} {c:Int} {m:Nat} {p:Str} {n:Int} {r h:Bool} {b a:Int} (he:¬ Yl zs gs (m + 1) p) (c0:0≤c) (hn:0≤n∧n≤c) (hh:decide (JU zs gs c (m + 1) p r≤n)=h) (hb:0≤b∧b≤own c n (!r)) (ha:0≤a∧a≤own c n r)
  (h1:h=(!r)→b=Z9 (Jm zs) (gB gs) c m p n r) (h2:h=r→ZM (Jm zs) (gB gs) c m p n r b=some a):Y4 (Jm zs) (gB gs) c m p n r b a=(h == r):=by
 have hg:gB gs p=false:=decide_eq_false fun h=>he (.inl h)
 have hw:Jm zs p≠[]:=fun h=>he (.inr (.inr h))
 by_cases hr:h=r
 ·obtain ⟨_,_,hx,_⟩:=JhV hb.1 (by omega) (h2 hr);rw [hx,hr]; cases r <;> rfl
 ·have hr':h=!r:=by cases h <;> cases r <;> simp_all
  obtain ⟨_,_,hno⟩:=Jjk (W:=Jm zs) (g:=gB gs) (c:=c) (t:=m) (p:=p) (r:=r) hg hw c0 hn.1 hn.2 (by rw [← hr']; exact hh);rw [← h1 hr'] at hno;cases hx:Y4 (Jm zs) (gB gs) c m p n r b a with
  | false=>rw [hr']; cases r <;> rfl
  | true =>
   obtain ⟨a',h3,_⟩:=JkW hw hb.1 ha.1 ha.2 hx;rw [hno] at h3; cases h3
theorem Jmp {zs:List (Str×Str)} {gs:List Str} {c:Int} {m:Nat} {p:Str} {n:Int} {r:Bool} {b:Int} (he:¬ Yl zs gs (m + 1) p) (c0:0≤c) (hn:0≤n∧n≤c) (hh:decide (JU zs gs c (m + 1) p r≤n)=r) (hb:0≤b∧b≤own c n (!r)):∃ a,ZM (Jm zs) (gB gs) c m p n r b=some a∧0≤a∧a≤own c n r:=by
 have hg:gB gs p=false:=decide_eq_false fun h=>he (.inl h)
 have hw:Jm zs p≠[]:=fun h=>he (.inr (.inr h))
 have ho:0≤own c n r:=by unfold own; cases r <;> simp <;> omega
 cases hx:ZM (Jm zs) (gB gs) c m p n r b with
 | none =>
  have:=(Jmm hg hw c0 hn.1 hn.2 hb.1 hb.2 hx).1;have hh':decide (J5 (Jm zs) (gB gs) c (m + 1) p r≤n)=r:=hh;rw [hh'] at this;cases r <;> cases this
 | some a =>
  obtain ⟨h1,h2,_⟩:=JhV hb.1 ho hx;exact ⟨a,rfl,h1,h2⟩
theorem Jif {zs:List (Str×Str)} {gs:List Str} {c:Int} {m:Nat} {p:Str} {n:Int} {r h:Bool} (hn:0≤n∧n≤c) (he:Yl zs gs m p) (hh:decide (JU zs gs c m p r≤n)=h):h=decide (p∈gs):=by
 rw [← hh,Jng he];by_cases hg:p∈gs
 ·rw [if_pos hg,decide_eq_true hg,decide_eq_true hn.1]
 ·rw [if_neg hg,decide_eq_false hg,decide_eq_false (by omega)]
def stV (p:Str) (m:Nat) (n:Int) (r:Bool):List V:=[.str p,.int (m:Int),.int n,.str (hs r)]
section
variable {P:Program} {w:World} {K:PySem.W.Frag} {mg:Str→Option Value} {base:Heap}
def Jod (T:Txt K mg):Sp:=fun vs H Q _=>∃ (k b ta:Addr) (p:Str) (m:Nat) (n:Int) (r h:Bool) (ps:List Str) (zs:List (V×(Str×Str))) (gs:List Str) (c:Int) (t:Nat),vs=[.ref k,.ref ta,.str (hs h),.int c]∧Bk K T.JD T.JC H k b ps zs gs c t (t + 1)∧H ta=some (.tup (stV p (m + 1) n r))∧p∈ps∧m + 1≤t∧(0≤n∧n≤c)∧¬ Yl (zs.map (·.2)) gs (m + 1) p∧decide (JU (zs.map (·.2)) gs c (m + 1) p r≤n)=h∧∀ (l:Addr) (bs:List Int) (H':Hp),Jf H H'→H l=none→H' l=some (.lst (bs.map V.int))→bs.length≤21→(∀ x∈bs,(0≤x∧x≤own c n (!r))∧(h=(!r)→x=Z9 (Jm (zs.map (·.2))) (gB gs) c m p n r))→Q (.ref l) H'
theorem Jot (T:Txt K mg):JN P w K mg base YO 10 T.Jje T.Jg7 ["_law_book", "_law_at_here", "_law_hand_here", "_law_total"] (Jod T):=by
 refine T.Jjt.F.ok Joj (fun vs H Q E h=>?_) (fun cdv A outer s H vs Q E hr h=>?_)
 ·obtain ⟨_,_,_,_,_,_,_,_,_,_,_,_,_,rfl,_⟩:=h;rfl
 ·obtain ⟨k,b,ta,p,m,n,r,h,ps,zs,gs,c,t,rfl,B,hta,hp,hm,hn,he,hh,q⟩:=h;have hu:=Jbg hr;have szl:sizeLine=16777216:=sizeLine_eq;refine ⟨_,(@Jd _ _ _ _ _ (@JL _ _ _ _ _ _ _ _ (@Jp _ _ _ _ _ _ _ _ (@J2 _) (@Jn _ _ _ _ _ _ _ _ _ _ _ _ _ _ _ T.Jff (Jge T) (hr.mono (by decide)) JE (@Ja _ _ _ _ _ (@JA _ _ _ _ _ _ _ (@JM _) (@pv _ 1 _ _ rfl (.inl rfl) rfl rfl) (@Jc _ _ _ _) (fun _ _=>rfl)) (@Jb _) rfl) rfl (by decide) rfl rfl) (@pv _ 2 _ _ rfl (.inl rfl) rfl rfl) (Ju _)) (@Jg _ _ _ (@Jt _ _ _ _ (@Yj _ _ _ _ (@Ja _ _ _ _ _ (@J0 _ _ _ _ _ _ _ _ _ _ _ _ _ _ _ _ _ _ _ _ (@pv _ 0 _ _ rfl (.inl rfl) rfl rfl) T.JJ T.Ja1.m (Jg0 T) (hr.mono (by decide)) T.Ja1.b .nil Y1 (@Ja _ _ _ _ _ (@JA _ _ _ _ _ _ _ (@JM _) (@pv _ 1 _ _ rfl (.inl rfl) rfl rfl) (@Jc _ _ _ _) (fun _ _=>rfl)) (@Ja _ _ _ _ _ (@JA _ _ _ _ _ _ _ (@JM _) (@pv _ 1 _ _ rfl (.inl rfl) rfl rfl) (@Jc _ _ _ _) (fun _ _=>rfl)) (@Ja _ _ _ _ _ (@JA _ _ _ _ _ _ _ (@JM _) (@pv _ 1 _ _ rfl (.inl rfl) rfl rfl) (@Jc _ _ _ _) (fun _ _=>rfl)) (@Ja _ _ _ _ _ (@JA _ _ _ _ _ _ _ (@JM _) (@pv _ 1 _ _ rfl (.inl rfl) rfl rfl) (@Jc _ _ _ _) (fun _ _=>rfl)) (@Jb _) rfl) rfl) rfl) rfl) rfl rfl rfl) (@Jb _) rfl)))) (@Jw _)) (@Jg _ _ _ (@Jt _ _ _ _ (@JjQ _ _ _ _ _ _ _ rfl rfl T.JdG rfl T.Y2 (@Ja _ _ _ _ _ (@Jl _ _ _ _ _ _ _ _ (@JP _) (@JA _ _ _ _ _ _ _ (@J4 _) (@Yj _ _ _ _ (@Ja _ _ _ _ _ (@JA _ _ _ _ _ _ _ (@JM _) (@pv _ 1 _ _ rfl (.inl rfl) rfl rfl) (@Jc _ _ _ _) (fun _ _=>rfl)) (@Ja _ _ _ _ _ (@Jl _ _ _ _ _ _ _ _ (@Yq _) (@pv _ 3 _ _ rfl (.inl rfl) rfl rfl) (@JA _ _ _ _ _ _ _ (@JM _) (@pv _ 1 _ _ rfl (.inl rfl) rfl rfl) (@Jc _ _ _ _) (fun _ _=>rfl))) (@Jb _) rfl) rfl)) (@Zb _ _ _ _ _ _ _ _ _ (@JhN _) rfl T.Jh9 PyProof.Rows.boot_int (@Ja _ _ _ _ _ (@Jbw _ _ _ _ _ _ _ _ (@J2 _) (@JA _ _ _ _ _ _ _ (@JM _) (@pv _ 1 _ _ rfl (.inl rfl) rfl rfl) (@Jc _ _ _ _) (fun _ _=>rfl)) (@JR _ _ _ _) (Ju _)) (@Jb _) rfl) (by decide) (by decide) rfl rfl) (fun _ _=>rfl)) (@Jc _ _ _ _)) (@Jb _) rfl) rfl rfl)))),?_⟩;have c0:=B.c0;have c1:=B.c1;have tp:=YI (B.B.G.p3 p hp);obtain ⟨dx,lk,hk⟩:=B.ins;have hmm:0≤((m + 1:Nat):Int)∧((m + 1:Nat):Int)≤(t:Int):=by omega
  have em:(((m + 1:Nat):Int)).toNat=m + 1:=by omega
  replace hta:H ta=some (.tup [.str p,.int ((m + 1:Nat):Int),.int n,.str (hs r)]):=hta;generalize ((m + 1:Nat):Int)=M at hmm em hta;have hg:gB gs p=false:=decide_eq_false fun h=>he (.inl h)
  have hwn:Jm (zs.map (·.2)) p≠[]:=fun h=>he (.inr (.inr h))
  refine ⟨_,rfl,ta,_,_,.str (hs r),rfl,rfl,JK.of hta,rfl,r,rfl,_,rfl,rfl,_,rfl,?_⟩;by_cases hf:h=!r
  ·refine YH (by rw [hf]; exact decide_eq_true rfl) ?_;refine ⟨_,rfl,k,dx,_,rfl,hk,rfl,_,rfl,ta,_,_,.str p,rfl,rfl,JK.of hta,rfl,_,rfl,ta,_,_,.int M,rfl,rfl,JK.of hta,rfl,_,rfl,ta,_,_,.int n,rfl,rfl,JK.of hta,rfl,_,rfl,ta,_,_,.str (hs r),rfl,rfl,JK.of hta,rfl,k,b,p,hs r,M,n,_,_,_,_,_,rfl,tp,ZH r,B,Jal ⟨hp,hmm,hn,Y0 r⟩,fun _ _ _ r' hr' H3 e3=>?_⟩;obtain rfl:=Yx hr';rw [em];have hbw:=Jjk (W:=Jm (zs.map (·.2))) (g:=gB gs) (c:=c) (t:=m) (p:=p) (r:=r) hg hwn c0 hn.1 hn.2 (by rw [← hf]; exact hh);rw [JeK,if_neg he,if_pos (by rw [← hf]; exact hh)];refine ⟨by show 1≤sizeLine; decide,fun l nl=>q l [Z9 (Jm (zs.map (·.2))) (gB gs) c m p n r] _ (e3.trans (Jf.upd nl)) (e3.free nl) Jh (by show 1≤21; decide) fun x hx=>?_⟩;rw [List.mem_singleton.mp hx];exact ⟨⟨hbw.1,hbw.2.1⟩,fun _=>rfl⟩
  ·refine J3 (decide_eq_false fun z=>hf (Yx (V.str.inj z)).symm) ?_;have ho:0≤own c n (!r)∧own c n (!r)≤20:=by unfold own; cases r <;> simp <;> omega
   have pk:atI [V.int n,V.int (c - n)] (if decide (V.str (hs r)=V.str "north")=true then 1 else 0)=some (.int (own c n (!r))):=by
    cases r
    ·rw [if_neg (by decide +kernel)]; rfl
    ·rw [if_pos (by decide +kernel)]; rfl
   refine ⟨_,rfl,ta,_,_,.int n,rfl,rfl,JK.of hta,rfl,_,rfl,_,rfl,ta,_,_,.int n,rfl,rfl,JK.of hta,rfl,_,_,rfl,rfl,by show 2≤sizeLine; decide,fun l5 n5=>?_⟩;have s5:=Jf.upd (o:=.lst [.int n,.int (c - n)]) n5;refine ⟨_,rfl,ta,_,_,.str (hs r),rfl,rfl,JK.of (s5 _ _ hta),rfl,rfl,.inr ⟨_,rfl,l5,_,_,.int (own c n (!r)),rfl,rfl,Js.of Jh,pk,_,_,rfl,rfl,(own c n (!r)).toNat + 1,?_,by omega,fun l nl=>?_⟩⟩
   ·rw [show (((own c n (!r)).toNat + 1:Nat):Int)=own c n (!r) + 1 by omega]
   ·refine q l ((List.range ((own c n (!r)).toNat + 1)).map fun (i:Nat)=>(i:Int)) _ (s5.trans (Jf.upd nl)) (s5.free nl) ?_ (by rw [List.length_map,List.length_range]; omega) fun x hx=>?_
    ·rw [List.map_map]; exact Jh
    ·obtain ⟨i,hi,rfl⟩:=List.mem_map.mp hx;have:=List.mem_range.mp hi;exact ⟨⟨by omega,by omega⟩,fun z=>absurd z hf⟩
end
section
variable {P:Program} {w:World} {K:PySem.W.Frag} {mg:Str→Option Value} {base:Heap}
def Jkj (T:Txt K mg):Sp:=fun vs H Q _=>∃ (k b ta:Addr) (p:Str) (m:Nat) (n y:Int) (r h:Bool) (ps:List Str) (zs:List (V×(Str×Str))) (gs:List Str) (c:Int) (t:Nat),vs=[.ref k,.ref ta,.str (hs h),.int c,.int y]∧Bk K T.JD T.JC H k b ps zs gs c t (t + 1)∧H ta=some (.tup (stV p (m + 1) n r))∧p∈ps∧m + 1≤t∧(0≤n∧n≤c)∧¬ Yl (zs.map (·.2)) gs (m + 1) p∧decide (JU (zs.map (·.2)) gs c (m + 1) p r≤n)=h∧(0≤y∧y≤own c n (!r))∧∀ (l:Addr) (bs:List Int) (H':Hp),Jf H H'→H l=none→H' l=some (.lst (bs.map V.int))→bs.length≤21→(∀ x∈bs,(0≤x∧x≤own c n r)∧(h=r→ZM (Jm (zs.map (·.2))) (gB gs) c m p n r y=some x))→Q (.ref l) H'
theorem Jky (T:Txt K mg):JN P w K mg base YO 10 T.JeD T.Jd0 ["_law_book", "_law_at_here", "_law_hand_here", "_law_total", "_law_bid"] (Jkj T):=by
 refine T.JeN.F.ok Jkp (fun vs H Q E h=>?_) (fun cdv A outer s H vs Q E hr h=>?_)
 ·obtain ⟨_,_,_,_,_,_,_,_,_,_,_,_,_,_,rfl,_⟩:=h;rfl
 ·obtain ⟨k,b,ta,p,m,n,y,r,h,ps,zs,gs,c,t,rfl,B,hta,hp,hm,hn,he,hh,hy,q⟩:=h;have hu:=Jbg hr;have szl:sizeLine=16777216:=sizeLine_eq;refine ⟨_,(@Jd _ _ _ _ _ (@JL _ _ _ _ _ _ _ _ (@Jp _ _ _ _ _ _ _ _ (@J2 _) (@JA _ _ _ _ _ _ _ (@JM _) (@pv _ 1 _ _ rfl (.inl rfl) rfl rfl) (@Jc _ _ _ _) (fun _ _=>rfl)) (@pv _ 2 _ _ rfl (.inl rfl) rfl rfl) (Ju _)) (@Jg _ _ _ (@Jt _ _ _ _ (@Yj _ _ _ _ (@Ja _ _ _ _ _ (@J0 _ _ _ _ _ _ _ _ _ _ _ _ _ _ _ _ _ _ _ _ (@pv _ 0 _ _ rfl (.inl rfl) rfl rfl) T.JJ T.ZT.m (Jfg T) (hr.mono (by decide)) T.ZT.b .nil Y1 (@Ja _ _ _ _ _ (@JA _ _ _ _ _ _ _ (@JM _) (@pv _ 1 _ _ rfl (.inl rfl) rfl rfl) (@Jc _ _ _ _) (fun _ _=>rfl)) (@Ja _ _ _ _ _ (@JA _ _ _ _ _ _ _ (@JM _) (@pv _ 1 _ _ rfl (.inl rfl) rfl rfl) (@Jc _ _ _ _) (fun _ _=>rfl)) (@Ja _ _ _ _ _ (@JA _ _ _ _ _ _ _ (@JM _) (@pv _ 1 _ _ rfl (.inl rfl) rfl rfl) (@Jc _ _ _ _) (fun _ _=>rfl)) (@Ja _ _ _ _ _ (@JA _ _ _ _ _ _ _ (@JM _) (@pv _ 1 _ _ rfl (.inl rfl) rfl rfl) (@Jc _ _ _ _) (fun _ _=>rfl)) (@Ja _ _ _ _ _ (@pv _ 4 _ _ rfl (.inl rfl) rfl rfl) (@Jb _) rfl) rfl) rfl) rfl) rfl) rfl rfl rfl) (@Jb _) rfl)))) (@Jw _)) (@Jg _ _ _ (@Jt _ _ _ _ (@JjQ _ _ _ _ _ _ _ rfl rfl T.JdG rfl T.Y2 (@Ja _ _ _ _ _ (@Jl _ _ _ _ _ _ _ _ (@JP _) (@JA _ _ _ _ _ _ _ (@J4 _) (@Yj _ _ _ _ (@Ja _ _ _ _ _ (@JA _ _ _ _ _ _ _ (@JM _) (@pv _ 1 _ _ rfl (.inl rfl) rfl rfl) (@Jc _ _ _ _) (fun _ _=>rfl)) (@Ja _ _ _ _ _ (@Jl _ _ _ _ _ _ _ _ (@Yq _) (@pv _ 3 _ _ rfl (.inl rfl) rfl rfl) (@JA _ _ _ _ _ _ _ (@JM _) (@pv _ 1 _ _ rfl (.inl rfl) rfl rfl) (@Jc _ _ _ _) (fun _ _=>rfl))) (@Jb _) rfl) rfl)) (@Zb _ _ _ _ _ _ _ _ _ (@JhN _) rfl T.Jh9 PyProof.Rows.boot_int (@Ja _ _ _ _ _ (@Jbw _ _ _ _ _ _ _ _ (@J2 _) (@JA _ _ _ _ _ _ _ (@JM _) (@pv _ 1 _ _ rfl (.inl rfl) rfl rfl) (@Jc _ _ _ _) (fun _ _=>rfl)) (@JR _ _ _ _) (Ju _)) (@Jb _) rfl) (by decide) (by decide) rfl rfl) (fun _ _=>rfl)) (@Jc _ _ _ _)) (@Jb _) rfl) rfl rfl)))),?_⟩;have c0:=B.c0;have c1:=B.c1;have tp:=YI (B.B.G.p3 p hp);obtain ⟨dx,lk,hk⟩:=B.ins;have hmm:0≤((m + 1:Nat):Int)∧((m + 1:Nat):Int)≤(t:Int):=by omega
  have em:(((m + 1:Nat):Int)).toNat=m + 1:=by omega
  replace hta:H ta=some (.tup [.str p,.int ((m + 1:Nat):Int),.int n,.str (hs r)]):=hta;generalize ((m + 1:Nat):Int)=M at hmm em hta;refine ⟨_,rfl,ta,_,_,.str (hs r),rfl,rfl,JK.of hta,rfl,_,rfl,rfl,_,rfl,?_⟩;by_cases hf:h=r
  ·refine YH (by rw [hf]; exact decide_eq_true rfl) ?_;refine ⟨_,rfl,k,dx,_,rfl,hk,rfl,_,rfl,ta,_,_,.str p,rfl,rfl,JK.of hta,rfl,_,rfl,ta,_,_,.int M,rfl,rfl,JK.of hta,rfl,_,rfl,ta,_,_,.int n,rfl,rfl,JK.of hta,rfl,_,rfl,ta,_,_,.str (hs r),rfl,rfl,JK.of hta,rfl,_,rfl,k,b,p,hs r,M,n,y,_,_,_,_,_,rfl,tp,ZH r,B,Jal ⟨hp,hmm,hn,Y0 r⟩,(fun _ _ _ r' hr' h=>absurd (by rw [← Yx hr']; exact hy) h),fun _ _ _ r' hr' _ H3 e3=>?_⟩;obtain rfl:=Yx hr';rw [em];obtain ⟨a',ha1,ha2,ha3⟩:=Jmp he c0 hn (by rw [hh,hf]) hy;have av:JfT (zs.map (·.2)) gs c (m + 1) p n r y=.int a':=by rw [JfT,if_neg he]; show Jm9 (ZM _ _ c m p n r y)=_; rw [ha1]; rfl
   rw [av];refine ⟨by show 1≤sizeLine; decide,fun l nl=>q l [a'] _ (e3.trans (Jf.upd nl)) (e3.free nl) Jh (by show 1≤21; decide) fun x hx=>?_⟩;rw [List.mem_singleton.mp hx];exact ⟨⟨ha2,ha3⟩,fun _=>ha1⟩
  ·refine J3 (decide_eq_false fun z=>hf (Yx (V.str.inj z)).symm) ?_;have ho:0≤own c n r∧own c n r≤20:=by unfold own; cases r <;> simp <;> omega
   have pk:atI [V.int n,V.int (c - n)] (if decide (V.str (hs r)=V.str "south")=true then 1 else 0)=some (.int (own c n r)):=by
    cases r
    ·rw [if_pos (by decide +kernel)]; rfl
    ·rw [if_neg (by decide +kernel)]; rfl
   refine ⟨_,rfl,ta,_,_,.int n,rfl,rfl,JK.of hta,rfl,_,rfl,_,rfl,ta,_,_,.int n,rfl,rfl,JK.of hta,rfl,_,_,rfl,rfl,by show 2≤sizeLine; decide,fun l5 n5=>?_⟩;have s5:=Jf.upd (o:=.lst [.int n,.int (c - n)]) n5;refine ⟨_,rfl,ta,_,_,.str (hs r),rfl,rfl,JK.of (s5 _ _ hta),rfl,rfl,.inr ⟨_,rfl,l5,_,_,.int (own c n r),rfl,rfl,Js.of Jh,pk,_,_,rfl,rfl,(own c n r).toNat + 1,?_,by omega,fun l nl=>?_⟩⟩
   ·rw [show (((own c n r).toNat + 1:Nat):Int)=own c n r + 1 by omega]
   ·refine q l ((List.range ((own c n r).toNat + 1)).map fun (i:Nat)=>(i:Int)) _ (s5.trans (Jf.upd nl)) (s5.free nl) ?_ (by rw [List.length_map,List.length_range]; omega) fun x hx=>?_
    ·rw [List.map_map]; exact Jh
    ·obtain ⟨i,hi,rfl⟩:=List.mem_map.mp hx;have:=List.mem_range.mp hi;exact ⟨⟨by omega,by omega⟩,fun z=>absurd z hf⟩
end
section
variable {P:Program} {w:World} {K:PySem.W.Frag} {mg:Str→Option Value} {base:Heap}
def Std (zs:List (Str×Str)) (gs ps:List Str) (c:Int) (h:Bool) (m:Nat) (H:Hp) (v:V):Prop:=∃ (ta:Addr) (w:Str) (n:Int) (r:Bool),v=.ref ta∧H ta=some (.tup (stV w m n r))∧w∈ps∧(0≤n∧n≤c)∧decide (JU zs gs c m w r≤n)=h
theorem Std.same {zs:List (Str×Str)} {gs ps:List Str} {c:Int} {h:Bool} {m:Nat} {H H':Hp} {v:V} (e:Jf H H') (z:Std zs gs ps c h m H v):Std zs gs ps c h m H' v:=let ⟨ta,w,n,r,h1,h2,h3⟩:=z; ⟨ta,w,n,r,h1,e _ _ h2,h3⟩
theorem JeR {H:Hp} {l ta:Addr} {o:HO} {ys:List V} (hl:∀ ys,H l≠some (.tup ys)) (h:H ta=some (.tup ys)):upd H l o ta=some (.tup ys):=by
 rw [Jq]
 ·exact h
 ·intro e; subst e; exact hl _ h
theorem Std.put {zs:List (Str×Str)} {gs ps:List Str} {c:Int} {h:Bool} {m:Nat} {H:Hp} {l:Addr} {o:HO} {v:V} (hl:∀ ys,H l≠some (.tup ys)) (z:Std zs gs ps c h m H v):Std zs gs ps c h m (upd H l o) v:=let ⟨ta,w,n,r,h1,h2,h3⟩:=z; ⟨ta,w,n,r,h1,JeR hl h2,h3⟩
def JmJ (T:Txt K mg):Sp:=fun vs H Q _=>∃ (k b t ta:Addr) (p:Str) (m:Nat) (n y a:Int) (r h:Bool) (ps:List Str) (zs:List (V×(Str×Str))) (gs ps':List Str) (zs':List (V×(Str×Str))) (gs':List Str) (c:Int) (T0:Nat),vs=[.ref k,.ref t,.int c,.ref ta,.str (hs h),.int y,.int a]∧BG K T.JD T.JC H k b t ps zs gs ps' zs' gs' c T0∧H ta=some (.tup (stV p (m + 1) n r))∧p∈ps'∧m + 1≤T0∧(0≤n∧n≤c)∧¬ Yl (zs'.map (·.2)) gs' (m + 1) p∧decide (JU (zs'.map (·.2)) gs' c (m + 1) p r≤n)=h∧((0≤y∧y≤own c n (!r))∧(h=(!r)→y=Z9 (Jm (zs'.map (·.2))) (gB gs') c m p n r))∧((0≤a∧a≤own c n r)∧(h=r→ZM (Jm (zs'.map (·.2))) (gB gs') c m p n r y=some a))∧∀ (l:Addr) (us:List V) (H':Hp),Jf H H'→H' l=some (.lst us)→us.length≤40→(∀ v∈us,Std (zs'.map (·.2)) gs' ps' c h m H' v)→Q (.ref l) H'
theorem Jne (T:Txt K mg):JN P w K mg base YO 10 T.Jhf T.JfJ ["_law_book", "_law_ground", "_law_total", "_law_at_here", "_law_hand_here", "_law_bid", "_law_reply"] (JmJ T):=by
 refine T.Jhm.F.ok Zh (fun vs H Q E h=>?_) (fun cdv A outer s H vs Q E hr h=>?_)
 ·obtain ⟨_,_,_,_,_,_,_,_,_,_,_,_,_,_,_,_,_,_,_,rfl,_⟩:=h;rfl
 ·obtain ⟨k,b,t,ta,p,m,n,y,a,r,h,ps,zs,gs,ps',zs',gs',c,T0,rfl,B,hta,hp',hm,hn,he,hh,⟨hy,hyb⟩,⟨ha,hab⟩,q⟩:=h;have hu:=Jbg hr;have szl:sizeLine=16777216:=sizeLine_eq;refine ⟨_,(@Jd _ _ _ _ _ (@J7 _ _ _ (@JiG _ _ _ _ _ _ (@pv _ 3 _ _ rfl (.inl rfl) rfl rfl) (@Jgb _ _ _ _ _ _ rfl (@Y5 _ _ _ _ _ (@JV _ _ 7 _ Zh.nd rfl (Or.inl rfl) (.inl rfl)) (@Y5 _ _ _ _ _ (@JV _ _ 8 _ Zh.nd rfl (Or.inr rfl) (by first | exact .inl rfl | exact .inr rfl | assumption)) (@Y5 _ _ _ _ _ (@JV _ _ 9 _ Zh.nd rfl (Or.inl rfl) (.inl rfl)) (@Y5 _ _ _ _ _ (@JV _ _ 10 _ Zh.nd rfl (Or.inl rfl) (.inl rfl)) (@Je0 _) rfl) rfl) rfl) rfl) rfl rfl) rfl rfl rfl)) (@Jd _ _ _ _ _ (@J7 _ _ _ (@JiG _ _ _ _ _ _ (@Jn _ _ _ _ _ _ _ _ _ _ _ _ _ _ _ T.JfW (JlA T) (hr.mono (by decide)) JE (@Ja _ _ _ _ _ (@pv _ 9 _ _ rfl (.inl rfl) rfl rfl) (@Ja _ _ _ _ _ (@Jl _ _ _ _ _ _ _ _ (@Yq _) (@pv _ 2 _ _ rfl (.inl rfl) rfl rfl) (@pv _ 9 _ _ rfl (.inl rfl) rfl rfl)) (@Ja _ _ _ _ _ (@pv _ 10 _ _ rfl (.inl rfl) rfl rfl) (@Ja _ _ _ _ _ (@pv _ 5 _ _ rfl (.inl rfl) rfl rfl) (@Ja _ _ _ _ _ (@pv _ 6 _ _ rfl (.inl rfl) rfl rfl) (@Jb _) rfl) rfl) rfl) rfl) rfl) rfl (by decide) rfl rfl) (@Jgb _ _ _ _ _ _ rfl (@Y5 _ _ _ _ _ (@JV _ _ 11 _ Zh.nd rfl (Or.inl rfl) (.inl rfl)) (@Y5 _ _ _ _ _ (@JV _ _ 12 _ Zh.nd rfl (Or.inr rfl) (by first | exact .inl rfl | exact .inr rfl | assumption)) (@Y5 _ _ _ _ _ (@JV _ _ 13 _ Zh.nd rfl (Or.inl rfl) (.inl rfl)) (@Y5 _ _ _ _ _ (@JV _ _ 14 _ Zh.nd rfl (Or.inr rfl) (by first | exact .inl rfl | exact .inr rfl | assumption)) (@Je0 _) rfl) rfl) rfl) rfl) rfl rfl) rfl rfl rfl)) (@Jd _ _ _ _ _ (@Jr _ _ 15 _ _ _ _ Zh.nd rfl (Or.inl rfl) (@Jn _ _ _ _ _ _ _ _ _ _ _ _ _ _ _ T.JgD (JjT T) (hr.mono (by decide)) JE (@Ja _ _ _ _ _ (@pv _ 1 _ _ rfl (.inl rfl) rfl rfl) (@Ja _ _ _ _ _ (@pv _ 7 _ _ rfl (.inl rfl) rfl rfl) (@Jb _) rfl) rfl) rfl (by decide) rfl rfl) rfl (.inl rfl)) (@Jd _ _ _ _ _ (@J7 _ _ _ (@JL _ _ _ _ _ _ _ _ (@Jp _ _ _ _ _ _ _ _ (@J2 _) (@pv _ 11 _ _ rfl (.inl rfl) rfl rfl) (@pv _ 4 _ _ rfl (.inl rfl) rfl rfl) (Ju _)) (@Jg _ _ _ (@Jr _ _ 15 _ _ _ _ Zh.nd rfl (Or.inl rfl) (@Yj _ _ _ _ (@Ja _ _ _ _ _ (@J0 _ _ _ _ _ _ _ _ _ _ _ _ _ _ _ _ _ _ _ _ (@pv _ 0 _ _ rfl (.inl rfl) rfl rfl) T.JJ T.Zd.m (Jdb T) (hr.mono (by decide)) T.Zd.b .nil Y1 (@Ja _ _ _ _ _ (@pv _ 7 _ _ rfl (.inl rfl) rfl rfl) (@Ja _ _ _ _ _ (@pv _ 8 _ _ rfl (.inr (.inl rfl)) rfl rfl) (@Ja _ _ _ _ _ (@pv _ 12 _ _ rfl (.inr (.inl rfl)) rfl rfl) (@Ja _ _ _ _ _ (@pv _ 14 _ _ rfl (.inr (.inl rfl)) rfl rfl) (@Ja _ _ _ _ _ (@pv _ 4 _ _ rfl (.inl rfl) rfl rfl) (@Jb _) rfl) rfl) rfl) rfl) rfl) rfl rfl rfl) (@Jb _) rfl)) rfl (.inl rfl))) (@Jw _))) (@Jg _ _ _ (@Jt _ _ _ _ (@Jda _ _ _ _ _ _ _ 1 ["_law_step", "_law_coins", "_law_holder", "_law_left"] [12,14,8] _ _ _ _ ["_law_book", "_law_ground", "_law_total", "_law_at_here", "_law_hand_here", "_law_bid", "_law_reply", "_law_place", "_law_left", "_law_north", "_law_ribbon", "_law_mover", "_law_coins", "_law_rest", "_law_holder", "_law_steps"] ((Jo JeX).names) (by decide +kernel) (@Zt _ _ _ _ (@pv _ 15 _ _ rfl (.inl rfl) rfl rfl)) (fun _ _ _ _=>(@ZV _ _ _ _ _ _ _ _ _ 0 (by decide +kernel) rfl rfl)) (fun _ _ _ _=>(@Jbv _)) (fun _ _ _ _=>(@YG _ _ _ _ _ (@Ja _ _ _ _ _ (@ZA _ _ _ _ _ _ _ _ _ 0 rfl rfl (by decide) (by decide)) (@Ja _ _ _ _ _ (@Jl _ _ _ _ _ _ _ _ (@Yq _) (@ZW _ _ _ _ _ _ _ _ _ 3 rfl rfl (by decide) (by decide)) (@Jc _ _ _ _)) (@Ja _ _ _ _ _ (@ZW _ _ _ _ _ _ _ _ _ 1 rfl rfl (by decide) (by decide)) (@Ja _ _ _ _ _ (@ZW _ _ _ _ _ _ _ _ _ 2 rfl rfl (by decide) (by decide)) (@Jb _) rfl) rfl) rfl) rfl))) rfl rfl rfl (by intro _; rfl)))))))),?_⟩
  try dsimp only [cxK,Jdo]
  have c0:=B.B.c0;have tp:=YI (B.B.B.G.p3 p hp');obtain ⟨dx,lk,hk⟩:=B.B.ins;have hmm:0≤((m + 1:Nat):Int)∧((m + 1:Nat):Int)≤(T0:Int):=by omega
  have em:(((m + 1:Nat):Int)).toNat=m + 1:=by omega
  have em1:((m + 1:Nat):Int) - 1=(m:Int):=by omega
  replace hta:H ta=some (.tup [.str p,.int ((m + 1:Nat):Int),.int n,.str (hs r)]):=hta;generalize ((m + 1:Nat):Int)=M at hmm em em1 hta;have hwa:=Jk2 (Jk4 he c0 hn hh hy ha hyb hab);have ab:=Jjn (r:=r) hn hy.1 hy.2 ha.1 ha.2;refine ⟨fun σ1 H1=>H1=H∧σ1=[some (.ref k),some (.ref t),some (.int c),some (.ref ta),some (.str (hs h)),some (.int y),some (.int a),some (.str p),some (.int M),some (.int n),some (.str (hs r)),none,none,none,none,none],?_,?_⟩
  ·exact ⟨_,rfl,ta,_,rfl,JK.of hta,rfl,_,_,rfl,_,_,rfl,_,_,rfl,_,_,rfl,rfl,rfl,rfl⟩
  rintro σ1 H1 ⟨rfl,rfl⟩;obtain ⟨s',hs'⟩:=Jgd n (c - n) r y a;generalize hl:(after n r y a).1=l at hs' hwa;generalize hn':(after n r y a).2.1=n' at hs' hwa ab;generalize hr2:(after n r y a).2.2=r2 at hs' hwa;refine ⟨fun σ1 H2=>Jf H1 H2∧σ1=[some (.ref k),some (.ref t),some (.int c),some (.ref ta),some (.str (hs h)),some (.int y),some (.int a),some (.str p),some (.int M),some (.int n),some (.str (hs r)),some (.str (hs l)),some (.int n'),some (.int s'),some (.str (hs r2)),none],?_,?_⟩
  ·refine ⟨_,rfl,_,rfl,_,rfl,_,_,rfl,rfl,_,rfl,_,rfl,_,rfl,n,c - n,y,a,r,rfl,fun tu H6 e6 htu=>?_⟩;rw [hs'] at htu;exact ⟨tu,_,rfl,JK.of htu,rfl,_,_,rfl,_,_,rfl,_,_,rfl,_,_,rfl,rfl,e6,rfl⟩
  rintro σ1 H2 ⟨e2,rfl⟩;refine ⟨_,rfl,_,rfl,t,p,ps,zs,gs,rfl,B.G.same e2,fun lw ws H3 e3 hlw wp wsrt=>?_⟩;obtain rfl:=Jmv B.zo (B.zp.map _) wp wsrt;have hwl:=Jd8 B.B.B.G p;have e13:=e2.trans e3;refine ⟨fun σ1 H4=>∃ (ls:Addr) (ws:List Str),Jf H3 H4∧H4 ls=some (.lst (ws.map V.str))∧ws.length≤40∧(∀ x∈ws,x∈ps'∧decide (JU (zs'.map (·.2)) gs' c m x r2≤n')=h)∧σ1=[some (.ref k),some (.ref t),some (.int c),some (.ref ta),some (.str (hs h)),some (.int y),some (.int a),some (.str p),some (.int M),some (.int n),some (.str (hs r)),some (.str (hs l)),some (.int n'),some (.int s'),some (.str (hs r2)),some (.ref ls)],?_,?_⟩
  ·refine ⟨_,rfl,_,rfl,rfl,_,rfl,?_⟩;by_cases hf:l=h
   ·refine YH (by rw [hf]; exact decide_eq_true rfl) ?_;refine ⟨_,rfl,k,dx,_,rfl,e13 _ _ hk,rfl,_,rfl,_,rfl,_,rfl,_,rfl,_,rfl,k,b,p,hs r2,hs h,M,n',_,_,_,_,_,rfl,tp,ZH r2,ZH h,B.B.same e13,Jal ⟨hp',hmm,ab,Y0 r2⟩,(fun _ h=>by rw [Y0] at h; cases h),fun _ _ _ r' h' hr' hh' H9 e9=>?_⟩;obtain rfl:=Yx hr';obtain rfl:=Yx hh';rw [em];rw [hf] at hwa;obtain ⟨w2,hw2⟩:=Option.isSome_iff_exists.mp (hwa.trans (by cases h <;> rfl));have sv:Jcv (zs'.map (·.2)) gs' c (m + 1) p n' r2 h=.str w2:=by rw [Jcv,if_neg he]; show Jek (Yt _ _ c m p n' r2 h)=_; rw [hw2]; rfl
    rw [sv];refine ⟨by show 1≤sizeLine; decide,fun ls ns=>⟨ls,[w2],e9.trans (Jf.upd ns),Jh,by show 1≤40; decide,fun x hx=>?_,rfl⟩⟩;rw [List.mem_singleton.mp hx];exact ⟨Jds B.B.B.G (Jhs hw2).1,(Jhs hw2).2⟩
   ·refine J3 (decide_eq_false fun z=>hf (Yx (V.str.inj z))) ⟨lw,_,Jf.refl _,hlw,hwl,fun x hx=>⟨Jds B.B.B.G hx,?_⟩,rfl⟩;rw [Jn5 (hwa.trans (JnU hf).1) hx];exact (JnU hf).2
  rintro σ1 H4 ⟨ls,ws,e4,hls,hwl',hws,rfl⟩;have e14:=e13.trans e4;refine ⟨_,rfl,ls,rfl,⟨_,Js.of hls⟩,fun D hD=>?_⟩;refine Jmb (xs:=ws.map V.str) (fun i ys H5=>Jf H4 H5∧H5 D=some (.lst ys)∧ys.length=i∧i≤ws.length∧∀ v∈ys,Std (zs'.map (·.2)) gs' ps' c h m H5 v) rfl (fun i ys H5 z=>Js.of (z.1 _ _ hls)) ⟨Jf.upd hD,Jh,rfl,Nat.zero_le _,fun v hv=>nomatch hv⟩ (fun i ys H5 z=>z.2.1) ?_ ?_
  ·rintro i x ys H5 hx ⟨e5,hy5,hyl,hi,hys⟩;rw [List.getElem?_map] at hx;obtain ⟨w',hw1,rfl⟩:=Option.map_eq_some_iff.mp hx;have hi':i < ws.length:=(List.getElem?_eq_some_iff.mp hw1).1;obtain ⟨hw2,hw3⟩:=hws w' (List.mem_of_getElem? hw1);refine tcT ⟨_,rfl,_,rfl,_,_,rfl,rfl,_,rfl,_,rfl,by show 4≤sizeLine; decide,fun tb nb=>?_⟩;dsimp only;rw [em1];have s6:=Jf.upd (o:=.tup [.str w',.int (m:Int),.int n',.str (hs r2)]) nb;have hD6:=s6 _ _ hy5;have htb:upd H5 tb (.tup [.str w',.int (m:Int),.int n',.str (hs r2)]) tb=some (.tup (stV w' m n' r2)):=Jh;generalize upd H5 tb (.tup [.str w',.int (m:Int),.int n',.str (hs r2)])=H6 at s6 hD6 htb;have nt:∀ ys,H6 D≠some (.tup ys):=fun _ z=>by rw [hD6] at z; cases z
   refine ⟨hD6,by omega,fun b' u e=>?_,Jh,by rw [List.length_append,hyl]; rfl,hi',fun v hv=>?_⟩
   ·rw [Jq (JB e hD)]; exact s6 _ _ (e5 b' u e)
   ·rcases List.mem_append.mp hv with hv | hv
    ·exact Std.put nt ((hys v hv).same s6)
    ·rw [List.mem_singleton.mp hv];exact ⟨tb,w',n',r2,rfl,JeR nt htb,hw2,ab,hw3⟩
  ·rintro ys H5 ⟨e5,hD5,hyl,hi,hys⟩;exact q D ys H5 (e14.trans e5) hD5 (by rw [List.length_map] at hyl; omega) hys
end
section
variable {P:Program} {w:World} {K:PySem.W.Frag} {mg:Str→Option Value} {base:Heap}
def Jlk (T:Txt K mg):Sp:=fun vs H Q _=>∃ (k b t ta:Addr) (p:Str) (m:Nat) (n:Int) (r h:Bool) (ps:List Str) (zs:List (V×(Str×Str))) (gs ps':List Str) (zs':List (V×(Str×Str))) (gs':List Str) (c:Int) (T0:Nat),vs=[.ref k,.ref t,.int c,.ref ta,.str (hs h)]∧BG K T.JD T.JC H k b t ps zs gs ps' zs' gs' c T0∧H ta=some (.tup (stV p (m + 1) n r))∧p∈ps'∧m + 1≤T0∧(0≤n∧n≤c)∧¬ Yl (zs'.map (·.2)) gs' (m + 1) p∧decide (JU (zs'.map (·.2)) gs' c (m + 1) p r≤n)=h∧∀ (l:Addr) (us:List V) (H':Hp),Jf H H'→H' l=some (.lst us)→us.length≤17640→(∀ v∈us,Std (zs'.map (·.2)) gs' ps' c h m H' v)→Q (.ref l) H'
theorem JlD (T:Txt K mg):JN P w K mg base YO 11 T.JfO T.JeC ["_law_book", "_law_ground", "_law_total", "_law_at_here", "_law_hand_here"] (Jlk T):=by
 refine T.JfZ.F.ok JbY (fun vs H Q E h=>?_) (fun cdv A outer s H vs Q E hr h=>?_)
 ·obtain ⟨_,_,_,_,_,_,_,_,_,_,_,_,_,_,_,_,_,rfl,_⟩:=h;rfl
 ·obtain ⟨k,b,t,ta,p,m,n,r,h,ps,zs,gs,ps',zs',gs',c,T0,rfl,B,hta,hp',hm,hn,he,hh,q⟩:=h;have hu:=Jbg hr;have szl:sizeLine=16777216:=sizeLine_eq;refine ⟨_,(@Jd _ _ _ _ _ (@Jr _ _ 5 _ _ _ _ JbY.nd rfl (Or.inl rfl) (@Jon _ _ _ _ _ (@JiH _ _ _ _ _ _ _ _ _ (@JR _ _ _ _) (@JA _ _ _ _ _ _ _ (@JM _) (@pv _ 3 _ _ rfl (.inl rfl) rfl rfl) (@Jc _ _ _ _) (fun _ _=>rfl)) (@JiH _ _ _ _ _ _ _ _ _ (@JR _ _ _ _) (@Jl _ _ _ _ _ _ _ _ (@Yq _) (@pv _ 2 _ _ rfl (.inl rfl) rfl rfl) (@JA _ _ _ _ _ _ _ (@JM _) (@pv _ 3 _ _ rfl (.inl rfl) rfl rfl) (@Jc _ _ _ _) (fun _ _=>rfl))) (@Jom _ _))) rfl rfl (by decide) (by decide)) rfl (.inl rfl)) (@Jd _ _ _ _ _ (@Jr _ _ 6 _ _ _ _ JbY.nd rfl (Or.inl rfl) (@Yj _ _ _ _ (@Jb _)) rfl (.inl rfl)) (@Jd _ _ _ _ _ (@Yv _ _ _ _ _ _ _ _ PassesOwn.never rfl (@Zt _ _ _ _ (@Jn _ _ _ _ _ _ _ _ _ _ _ _ _ _ _ T.Jjt (Jot T) (hr.mono (by decide)) JE (@Ja _ _ _ _ _ (@pv _ 0 _ _ rfl (.inl rfl) rfl rfl) (@Ja _ _ _ _ _ (@pv _ 3 _ _ rfl (.inl rfl) rfl rfl) (@Ja _ _ _ _ _ (@pv _ 4 _ _ rfl (.inl rfl) rfl rfl) (@Ja _ _ _ _ _ (@pv _ 2 _ _ rfl (.inl rfl) rfl rfl) (@Jb _) rfl) rfl) rfl) rfl) rfl (by decide) rfl rfl)) (@JV _ _ 7 _ JbY.nd rfl (Or.inl rfl) (.inl rfl)) (@Jd _ _ _ _ _ (@JL _ _ _ _ _ _ _ _ (@PW.pt _ _ _ (@ZQ _ _ _ _ _ _ _ (@JdA _ _ _ _ (@JbZ _ _ _ (@Jn _ _ _ _ _ _ _ _ _ _ _ _ _ _ _ T.Jfd (JiO T) (hr.mono (by decide)) JE (@Ja _ _ _ _ _ (@pv _ 7 _ _ rfl (.inl rfl) rfl rfl) (@Jb _) rfl) rfl (by decide) rfl rfl) (by intro _; rfl))) (@ZQ _ _ _ _ _ _ _ (@Jp _ _ _ _ _ _ _ _ (@Jbe _) (@pv _ 7 _ _ rfl (.inl rfl) rfl rfl) (@Jc _ _ _ _) (Ju _)) (@Jar _ _ _ _ (@Jp _ _ _ _ _ _ _ _ (@Jbf _) (@pv _ 7 _ _ rfl (.inl rfl) rfl rfl) (@JdC _ _ _ _ _ _ hu (@pv _ 5 _ _ rfl (.inl rfl) rfl rfl) (@Jn _ _ _ _ _ _ _ _ _ _ _ _ _ _ _ T.Jff (Jge T) (hr.mono (by decide)) JE (@Ja _ _ _ _ _ (@JA _ _ _ _ _ _ _ (@JM _) (@pv _ 3 _ _ rfl (.inl rfl) rfl rfl) (@Jc _ _ _ _) (fun _ _=>rfl)) (@Jb _) rfl) rfl (by decide) rfl rfl) (fun _ _=>rfl)) (Ju _)))))) (@Jg _ _ _ (@Jt _ _ _ _ (@Yj _ _ _ _ (@Ja _ _ _ _ _ (@Jb0 _ _ _) (@Jb _) rfl)))) (@Jw _)) (@Jg _ _ _ (@Yv _ _ _ _ _ _ _ _ PassesOwn.never rfl (@Zt _ _ _ _ (@Jn _ _ _ _ _ _ _ _ _ _ _ _ _ _ _ T.JeN (Jky T) (hr.mono (by decide)) JE (@Ja _ _ _ _ _ (@pv _ 0 _ _ rfl (.inl rfl) rfl rfl) (@Ja _ _ _ _ _ (@pv _ 3 _ _ rfl (.inl rfl) rfl rfl) (@Ja _ _ _ _ _ (@pv _ 4 _ _ rfl (.inl rfl) rfl rfl) (@Ja _ _ _ _ _ (@pv _ 2 _ _ rfl (.inl rfl) rfl rfl) (@Ja _ _ _ _ _ (@pv _ 7 _ _ rfl (.inl rfl) rfl rfl) (@Jb _) rfl) rfl) rfl) rfl) rfl) rfl (by decide) rfl rfl)) (@JV _ _ 8 _ JbY.nd rfl (Or.inl rfl) (.inl rfl)) (@Jd _ _ _ _ _ (@JL _ _ _ _ _ _ _ _ (@PW.pt _ _ _ (@ZQ _ _ _ _ _ _ _ (@JdA _ _ _ _ (@JbZ _ _ _ (@Jn _ _ _ _ _ _ _ _ _ _ _ _ _ _ _ T.Jfd (JiO T) (hr.mono (by decide)) JE (@Ja _ _ _ _ _ (@pv _ 8 _ _ rfl (.inl rfl) rfl rfl) (@Jb _) rfl) rfl (by decide) rfl rfl) (by intro _; rfl))) (@ZQ _ _ _ _ _ _ _ (@Jp _ _ _ _ _ _ _ _ (@Jbe _) (@pv _ 8 _ _ rfl (.inl rfl) rfl rfl) (@Jc _ _ _ _) (Ju _)) (@Jar _ _ _ _ (@Jp _ _ _ _ _ _ _ _ (@Jbf _) (@pv _ 8 _ _ rfl (.inl rfl) rfl rfl) (@JdC _ _ _ _ _ _ hu (@pv _ 5 _ _ rfl (.inl rfl) rfl rfl) (@JA _ _ _ _ _ _ _ (@JM _) (@pv _ 3 _ _ rfl (.inl rfl) rfl rfl) (@Jc _ _ _ _) (fun _ _=>rfl)) (fun _ _=>rfl)) (Ju _)))))) (@Jg _ _ _ (@Jt _ _ _ _ (@Yj _ _ _ _ (@Ja _ _ _ _ _ (@Jb0 _ _ _) (@Jb _) rfl)))) (@Jw _)) (@Jg _ _ _ (@JG _ _ _ _ (@JaE _ _ _ _ _ _ _ _ _ _ _ _ PySem.F.plainAttrs_list PySem.F.slot_list_extend PySem.F.type_list_extend (@JhB _) (@pv _ 6 _ _ rfl (.inl rfl) rfl rfl) (@Ja _ _ _ _ _ (@Jn _ _ _ _ _ _ _ _ _ _ _ _ _ _ _ T.Jhm (Jne T) (hr.mono (by decide)) JE (@Ja _ _ _ _ _ (@pv _ 0 _ _ rfl (.inl rfl) rfl rfl) (@Ja _ _ _ _ _ (@pv _ 1 _ _ rfl (.inl rfl) rfl rfl) (@Ja _ _ _ _ _ (@pv _ 2 _ _ rfl (.inl rfl) rfl rfl) (@Ja _ _ _ _ _ (@pv _ 3 _ _ rfl (.inl rfl) rfl rfl) (@Ja _ _ _ _ _ (@pv _ 4 _ _ rfl (.inl rfl) rfl rfl) (@Ja _ _ _ _ _ (@pv _ 7 _ _ rfl (.inl rfl) rfl rfl) (@Ja _ _ _ _ _ (@pv _ 8 _ _ rfl (.inl rfl) rfl rfl) (@Jb _) rfl) rfl) rfl) rfl) rfl) rfl) rfl) rfl (by decide) rfl rfl) (@Jb _) rfl) rfl rfl rfl rfl rfl) rfl))) (by intro _; rfl)))) (by intro _; rfl)) (@Jg _ _ _ (@Jt _ _ _ _ (@pv _ 6 _ _ rfl (.inl rfl) rfl rfl)))))),?_⟩
  try dsimp only [cxK,Jdo]
  intro d hd;have sd:=Jf.upd (o:=.dK []) hd;have hta1:=sd _ _ hta;refine ⟨_,rfl,ta,_,_,.int n,rfl,rfl,JK.of hta1,rfl,_,rfl,_,rfl,ta,_,_,.int n,rfl,rfl,JK.of hta1,rfl,_,_,rfl,rfl,Jh,JeY n (c - n),rfl,(by show 2≤15; decide),?_⟩;have hd2:upd (upd H d (.dK [])) d (.dK (JaV [] (JeY n (c - n)))) d=some (.dK (JaV [] (JeY n (c - n)))):=Jh;have e1:Jf H (upd (upd H d (.dK [])) d (.dK (JaV [] (JeY n (c - n))))):=by rw [JjF]; exact Jf.upd hd
  generalize upd (upd H d (.dK [])) d (.dK (JaV [] (JeY n (c - n))))=H1 at hd2 e1;have gD:∀ {H2:Hp} (x:Bool),Jf H1 H2→Ja7 H2 d (.str (hs x)) (some (.int (own c n x))):=fun {H2} x e=>by
   have z:=Ja7.k (k:=Sum.inr (hs x)) (e _ _ hd2);rw [Jm3] at z;exact z
  refine ⟨by show 0≤sizeLine; decide,fun lf nf=>?_⟩;have s2:=Jf.upd (o:=.lst []) nf;have e2:=e1.trans s2;refine ⟨_,rfl,_,rfl,_,rfl,_,rfl,k,b,ta,p,m,n,r,h,ps',zs',gs',c,T0,rfl,B.B.same e2,e2 _ _ hta,hp',hm,hn,he,hh,fun lb bs H3 e3 nlb hlb hbl hbs=>?_⟩;have nbf:lb≠lf:=fun z=>by subst z; rw [Jh] at nlb; cases nlb
  refine ⟨lb,rfl,⟨_,Js.of hlb⟩,Ja4 (xs:=bs.map V.int) (fun i σ H4=>∃ (us:List V) (v7 v8:Option V),Jf H1 H4∧H4 lf=some (.lst us)∧H4 lb=some (.lst (bs.map V.int))∧us.length≤i * 840∧(∀ v∈us,Std (zs'.map (·.2)) gs' ps' c h m H4 v)∧σ=[some (.ref k),some (.ref t),some (.int c),some (.ref ta),some (.str (hs h)),some (.ref d),some (.ref lf),v7,v8]) ⟨[],_,_,s2.trans e3,e3 _ _ Jh,hlb,Nat.zero_le _,(fun v hv=>nomatch hv),rfl⟩ (fun i σ H4 _ z=>let ⟨_,_,_,_,_,z,_⟩:=z; Js.of z) ?_ ?_⟩
  ·rintro i x σ H4 hx ⟨us,v7,v8,e4,hlf,hlb4,hul,hus,rfl⟩;rw [List.getElem?_map] at hx;obtain ⟨y,hy1,rfl⟩:=Option.map_eq_some_iff.mp hx;have hi:i < bs.length:=(List.getElem?_eq_some_iff.mp hy1).1;have hyy:=hbs y (List.mem_of_getElem? hy1);have hy:=hyy.1;have e14:=e1.trans e4;refine ⟨_,rfl,y,rfl,_,rfl,Zk ⟨_,rfl,_,_,rfl,rfl,_,rfl,J3 (decide_eq_false (by omega)) ⟨_,rfl,_,rfl,_,rfl,ta,_,_,.str (hs r),rfl,rfl,JK.of (e14 _ _ hta),rfl,r,rfl,d,_,rfl,gD (!r) e4,_,_,rfl,rfl,_,rfl,J3 (decide_eq_false (by omega)) ?_⟩⟩⟩;refine ⟨_,rfl,_,rfl,_,rfl,_,rfl,_,rfl,k,b,ta,p,m,n,y,r,h,ps',zs',gs',c,T0,rfl,B.B.same e14,e14 _ _ hta,hp',hm,hn,he,hh,hy,fun la as H5 e5 nla hla hal has=>?_⟩;have naf:la≠lf:=fun z=>by subst z; rw [hlf] at nla; cases nla
   refine ⟨la,rfl,⟨_,Js.of hla⟩,Ja4 (xs:=as.map V.int) (fun j σ H6=>∃ (us:List V) (v8:Option V),Jf H1 H6∧H6 lf=some (.lst us)∧H6 lb=some (.lst (bs.map V.int))∧H6 la=some (.lst (as.map V.int))∧us.length≤i * 840 + j * 40∧(∀ v∈us,Std (zs'.map (·.2)) gs' ps' c h m H6 v)∧σ=[some (.ref k),some (.ref t),some (.int c),some (.ref ta),some (.str (hs h)),some (.ref d),some (.ref lf),some (.int y),v8]) ⟨us,_,e4.trans e5,e5 _ _ hlf,e5 _ _ hlb4,hla,hul,(fun v hv=>(hus v hv).same e5),rfl⟩ (fun j σ H6 _ z=>let ⟨_,_,_,_,_,z,_⟩:=z; Js.of z) ?_ ?_⟩
   ·rintro j x σ H6 hx ⟨us,v8,e6,hlf6,hlb6,hla6,hul6,hus6,rfl⟩;rw [List.getElem?_map] at hx;obtain ⟨a,ha1,rfl⟩:=Option.map_eq_some_iff.mp hx;have hj:j < as.length:=(List.getElem?_eq_some_iff.mp ha1).1;have haa:=has a (List.mem_of_getElem? ha1);have ha:=haa.1;have e16:=e1.trans e6;refine ⟨_,rfl,a,rfl,_,rfl,Zk ⟨_,rfl,_,_,rfl,rfl,_,rfl,J3 (decide_eq_false (by omega)) ⟨_,rfl,_,rfl,_,rfl,ta,_,_,.str (hs r),rfl,rfl,JK.of (e16 _ _ hta),rfl,d,_,rfl,gD r e6,_,_,rfl,rfl,_,rfl,J3 (decide_eq_false (by omega)) ?_⟩⟩⟩;refine ⟨_,rfl,.inl ⟨rfl,_,Js.of hlf6⟩,_,rfl,_,rfl,_,rfl,_,rfl,_,rfl,_,rfl,_,rfl,k,b,t,ta,p,m,n,y,a,r,h,ps,zs,gs,ps',zs',gs',c,T0,rfl,B.same e16,e16 _ _ hta,hp',hm,hn,he,hh,hyy,haa,fun lc ws H7 e7 hlc hcl hws=>?_⟩;have hlf7:=e7 _ _ hlf6;have nt:∀ ys,H7 lf≠some (.tup ys):=fun _ z=>by rw [hlf7] at z; cases z
    refine ⟨lf,lc,us,ws,rfl,rfl,hlf7,hlc,by omega,us ++ ws,_,fun b' u e=>?_,Jh,?_,?_,by rw [List.length_append]; omega,fun v hv=>?_,rfl⟩
    ·rw [Jq (JB e nf)]; exact e7 _ _ (e6 b' u e)
    ·rw [Jq nbf]; exact e7 _ _ hlb6
    ·rw [Jq naf]; exact e7 _ _ hla6
    ·rcases List.mem_append.mp hv with hv | hv
     ·exact Std.put nt ((hus6 v hv).same e7)
     ·exact Std.put nt (hws v hv)
   ·rintro σ H6 ⟨us,v8,e6,hlf6,hlb6,hla6,hul6,hus6,rfl⟩;rw [List.length_map] at hul6;exact ⟨us,_,_,e6,hlf6,hlb6,by omega,hus6,rfl⟩
  ·rintro σ H4 ⟨us,v7,v8,e4,hlf,hlb4,hul,hus,rfl⟩;rw [List.length_map] at hul;exact ⟨_,rfl,q lf us H4 (e1.trans e4) hlf (by omega) hus⟩
end
section
variable {P:Program} {w:World} {K:PySem.W.Frag} {mg:Str→Option Value} {base:Heap}
def Jlc (T:Txt K mg):Sp:=fun vs H Q _=>∃ (k b t ta:Addr) (p:Str) (m:Nat) (n:Int) (r h:Bool) (ps:List Str) (zs:List (V×(Str×Str))) (gs ps':List Str) (zs':List (V×(Str×Str))) (gs':List Str) (c:Int) (T0:Nat),vs=[.ref k,.ref t,.ref ta,.str (hs h)]∧BG K T.JD T.JC H k b t ps zs gs ps' zs' gs' c T0∧H ta=some (.tup (stV p m n r))∧p∈ps'∧m≤T0∧(0≤n∧n≤c)∧decide (JU (zs'.map (·.2)) gs' c m p r≤n)=h∧∀ H',Jf H H'→Q (.bl true) H'
theorem JlB (T:Txt K mg):JN P w K mg base YO 10 T.JfM T.JeA ["_law_book", "_law_ground", "_law_at_here", "_law_hand_here"] (Jlc T):=by
 refine T.JfX.F.ok Jea (fun vs H Q E h=>?_) (fun cdv A outer s H vs Q E hr h=>?_)
 ·obtain ⟨_,_,_,_,_,_,_,_,_,_,_,_,_,_,_,_,_,rfl,_⟩:=h;rfl
 ·obtain ⟨k,b,t,ta,p,m,n,r,h,ps,zs,gs,ps',zs',gs',c,T0,rfl,B,hta,hp',hm,hn,hh,q⟩:=h;have hu:=Jbg hr;have szl:sizeLine=16777216:=sizeLine_eq;refine ⟨_,(@Jd _ _ _ _ _ (@Jr _ _ 4 _ _ _ _ Jea.nd rfl (Or.inl rfl) (@J0 _ _ _ _ _ _ _ _ _ _ _ _ _ _ _ _ _ _ _ _ (@pv _ 0 _ _ rfl (.inl rfl) rfl rfl) T.JJ T.Ys.m (JaG T) (hr.mono (by decide)) T.Ys.b .nil Y1 (@Ja _ _ _ _ _ (@JA _ _ _ _ _ _ _ (@JM _) (@pv _ 2 _ _ rfl (.inl rfl) rfl rfl) (@Jc _ _ _ _) (fun _ _=>rfl)) (@Ja _ _ _ _ _ (@JA _ _ _ _ _ _ _ (@JM _) (@pv _ 2 _ _ rfl (.inl rfl) rfl rfl) (@Jc _ _ _ _) (fun _ _=>rfl)) (@Ja _ _ _ _ _ (@JA _ _ _ _ _ _ _ (@JM _) (@pv _ 2 _ _ rfl (.inl rfl) rfl rfl) (@Jc _ _ _ _) (fun _ _=>rfl)) (@Ja _ _ _ _ _ (@JA _ _ _ _ _ _ _ (@JM _) (@pv _ 2 _ _ rfl (.inl rfl) rfl rfl) (@Jc _ _ _ _) (fun _ _=>rfl)) (@Jb _) rfl) rfl) rfl) rfl) rfl rfl rfl) rfl (.inl rfl)) (@Jd _ _ _ _ _ (@Jr _ _ 5 _ _ _ _ Jea.nd rfl (Or.inl rfl) (@Jn _ _ _ _ _ _ _ _ _ _ _ _ _ _ _ T.JgC (JiN T) (hr.mono (by decide)) JE (@Ja _ _ _ _ _ (@pv _ 1 _ _ rfl (.inl rfl) rfl rfl) (@Ja _ _ _ _ _ (@JA _ _ _ _ _ _ _ (@JM _) (@pv _ 2 _ _ rfl (.inl rfl) rfl rfl) (@Jc _ _ _ _) (fun _ _=>rfl)) (@Ja _ _ _ _ _ (@JA _ _ _ _ _ _ _ (@JM _) (@pv _ 2 _ _ rfl (.inl rfl) rfl rfl) (@Jc _ _ _ _) (fun _ _=>rfl)) (@Jb _) rfl) rfl) rfl) rfl (by decide) rfl rfl) rfl (.inl rfl)) (@Jg _ _ _ (@Jt _ _ _ _ (@JiL _ _ _ _ _ _ _ (@JS _ _ _ _ _ _ _ _ _ (@JbU _) rfl T.Jat PyProof.Rows.boot_isinstance (@Ja _ _ _ _ _ (@pv _ 4 _ _ rfl (.inl rfl) rfl rfl) (@Ja _ _ _ _ _ (@Jgc _ _ _ _ rfl T.JkA PyProof.Rows.boot_str (by decide) (by decide)) (@Jb _) rfl) rfl) (by decide) (by decide) rfl rfl) (@JiL _ _ _ _ _ _ _ (@Jbw _ _ _ _ _ _ _ _ (@J2 _) (@pv _ 4 _ _ rfl (.inl rfl) rfl rfl) (@pv _ 3 _ _ rfl (.inl rfl) rfl rfl) (Ju _)) (@JiK _ _ _ _ _ (@Jp2 _ _ _ _ _ _ _ (@Jbw _ _ _ _ _ _ _ _ (@J2 _) (@pv _ 5 _ _ rfl (.inl rfl) rfl rfl) (@JR _ _ _ _) (Ju _)) (@JiK _ _ _ _ _ (@Jbw _ _ _ _ _ _ _ _ (@J2 _) (@pv _ 5 _ _ rfl (.inl rfl) rfl rfl) (@pv _ 3 _ _ rfl (.inl rfl) rfl rfl) (Ju _))))))))))),?_⟩;have tp:=YI (B.B.B.G.p3 p hp');obtain ⟨dx,lk,hk⟩:=B.B.ins;have hmm:0≤(m:Int)∧(m:Int)≤(T0:Int):=by omega
  replace hta:H ta=some (.tup [.str p,.int (m:Int),.int n,.str (hs r)]):=hta;refine ⟨_,rfl,k,dx,_,rfl,hk,rfl,_,rfl,ta,_,_,.str p,rfl,rfl,JK.of hta,rfl,_,rfl,ta,_,_,.int (m:Int),rfl,rfl,JK.of hta,rfl,_,rfl,ta,_,_,.int n,rfl,rfl,JK.of hta,rfl,_,rfl,ta,_,_,.str (hs r),rfl,rfl,JK.of hta,rfl,k,b,p,hs r,(m:Int),n,_,_,_,_,_,rfl,tp,ZH r,B.B,Jal ⟨hp',hmm,hn,Y0 r⟩,fun _ _ _ r' hr' H3 e3=>?_⟩;obtain rfl:=Yx hr';rw [Int.toNat_natCast,hh];have g3:=e3 _ _ hta;refine ⟨_,rfl,_,rfl,ta,_,_,.str p,rfl,rfl,JK.of g3,rfl,_,rfl,ta,_,_,.int (m:Int),rfl,rfl,JK.of g3,rfl,t,p,(m:Int),ps,zs,gs,rfl,B.G.same e3,fun H4 e4=>?_⟩;have e34:=e3.trans e4;refine ⟨_,rfl,_,_,_,_,rfl,⟨_,.inl rfl⟩,.str (hs h),JlP,_,rfl,YU ⟨_,rfl,_,rfl,rfl,_,rfl,YH (decide_eq_true rfl) ⟨_,rfl,rfl,_,rfl,?_⟩⟩⟩;rcases Jk1 (z:=p) (m:=m) (B.zp.map (·.2)) B.gp with ⟨hg,hw,he⟩ | ⟨hg,hw,he⟩ | ⟨hw,he⟩
  ·have hx:=Jif hn he hh;rw [decide_eq_true hg] at hx;subst hx;refine J3 (by rw [hw]; decide +kernel) ⟨_,rfl,_,rfl,rfl,?_⟩;rw [hw,show decide (V.str "north" = V.str (hs true))=true by decide +kernel];exact q H4 e34
  ·have hx:=Jif hn he hh;rw [decide_eq_false hg] at hx;subst hx;refine J3 (by rw [hw]; decide +kernel) ⟨_,rfl,_,rfl,rfl,?_⟩;rw [hw,show decide (V.str "south" = V.str (hs false))=true by decide +kernel];exact q H4 e34
  ·exact YH (by rw [hw]; decide +kernel) (q H4 e34)
end
section
variable {P:Program} {w:World} {K:PySem.W.Frag} {mg:Str→Option Value} {base:Heap}
def Zr (m:Nat) (x:Str×Int×Bool):List JI:=[Sum.inr x.1,Sum.inl (m:Int),Sum.inl x.2.1,Sum.inr (hs x.2.2)]
theorem Jhz {α:Type} [DecidableEq α]:∀ {l r:List α},l.Nodup→(∀ x∈l,x∈r)→l.length≤r.length
 | [],_,_,_=>Nat.zero_le _
 | a :: l,r,h,hs=>by
  have h':=List.nodup_cons.mp h;have ha:=hs a (List.mem_cons_self ..);have:=Jhz (l:=l) (r:=r.erase a) h'.2 fun x hx=>(List.mem_erase_of_ne (fun (e:x=a)=>h'.1 (e ▸ hx))).mpr (hs x (List.mem_cons_of_mem _ hx))
  have hl:=List.length_erase_of_mem ha;have:0 < r.length:=List.length_pos_of_mem ha;rw [List.length_cons];omega
def JkX (ps:List Str):List (Str×Int×Bool):=ps.flatMap fun w=>(List.range 21).flatMap fun (n:Nat)=>[(w,(n:Int),true),(w,(n:Int),false)]
theorem Jjm:∀ ps:List Str,(JkX ps).length=ps.length * 42
 | []=>rfl
 | w :: ps=>by
  have h:=Jjm ps;unfold JkX at h ⊢;rw [List.flatMap_cons,List.length_append,h,List.length_cons];have:((List.range 21).flatMap fun (n:Nat)=>[(w,(n:Int),true),(w,(n:Int),false)]).length=42:=rfl;rw [this];omega
theorem Jnw {ps:List Str} {x:Str×Int×Bool} (h1:x.1∈ps) (h2:0≤x.2.1) (h3:x.2.1≤20):x∈JkX ps:=by
 obtain ⟨w,n,r⟩:=x;refine List.mem_flatMap.mpr ⟨w,h1,List.mem_flatMap.mpr ⟨n.toNat,List.mem_range.mpr (by show n.toNat < 21; have:n≤20:=h3; omega),?_⟩⟩;have e:((n.toNat:Nat):Int)=n:=Int.toNat_of_nonneg h2;rw [e];cases r
 ·exact List.mem_cons_of_mem _ (List.mem_cons_self ..)
 ·exact List.mem_cons_self ..
theorem JiC {ps:List Str} {c:Int} (hc:c≤20) (hp:ps.length≤12) {rows:List (Addr×(Str×Int×Bool))} (hn:(rows.map (·.2)).Nodup) (h:∀ x∈rows,x.2.1∈ps∧0≤x.2.2.1∧x.2.2.1≤c):rows.length≤504:=by
 have z:=Jhz (r:=JkX ps) hn fun y hy=>by
  obtain ⟨x,hx,rfl⟩:=List.mem_map.mp hy;obtain ⟨h1,h2,h3⟩:=h x hx;exact Jnw h1 h2 (by omega)
 rw [List.length_map,Jjm] at z;omega
def Jd3 (zs:List (Str×Str)) (gs ps:List Str) (c:Int) (h:Bool) (m:Nat) (H:Hp) (x:Addr×(Str×Int×Bool)):Prop:=H x.1=some (.tup (stV x.2.1 m x.2.2.1 x.2.2.2))∧x.2.1∈ps∧(0≤x.2.2.1∧x.2.2.1≤c)∧decide (JU zs gs c m x.2.1 x.2.2.2≤x.2.2.1)=h
theorem Jd3.put {zs:List (Str×Str)} {gs ps:List Str} {c:Int} {h:Bool} {m:Nat} {H:Hp} {l:Addr} {o:HO} {x:Addr×(Str×Int×Bool)} (hl:∀ ys,H l≠some (.tup ys)) (z:Jd3 zs gs ps c h m H x):Jd3 zs gs ps c h m (upd H l o) x:=⟨JeR hl z.1,z.2⟩
theorem Jd3.std {zs:List (Str×Str)} {gs ps:List Str} {c:Int} {h:Bool} {m:Nat} {H:Hp} {x:Addr×(Str×Int×Bool)} (z:Jd3 zs gs ps c h m H x):Std zs gs ps c h m H (.ref x.1):=⟨x.1,x.2.1,x.2.2.1,x.2.2.2,rfl,z.1,z.2.1,z.2.2.1,z.2.2.2⟩
def Jk9 (T:Txt K mg):Sp:=fun vs H Q _=>∃ (k b t ta:Addr) (p:Str) (m:Nat) (n:Int) (r h:Bool) (ps:List Str) (zs:List (V×(Str×Str))) (gs ps':List Str) (zs':List (V×(Str×Str))) (gs':List Str) (c:Int) (T0:Nat),vs=[.ref k,.ref t,.int c,.ref ta,.str (hs h)]∧BG K T.JD T.JC H k b t ps zs gs ps' zs' gs' c T0∧H ta=some (.tup (stV p m n r))∧p∈ps'∧m≤T0∧(0≤n∧n≤c)∧decide (JU (zs'.map (·.2)) gs' c m p r≤n)=h∧∀ H',Jf H H'→Q (.bl true) H'
theorem Jlz (T:Txt K mg):JN P w K mg base YO 12 T.JfK T.Jey ["_law_book", "_law_ground", "_law_total", "_law_at_here", "_law_hand_here"] (Jk9 T):=by
 refine T.JfV.F.ok ZO (fun vs H Q E h=>?_) (fun cdv A outer s H vs Q E hr h=>?_)
 ·obtain ⟨_,_,_,_,_,_,_,_,_,_,_,_,_,_,_,_,_,rfl,_⟩:=h;rfl
 ·obtain ⟨k,b,t,ta,p,m,n,r,h,ps,zs,gs,ps',zs',gs',c,T0,rfl,B,hta,hp',hm,hn,hh,q⟩:=h;have hu:=Jbg hr;have szl:sizeLine=16777216:=sizeLine_eq;refine ⟨_,(@Jd _ _ _ _ _ (@Jr _ _ 5 _ _ _ _ ZO.nd rfl (Or.inl rfl) (@Jm7 _ _ _ _ _ _ hu (@pv _ 3 _ _ rfl (.inl rfl) rfl rfl) (@JdV _ _ _ _)) rfl (.inl rfl)) (@Jd _ _ _ _ _ (@Jr _ _ 6 _ _ _ _ ZO.nd rfl (Or.inl rfl) (@Yj _ _ _ _ (@Ja _ _ _ _ _ (@pv _ 3 _ _ rfl (.inl rfl) rfl rfl) (@Jb _) rfl)) rfl (.inl rfl)) (@Jd _ _ _ _ _ (@Yv _ _ _ _ _ _ _ _ PassesOwn.never rfl (@Za _ _ _ _ _ _ rfl T.Y2 (@Ja _ _ _ _ _ (@Jl _ _ _ _ _ _ _ _ (@JP _) (@JA _ _ _ _ _ _ _ (@JM _) (@pv _ 3 _ _ rfl (.inl rfl) rfl rfl) (@Jc _ _ _ _) (fun _ _=>rfl)) (@Jc _ _ _ _)) (@Jb _) rfl) rfl) (@JV _ _ 7 _ ZO.nd rfl (Or.inl rfl) (.inl rfl)) (@Jd _ _ _ _ _ (@Jr _ _ 8 _ _ _ _ ZO.nd rfl (Or.inl rfl) (@Yj _ _ _ _ (@Jb _)) rfl (.inl rfl)) (@Jd _ _ _ _ _ (@Yv _ _ _ _ _ _ _ _ PassesOwn.never rfl (@Zt _ _ _ _ (@pv _ 6 _ _ rfl (.inl rfl) rfl rfl)) (@JV _ _ 9 _ ZO.nd rfl (Or.inl rfl) (.inl rfl)) (@Jd _ _ _ _ _ (@JL _ _ _ _ _ _ _ _ (@JdA _ _ _ _ (@JbZ _ _ _ (@Jn _ _ _ _ _ _ _ _ _ _ _ _ _ _ _ T.JfX (JlB T) (hr.mono (by decide)) JE (@Ja _ _ _ _ _ (@pv _ 0 _ _ rfl (.inl rfl) rfl rfl) (@Ja _ _ _ _ _ (@pv _ 1 _ _ rfl (.inl rfl) rfl rfl) (@Ja _ _ _ _ _ (@pv _ 9 _ _ rfl (.inl rfl) rfl rfl) (@Ja _ _ _ _ _ (@pv _ 4 _ _ rfl (.inl rfl) rfl rfl) (@Jb _) rfl) rfl) rfl) rfl) rfl (by decide) rfl rfl) (by intro _; rfl))) (@Jg _ _ _ (@Jt _ _ _ _ (@JdV _ _ _ _))) (@Jw _)) (@Jg _ _ _ (@J7 _ _ _ (@JL _ _ _ _ _ _ _ _ (@Jp _ _ _ _ _ _ _ _ (@J2 _) (@Jn _ _ _ _ _ _ _ _ _ _ _ _ _ _ _ T.JgC (JiN T) (hr.mono (by decide)) JE (@Ja _ _ _ _ _ (@pv _ 1 _ _ rfl (.inl rfl) rfl rfl) (@Ja _ _ _ _ _ (@JA _ _ _ _ _ _ _ (@JM _) (@pv _ 9 _ _ rfl (.inl rfl) rfl rfl) (@Jc _ _ _ _) (fun _ _=>rfl)) (@Ja _ _ _ _ _ (@JA _ _ _ _ _ _ _ (@JM _) (@pv _ 9 _ _ rfl (.inl rfl) rfl rfl) (@Jc _ _ _ _) (fun _ _=>rfl)) (@Jb _) rfl) rfl) rfl) rfl (by decide) rfl rfl) (@JR _ _ _ _) (Ju _)) (@Jg _ _ _ (@JG _ _ _ _ (@JaE _ _ _ _ _ _ _ _ _ _ _ _ PySem.F.plainAttrs_list PySem.F.slot_list_extend PySem.F.type_list_extend (@JhB _) (@pv _ 8 _ _ rfl (.inl rfl) rfl rfl) (@Ja _ _ _ _ _ (@Jn _ _ _ _ _ _ _ _ _ _ _ _ _ _ _ T.JfZ (JlD T) (hr.mono (by decide)) JE (@Ja _ _ _ _ _ (@pv _ 0 _ _ rfl (.inl rfl) rfl rfl) (@Ja _ _ _ _ _ (@pv _ 1 _ _ rfl (.inl rfl) rfl rfl) (@Ja _ _ _ _ _ (@pv _ 2 _ _ rfl (.inl rfl) rfl rfl) (@Ja _ _ _ _ _ (@pv _ 9 _ _ rfl (.inl rfl) rfl rfl) (@Ja _ _ _ _ _ (@pv _ 4 _ _ rfl (.inl rfl) rfl rfl) (@Jb _) rfl) rfl) rfl) rfl) rfl) rfl (by decide) rfl rfl) (@Jb _) rfl) rfl rfl rfl rfl rfl) rfl)) (@Jw _))))) (by intro _; rfl)) (@Jd _ _ _ _ _ (@Jr _ _ 6 _ _ _ _ ZO.nd rfl (Or.inl rfl) (@Yj _ _ _ _ (@Jb _)) rfl (.inl rfl)) (@Jg _ _ _ (@Yv _ _ _ _ _ _ _ _ PassesOwn.never rfl (@Zt _ _ _ _ (@pv _ 8 _ _ rfl (.inl rfl) rfl rfl)) (@JV _ _ 9 _ ZO.nd rfl (Or.inl rfl) (.inl rfl)) (@Jd _ _ _ _ _ (@JL _ _ _ _ _ _ _ _ (@PW.pt _ _ _ (@ZQ _ _ _ _ _ _ _ (@JdB _ _ _ _ _ _ (@Jlv _ _ _ _ _ (@pv _ 9 _ _ rfl (.inl rfl) rfl rfl)) (by first | exact ZE _ (by decide) (by decide) | rfl)) (@ZQ _ _ _ _ _ _ _ (@JdA _ _ _ _ (@JbZ _ _ _ (@JS _ _ _ _ _ _ _ _ _ (@JbU _) rfl T.Jat PyProof.Rows.boot_isinstance (@Ja _ _ _ _ _ (@JA _ _ _ _ _ _ _ (@JM _) (@pv _ 9 _ _ rfl (.inl rfl) rfl rfl) (@Jc _ _ _ _) (fun _ _=>rfl)) (@Ja _ _ _ _ _ (@Jgc _ _ _ _ rfl T.JkA PyProof.Rows.boot_str (by decide) (by decide)) (@Jb _) rfl) rfl) (by decide) (by decide) rfl rfl) (by intro _; rfl))) (@Jar _ _ _ _ (@Jp _ _ _ _ _ _ _ _ (@Jbd _) (@JA _ _ _ _ _ _ _ (@JM _) (@pv _ 9 _ _ rfl (.inl rfl) rfl rfl) (@Jc _ _ _ _) (fun _ _=>rfl)) (@JA _ _ _ _ _ _ _ (@JM _) (@pv _ 1 _ _ rfl (.inl rfl) rfl rfl) (@Jc _ _ _ _) (fun _ _=>rfl)) (by with_unfolding_all rfl)))))) (@Jg _ _ _ (@Jt _ _ _ _ (@JdV _ _ _ _))) (@Jw _)) (@Jg _ _ _ (@J7 _ _ _ (@JL _ _ _ _ _ _ _ _ (@JdB _ _ _ _ _ _ (@Jlw _ _ _ _ _ hu (@pv _ 9 _ _ rfl (.inl rfl) rfl rfl) (@pv _ 5 _ _ rfl (.inl rfl) rfl rfl)) (by first | exact ZE _ (by decide) (by decide) | rfl)) (@Jd _ _ _ _ _ (@JjM _ _ _ _ _ _ _ _ _ hu (@pv _ 5 _ _ rfl (.inl rfl) rfl rfl) (@pv _ 9 _ _ rfl (.inl rfl) rfl rfl) (@JdV _ _ _ _) rfl) (@Jg _ _ _ (@JG _ _ _ _ (@JaE _ _ _ _ _ _ _ _ _ _ _ _ PySem.F.plainAttrs_list PySem.F.slot_list_append PySem.F.type_list_append (@YY _) (@pv _ 6 _ _ rfl (.inl rfl) rfl rfl) (@Ja _ _ _ _ _ (@pv _ 9 _ _ rfl (.inl rfl) rfl rfl) (@Jb _) rfl) rfl rfl rfl rfl rfl) rfl))) (@Jw _))))) (by intro _; rfl)))))) (by intro _; rfl)) (@Jg _ _ _ (@Jt _ _ _ _ (@Jbw _ _ _ _ _ _ _ _ (@JfA _ hr.units0) (@pv _ 6 _ _ rfl (.inl rfl) rfl rfl) (@Yj _ _ _ _ (@Jb _)) (Ju _))))))),?_⟩
  try dsimp only [cxK,Jdo]
  have c1:=B.B.c1;have t1:=B.B.t1;intro ds nds;have s1:=Jf.upd (o:=.dT []) nds;refine ⟨_,rfl,Zr m (p,n,r),ta,rfl,s1 _ _ hta,Jh,?_⟩;have hd1:upd (upd H ds (.dT [])) ds (.dT (Yn [] (Zr m (p,n,r)) (.bl true))) ds=some (.dT (Yn [] (Zr m (p,n,r)) (.bl true))):=Jh;have e1:Jf H (upd (upd H ds (.dT [])) ds (.dT (Yn [] (Zr m (p,n,r)) (.bl true)))):=by rw [JjF]; exact Jf.upd nds
  generalize upd (upd H ds (.dT [])) ds (.dT (Yn [] (Zr m (p,n,r)) (.bl true)))=H1 at hd1 e1;refine ⟨_,rfl,by show 1≤sizeLine; decide,fun lr nlr=>?_⟩;have s2:=Jf.upd (o:=.lst [.ref ta]) nlr;have e2:=e1.trans s2;refine ⟨_,rfl,ta,_,_,.int (m:Int),rfl,rfl,JK.of (e2 _ _ hta),rfl,_,_,rfl,rfl,(m:Int) + 1,rfl,by omega,by omega,?_⟩;rw [show ((m:Int) + 1).toNat=m + 1 by omega];have kl:(Yn [] (Zr m (p,n,r)) (V.bl true)).length≤1:=Z0 [] _ _;refine Zc (n:=m + 1) (fun i σ H1=>∃ (lr:Addr) (us:List V) (kvs:List (List JI×V)) (v7 v8 v9:Option V),Jf H H1∧H1 ds=some (.dT kvs)∧kvs.length≤1 + 504 * i∧H1 lr=some (.lst us)∧us.length≤504∧(∀ v∈us,i≤m∧Std (zs'.map (·.2)) gs' ps' c h (m - i) H1 v)∧σ=[some (.ref k),some (.ref t),some (.int c),some (.ref ta),some (.str (hs h)),some (.ref ds),some (.ref lr),v7,v8,v9]) ⟨lr,[.ref ta],_,_,_,_,e2,s2 _ _ hd1,kl,Jh,by show 1≤504; decide,(fun v hv=>⟨Nat.zero_le _,by rw [List.mem_singleton.mp hv]; exact ⟨ta,p,n,r,rfl,e2 _ _ hta,hp',hn,hh⟩⟩),rfl⟩ ?_ ?_
  ·clear kl hd1 e1 s1 s2 e2 nlr lr H1;rintro i σ H1 hi ⟨lr,us,kvs,v7,v8,v9,e1,hds,hkl,hlr,hul,hus,rfl⟩;refine ⟨by show 0≤sizeLine; decide,fun ll nll=>?_⟩;have s2:=Jf.upd (o:=.lst []) nll;refine ⟨_,rfl,lr,rfl,⟨_,Js.of (s2 _ _ hlr)⟩,Ja4 (xs:=us) (fun j σ H2=>∃ (ws:List V) (v9:Option V),Jf H1 H2∧H2 ll=some (.lst ws)∧ws.length≤j * 17640∧(∀ v∈ws,i + 1≤m∧Std (zs'.map (·.2)) gs' ps' c h (m - (i + 1)) H2 v)∧σ=[some (.ref k),some (.ref t),some (.int c),some (.ref ta),some (.str (hs h)),some (.ref ds),some (.ref lr),some (.int (0 + (i:Int))),some (.ref ll),v9]) ⟨[],_,s2,Jh,Nat.zero_le _,(fun v hv=>nomatch hv),rfl⟩ (fun j σ H2 _ z=>let ⟨_,_,z,_⟩:=z; Js.of (z _ _ hlr)) ?_ ?_⟩
   ·rintro j x σ H2 hx ⟨ws,v9,e2,hll,hwl,hws,rfl⟩;have hj:j < us.length:=(List.getElem?_eq_some_iff.mp hx).1;obtain ⟨him,tb,w1,n1,r1,rfl,htb,hw1,hn1,hh1⟩:=hus x (List.mem_of_getElem? hx);have e12:=e1.trans e2;have htb2:=e2 _ _ htb;generalize hmi:m - i=mi at htb htb2 hh1;refine ⟨_,rfl,_,rfl,_,rfl,_,rfl,k,b,t,tb,w1,mi,n1,r1,h,ps,zs,gs,ps',zs',gs',c,T0,rfl,B.same e12,htb2,hw1,by omega,hn1,hh1,fun H3 e3=>⟨_,rfl,Zk ?_⟩⟩;have htb3:=e3 _ _ htb2;have e13:=e12.trans e3;refine ⟨_,⟨_,rfl,_,rfl,tb,_,_,.str w1,rfl,rfl,JK.of htb3,rfl,_,rfl,tb,_,_,.int (mi:Int),rfl,rfl,JK.of htb3,rfl,t,w1,(mi:Int),ps,zs,gs,rfl,B.G.same e13,fun H4 e4=>⟨rfl,_,rfl,?_⟩⟩,fun _ _ z=>z⟩;have e24:=e2.trans (e3.trans e4);have old:∃ (ws:List V) (v9:Option V),Jf H1 H4∧H4 ll=some (.lst ws)∧ws.length≤(j + 1) * 17640∧(∀ v∈ws,i + 1≤m∧Std (zs'.map (·.2)) gs' ps' c h (m - (i + 1)) H4 v)∧[some (.ref k),some (.ref t),some (.int c),some (.ref ta),some (.str (hs h)),some (.ref ds),some (.ref lr),some (.int (0 + (i:Int))),some (.ref ll),some (.ref tb)]=[some (.ref k),some (.ref t),some (.int c),some (.ref ta),some (.str (hs h)),some (.ref ds),some (.ref lr),some (.int (0 + (i:Int))),some (.ref ll),v9]:=⟨ws,_,e24,e4 _ _ (e3 _ _ hll),by omega,fun v hv=>⟨(hws v hv).1,(hws v hv).2.same (e3.trans e4)⟩,rfl⟩
    rcases Jk1 (z:=w1) (m:=mi) (B.zp.map (·.2)) B.gp with ⟨hg,hw,he⟩ | ⟨hg,hw,he⟩ | ⟨hw,he⟩
    ·exact J3 (by rw [hw]; decide +kernel) old
    ·exact J3 (by rw [hw]; decide +kernel) old
    ·refine YH (by rw [hw]; decide +kernel) ?_;obtain ⟨m2,rfl⟩:∃ m2,mi=m2 + 1:=⟨mi - 1,by have:mi≠0:=fun h=>he (.inr (.inl h)); omega⟩
     have hll4:=e4 _ _ (e3 _ _ hll);have e14:=e13.trans e4;refine ⟨_,rfl,.inl ⟨rfl,_,Js.of hll4⟩,_,rfl,_,rfl,_,rfl,_,rfl,_,rfl,k,b,t,tb,w1,m2,n1,r1,h,ps,zs,gs,ps',zs',gs',c,T0,rfl,B.same e14,e4 _ _ htb3,hw1,by omega,hn1,he,hh1,fun lc xs H5 e5 hlc hxl hxs=>?_⟩;have hll5:=e5 _ _ hll4;have nt:∀ ys,H5 ll≠some (.tup ys):=fun _ z=>by rw [hll5] at z; cases z
     refine ⟨ll,lc,ws,xs,rfl,rfl,hll5,hlc,by omega,ws ++ xs,_,fun b' u e=>?_,Jh,by rw [List.length_append]; omega,fun v hv=>?_,rfl⟩
     ·rw [Jq (JB e nll)]; exact e5 _ _ (e24 b' u e)
     ·rcases List.mem_append.mp hv with hv | hv
      ·exact ⟨(hws v hv).1,Std.put nt ((hws v hv).2.same ((e3.trans e4).trans e5))⟩
      ·refine ⟨by omega,Std.put nt ?_⟩;rw [show m - (i + 1)=m2 by omega];exact hxs v hv
   ·rintro σ H2 ⟨ws,v9,e2,hll,hwl,hws,rfl⟩;clear s2 v7 v8;have hds2:=e2 _ _ hds;have e12:=e1.trans e2;refine ⟨by show 0≤sizeLine; decide,fun lr2 nlr2=>?_⟩;have s3:=Jf.upd (o:=.lst []) nlr2;have n1:ds≠lr2:=JB hds2 nlr2;have n2:ll≠lr2:=JB hll nlr2;have n3:ll≠ds:=fun z=>by subst z; rw [hll] at hds2; cases hds2
    refine ⟨_,rfl,ll,rfl,⟨_,Js.of (s3 _ _ hll)⟩,Ja4 (xs:=ws) (fun j σ H3=>∃ (rows:List (Addr×(Str×Int×Bool))) (kvs:List (List JI×V)) (v9:Option V),Jf H H3∧H3 ds=some (.dT kvs)∧kvs.length≤1 + 504 * i + rows.length∧H3 lr2=some (.lst (rows.map fun x=>.ref x.1))∧H3 ll=some (.lst ws)∧(∀ v∈ws,i + 1≤m∧Std (zs'.map (·.2)) gs' ps' c h (m - (i + 1)) H3 v)∧(∀ x∈rows,i + 1≤m∧Jd3 (zs'.map (·.2)) gs' ps' c h (m - (i + 1)) H3 x)∧(rows.map (·.2)).Nodup∧(∀ x∈rows,(YD kvs (Zr (m - (i + 1)) x.2)).isSome=true)∧σ=[some (.ref k),some (.ref t),some (.int c),some (.ref ta),some (.str (hs h)),some (.ref ds),some (.ref lr2),some (.int (0 + (i:Int))),some (.ref ll),v9]) ⟨[],kvs,_,e12.trans s3,s3 _ _ hds2,hkl,Jh,s3 _ _ hll,(fun v hv=>⟨(hws v hv).1,(hws v hv).2.same s3⟩),(fun v hv=>nomatch hv),List.nodup_nil,(fun v hv=>nomatch hv),rfl⟩ (fun j σ H3 _ z=>let ⟨_,_,_,_,_,_,_,z,_⟩:=z; Js.of z) ?_ ?_⟩
    ·clear hkl hws hds hll hds2;rintro j x σ H3 hx ⟨rows,kvs,v9,e3,hds,hkl,hlr2,hll,hws,hrs,hrn,hrk,rfl⟩;obtain ⟨him,tb,w1,n1',r1,rfl,htb,hw1,hn1,hh1⟩:=hws x (List.mem_of_getElem? hx);have rl:rows.length≤504:=JiC c1 B.B.B.G.p2 hrn fun x hx=>⟨(hrs x hx).2.2.1,(hrs x hx).2.2.2.1⟩
     obtain ⟨pn,pl,pg,g1,g2,_⟩:=(B.G.same e3).at_;have hwp:w1∈ps:=B.pp.mem_iff.mp hw1;generalize hmi:m - (i + 1)=mi at *;refine ⟨_,rfl,_,rfl,J3 (decide_eq_false fun z=>nomatch z) ⟨_,rfl,tb,_,_,.str w1,rfl,rfl,JK.of htb,rfl,_,_,_,_,rfl,⟨_,.inl rfl⟩,.str w1,JlP,_,rfl,Zk ⟨_,rfl,tb,_,_,.str w1,rfl,rfl,JK.of htb,rfl,_,rfl,t,_,_,.ref pn,rfl,rfl,JK.of g1,rfl,pn,_,rfl,.inl (Js.of g2),rfl,Jb3 _,_,rfl,?_⟩⟩⟩;rw [if_pos rfl,JcV];refine J3 (by rw [decide_eq_true hwp]; rfl) ?_;refine ⟨_,⟨_,rfl,_,rfl,ds,YD kvs (Zr mi (w1,n1',r1)),rfl,Ja7.t (k:=Zr mi (w1,n1',r1)) hds htb,_,rfl,?_⟩,fun _ _ z=>z⟩;cases hv:YD kvs (Zr mi (w1,n1',r1)) with
     | some v=>exact Zk ⟨rows,kvs,_,e3,hds,hkl,hlr2,hll,hws,hrs,hrn,hrk,rfl⟩
     | none =>
      refine YU ?_;have ntd:∀ ys,H3 ds≠some (.tup ys):=fun _ z=>by rw [hds] at z; cases z
      refine ⟨_,rfl,_,rfl,ds,_,rfl,JeO.t (k:=Zr mi (w1,n1',r1)) hds htb (by omega),?_⟩;have htb4:=JeR (o:=.dT (Yn kvs (Zr mi (w1,n1',r1)) (.bl true))) ntd htb;have hds4:upd H3 ds (.dT (Yn kvs (Zr mi (w1,n1',r1)) (.bl true))) ds=some (.dT (Yn kvs (Zr mi (w1,n1',r1)) (.bl true))):=Jh;have hlr4:upd H3 ds (.dT (Yn kvs (Zr mi (w1,n1',r1)) (.bl true))) lr2=some (.lst (rows.map fun x=>.ref x.1)):=by rw [Jq (Ne.symm n1)]; exact hlr2
      have hll4:upd H3 ds (.dT (Yn kvs (Zr mi (w1,n1',r1)) (.bl true))) ll=some (.lst ws):=by rw [Jq n3]; exact hll
      have e4:Jf H (upd H3 ds (.dT (Yn kvs (Zr mi (w1,n1',r1)) (.bl true)))):=fun b' u e=>by rw [Jq (JB e nds)]; exact e3 b' u e
      have hws4:=fun v hv=>And.intro (hws v hv).1 (Std.put (o:=.dT (Yn kvs (Zr mi (w1,n1',r1)) (.bl true))) ntd (hws v hv).2)
      have hrs4:=fun v hv=>And.intro (hrs v hv).1 (Jd3.put (o:=.dT (Yn kvs (Zr mi (w1,n1',r1)) (.bl true))) ntd (hrs v hv).2)
      generalize upd H3 ds (.dT (Yn kvs (Zr mi (w1,n1',r1)) (.bl true)))=H4 at htb4 hds4 hlr4 hll4 e4 hws4 hrs4;have ntl:∀ ys,H4 lr2≠some (.tup ys):=fun _ z=>by rw [hlr4] at z; cases z
      have nlr:H lr2=none:=e12.free nlr2;refine ⟨_,rfl,.inl ⟨rfl,_,Js.of hlr4⟩,_,rfl,lr2,_,.ref tb,rfl,rfl,hlr4,by rw [List.length_map]; omega,rows ++ [(tb,w1,n1',r1)],Yn kvs (Zr mi (w1,n1',r1)) (.bl true),_,fun b' u e=>?_,?_,?_,?_,?_,fun v hv=>⟨(hws4 v hv).1,Std.put ntl (hws4 v hv).2⟩,fun x hx=>?_,?_,fun x hx=>?_,rfl⟩
      ·rw [Jq (JB e nlr)]; exact e4 b' u e
      ·rw [Jq n1]; exact hds4
      ·have:=Z0 kvs (Zr mi (w1,n1',r1)) (V.bl true);rw [List.length_append];show _≤1 + 504 * i + (rows.length + 1)
       omega
      ·rw [Jh,List.map_append]; rfl
      ·rw [Jq n2]; exact hll4
      ·rcases List.mem_append.mp hx with hx | hx
       ·exact ⟨(hrs4 x hx).1,Jd3.put ntl (hrs4 x hx).2⟩
       ·rw [List.mem_singleton.mp hx];exact ⟨him,Jd3.put ntl ⟨htb4,hw1,hn1,hh1⟩⟩
      ·rw [List.map_append,List.nodup_append];refine ⟨hrn,List.nodup_cons.mpr ⟨List.not_mem_nil,List.nodup_nil⟩,fun y hy z hz e=>?_⟩;obtain ⟨x,hx,rfl⟩:=List.mem_map.mp hy;have hz':z=(w1,n1',r1):=List.mem_singleton.mp hz;have:=hrk x hx;rw [e,hz',hv] at this;cases this
      ·rw [JdO];split
       ·rfl
       ·rcases List.mem_append.mp hx with hx | hx
        ·exact hrk x hx
        ·rename_i hne;exact absurd (by rw [List.mem_singleton.mp hx]) hne
    ·rintro σ H3 ⟨rows,kvs,v9,e3,hds,hkl,hlr2,hll,hws,hrs,hrn,hrk,rfl⟩;have rl:rows.length≤504:=JiC c1 B.B.B.G.p2 hrn fun x hx=>⟨(hrs x hx).2.2.1,(hrs x hx).2.2.2.1⟩
     refine ⟨lr2,_,kvs,_,_,_,e3,hds,by omega,hlr2,by rw [List.length_map]; exact rl,fun v hv=>?_,rfl⟩;obtain ⟨x,hx,rfl⟩:=List.mem_map.mp hv;exact ⟨(hrs x hx).1,(hrs x hx).2.std⟩
  ·rintro σ H1 ⟨lr,us,kvs,v7,v8,v9,e1,hds,hkl,hlr,hul,hus,rfl⟩;obtain rfl:us=[]:=by
    cases us with
    | nil=>rfl
    | cons v us=>exact absurd (hus v (List.mem_cons_self ..)).1 (by omega)
   exact ⟨_,rfl,by show 0≤sizeLine; decide,fun l nl=>⟨lr,l,_,rfl,rfl,Js.of ((Jf.upd nl) _ _ hlr),Js.of Jh,q _ (e1.trans (Jf.upd nl))⟩⟩
end
theorem JnI (c:Int):∃ y:Int,atI [V.int 4,V.int 5,V.int 3,V.int 6,V.int 2,V.int 1,V.int 0] (c % 7)=some (.int y)∧0≤y∧y≤6:=by
 have h:c % 7=0∨c % 7=1∨c % 7=2∨c % 7=3∨c % 7=4∨c % 7=5∨c % 7=6:=by omega
 rcases h with h | h | h | h | h | h | h <;> rw [h]
 ·exact ⟨4,rfl,by decide,by decide⟩
 ·exact ⟨5,rfl,by decide,by decide⟩
 ·exact ⟨3,rfl,by decide,by decide⟩
 ·exact ⟨6,rfl,by decide,by decide⟩
 ·exact ⟨2,rfl,by decide,by decide⟩
 ·exact ⟨1,rfl,by decide,by decide⟩
 ·exact ⟨0,rfl,by decide,by decide⟩
section
variable {P:Program} {w:World} {K:PySem.W.Frag} {mg:Str→Option Value} {base:Heap}
theorem Jpk (T:Txt K mg):JN P w K mg base YO 13 T.JkO T.Ji8 ["_law_script"] (Jkk K):=by
 refine T.JnZ.F.ok Jan (fun vs H Q E h=>?_) (fun cdv A outer s H vs Q E hr h=>?_)
 ·obtain ⟨_,_,rfl,_⟩:=h;rfl
 ·obtain ⟨a,ns,rfl,hS,hl,q⟩:=h;have szl:sizeLine=16777216:=sizeLine_eq;refine ⟨_,(@Jd _ _ _ _ _ (@Jr _ _ 1 _ _ _ _ Jan.nd rfl (Or.inl rfl) (@Jn _ _ _ _ _ _ _ _ _ _ _ _ _ _ _ T.Jhi (Jna T) (hr.mono (by decide)) JE (@Ja _ _ _ _ _ (@pv _ 0 _ _ rfl (.inl rfl) rfl rfl) (@Ja _ _ _ _ _ (@Jc _ _ _ _) (@Jb _) rfl) rfl) rfl (by decide) rfl rfl) rfl (.inl rfl)) (@Jd _ _ _ _ _ (@Jr _ _ 2 _ _ _ _ Jan.nd rfl (Or.inl rfl) (@JjP _ _ _ _ _ _ _ _ _ _ _ _ _ _ _ _ _ T.JiX (Jh6 T) (hr.mono (by decide)) rfl T.Jj7 T.Jc7.b .nil JE (@Ja _ _ _ _ _ (@Zb _ _ _ _ _ _ _ _ _ (@Jc2 _) rfl T.JdG PyProof.Rows.boot_list (@Ja _ _ _ _ _ (@JA _ _ _ _ _ _ _ (@JM _) (@pv _ 1 _ _ rfl (.inl rfl) rfl rfl) (@Jc _ _ _ _) (fun _ _=>rfl)) (@Jb _) rfl) (by decide) (by decide) rfl rfl) (@Ja _ _ _ _ _ (@Zb _ _ _ _ _ _ _ _ _ (@Jc2 _) rfl T.JdG PyProof.Rows.boot_list (@Ja _ _ _ _ _ (@JA _ _ _ _ _ _ _ (@JM _) (@pv _ 1 _ _ rfl (.inl rfl) rfl rfl) (@Jc _ _ _ _) (fun _ _=>rfl)) (@Jb _) rfl) (by decide) (by decide) rfl rfl) (@Ja _ _ _ _ _ (@Zb _ _ _ _ _ _ _ _ _ (@Jc2 _) rfl T.JdG PyProof.Rows.boot_list (@Ja _ _ _ _ _ (@JA _ _ _ _ _ _ _ (@JM _) (@pv _ 1 _ _ rfl (.inl rfl) rfl rfl) (@Jc _ _ _ _) (fun _ _=>rfl)) (@Jb _) rfl) (by decide) (by decide) rfl rfl) (@Jb _) rfl) rfl) rfl) (by decide) rfl rfl) rfl (.inl rfl)) (@Jd _ _ _ _ _ (@J7 _ _ _ (@Jr _ _ 3 _ _ _ _ Jan.nd rfl (Or.inl rfl) (@JA _ _ _ _ _ _ _ (@J4 _) (@Yj _ _ _ _ (@Ja _ _ _ _ _ (@Jc _ _ _ _) (@Ja _ _ _ _ _ (@Jc _ _ _ _) (@Ja _ _ _ _ _ (@Jc _ _ _ _) (@Ja _ _ _ _ _ (@Jc _ _ _ _) (@Ja _ _ _ _ _ (@Jc _ _ _ _) (@Ja _ _ _ _ _ (@Jc _ _ _ _) (@Ja _ _ _ _ _ (@Jc _ _ _ _) (@Jb _) rfl) rfl) rfl) rfl) rfl) rfl) rfl)) (@Jl _ _ _ _ _ _ _ _ (@JZ _) (@Jn _ _ _ _ _ _ _ _ _ _ _ _ _ _ _ T.Jcs (JbS T) (hr.mono (by decide)) JE (@Ja _ _ _ _ _ (@pv _ 0 _ _ rfl (.inl rfl) rfl rfl) (@Ja _ _ _ _ _ (@Jc _ _ _ _) (@Jb _) rfl) rfl) rfl (by decide) rfl rfl) (@Jc _ _ _ _)) (fun _ _=>rfl)) rfl (.inl rfl))) (@Jd _ _ _ _ _ (@J7 _ _ _ (@Jr _ _ 4 _ _ _ _ Jan.nd rfl (Or.inl rfl) (@JA _ _ _ _ _ _ _ (@J4 _) (@Yj _ _ _ _ (@Ja _ _ _ _ _ (@Jc _ _ _ _) (@Ja _ _ _ _ _ (@Jc _ _ _ _) (@Ja _ _ _ _ _ (@Jc _ _ _ _) (@Ja _ _ _ _ _ (@Jc _ _ _ _) (@Ja _ _ _ _ _ (@Jc _ _ _ _) (@Ja _ _ _ _ _ (@Jc _ _ _ _) (@Ja _ _ _ _ _ (@Jc _ _ _ _) (@Jb _) rfl) rfl) rfl) rfl) rfl) rfl) rfl)) (@Jl _ _ _ _ _ _ _ _ (@JZ _) (@Jn _ _ _ _ _ _ _ _ _ _ _ _ _ _ _ T.Jcs (JbS T) (hr.mono (by decide)) JE (@Ja _ _ _ _ _ (@pv _ 0 _ _ rfl (.inl rfl) rfl rfl) (@Ja _ _ _ _ _ (@Jc _ _ _ _) (@Jb _) rfl) rfl) rfl (by decide) rfl rfl) (@Jc _ _ _ _)) (fun _ _=>rfl)) rfl (.inl rfl))) (@Jd _ _ _ _ _ (@Jr _ _ 5 _ _ _ _ Jan.nd rfl (Or.inl rfl) (@JjP _ _ _ _ _ _ _ _ _ _ _ _ _ _ _ _ _ T.JjU (JiT T) (hr.mono (by decide)) rfl T.Jmi T.Jdr.b .nil Y1 (@Ja _ _ _ _ _ (@pv _ 2 _ _ rfl (.inl rfl) rfl rfl) (@Ja _ _ _ _ _ (@pv _ 3 _ _ rfl (.inl rfl) rfl rfl) (@Ja _ _ _ _ _ (@pv _ 4 _ _ rfl (.inl rfl) rfl rfl) (@Jb _) rfl) rfl) rfl) (by decide) rfl rfl) rfl (.inl rfl)) (@Jd _ _ _ _ _ (@Yv _ _ _ _ _ _ _ _ PassesOwn.never rfl (@Za _ _ _ _ _ _ rfl T.Y2 (@Ja _ _ _ _ _ (@Jc _ _ _ _) (@Jb _) rfl) rfl) (@JV _ _ 6 _ Jan.nd rfl (Or.inl rfl) (.inl rfl)) (@Jd _ _ _ _ _ (@Jr _ _ 7 _ _ _ _ Jan.nd rfl (Or.inl rfl) (@Jn _ _ _ _ _ _ _ _ _ _ _ _ _ _ _ T.Jjr (Jor T) (hr.mono (by decide)) JE (@Ja _ _ _ _ _ (@pv _ 1 _ _ rfl (.inl rfl) rfl rfl) (@Ja _ _ _ _ _ (@Jn _ _ _ _ _ _ _ _ _ _ _ _ _ _ _ T.Jcs (JbS T) (hr.mono (by decide)) JE (@Ja _ _ _ _ _ (@pv _ 0 _ _ rfl (.inl rfl) rfl rfl) (@Ja _ _ _ _ _ (@Jl _ _ _ _ _ _ _ _ (@JP _) (@Jc _ _ _ _) (@pv _ 6 _ _ rfl (.inl rfl) rfl rfl)) (@Jb _) rfl) rfl) rfl (by decide) rfl rfl) (@Jb _) rfl) rfl) rfl (by decide) rfl rfl) rfl (.inl rfl)) (@Jd _ _ _ _ _ (@J7 _ _ _ (@Jr _ _ 8 _ _ _ _ Jan.nd rfl (Or.inl rfl) (@Jl _ _ _ _ _ _ _ _ (@JZ _) (@Jn _ _ _ _ _ _ _ _ _ _ _ _ _ _ _ T.Jcs (JbS T) (hr.mono (by decide)) JE (@Ja _ _ _ _ _ (@pv _ 0 _ _ rfl (.inl rfl) rfl rfl) (@Ja _ _ _ _ _ (@Jl _ _ _ _ _ _ _ _ (@JP _) (@Jc _ _ _ _) (@pv _ 6 _ _ rfl (.inl rfl) rfl rfl)) (@Jb _) rfl) rfl) rfl (by decide) rfl rfl) (@Jl _ _ _ _ _ _ _ _ (@JP _) (@pv _ 3 _ _ rfl (.inl rfl) rfl rfl) (@Jc _ _ _ _))) rfl (.inl rfl))) (@Jd _ _ _ _ _ (@Jr _ _ 9 _ _ _ _ Jan.nd rfl (Or.inl rfl) (@Jn _ _ _ _ _ _ _ _ _ _ _ _ _ _ _ T.Jjs (Jos T) (hr.mono (by decide)) JE (@Ja _ _ _ _ _ (@Jl _ _ _ _ _ _ _ _ (@JP _) (@Jn _ _ _ _ _ _ _ _ _ _ _ _ _ _ _ T.Jcs (JbS T) (hr.mono (by decide)) JE (@Ja _ _ _ _ _ (@pv _ 0 _ _ rfl (.inl rfl) rfl rfl) (@Ja _ _ _ _ _ (@Jl _ _ _ _ _ _ _ _ (@JP _) (@Jc _ _ _ _) (@pv _ 6 _ _ rfl (.inl rfl) rfl rfl)) (@Jb _) rfl) rfl) rfl (by decide) rfl rfl) (@pv _ 6 _ _ rfl (.inl rfl) rfl rfl)) (@Jb _) rfl) rfl (by decide) rfl rfl) rfl (.inl rfl)) (@Jd _ _ _ _ _ (@Jr _ _ 10 _ _ _ _ Jan.nd rfl (Or.inl rfl) (@J0 _ _ _ _ _ _ _ _ _ _ _ _ _ _ _ _ _ _ _ _ (@pv _ 5 _ _ rfl (.inl rfl) rfl rfl) T.JJ T.Ys.m (JaG T) (hr.mono (by decide)) T.Ys.b .nil Y1 (@Ja _ _ _ _ _ (@pv _ 7 _ _ rfl (.inl rfl) rfl rfl) (@Ja _ _ _ _ _ (@pv _ 4 _ _ rfl (.inl rfl) rfl rfl) (@Ja _ _ _ _ _ (@pv _ 8 _ _ rfl (.inl rfl) rfl rfl) (@Ja _ _ _ _ _ (@pv _ 9 _ _ rfl (.inl rfl) rfl rfl) (@Jb _) rfl) rfl) rfl) rfl) rfl rfl rfl) rfl (.inl rfl)) (@Jg _ _ _ (@JL _ _ _ _ _ _ _ _ (@JdA _ _ _ _ (@JbZ _ _ _ (@Jn _ _ _ _ _ _ _ _ _ _ _ _ _ _ _ T.JfV (Jlz T) (hr.mono (by decide)) JE (@Ja _ _ _ _ _ (@pv _ 5 _ _ rfl (.inl rfl) rfl rfl) (@Ja _ _ _ _ _ (@pv _ 1 _ _ rfl (.inl rfl) rfl rfl) (@Ja _ _ _ _ _ (@pv _ 3 _ _ rfl (.inl rfl) rfl rfl) (@Ja _ _ _ _ _ (@YG _ _ _ _ _ (@Ja _ _ _ _ _ (@pv _ 7 _ _ rfl (.inl rfl) rfl rfl) (@Ja _ _ _ _ _ (@pv _ 4 _ _ rfl (.inl rfl) rfl rfl) (@Ja _ _ _ _ _ (@pv _ 8 _ _ rfl (.inl rfl) rfl rfl) (@Ja _ _ _ _ _ (@pv _ 9 _ _ rfl (.inl rfl) rfl rfl) (@Jb _) rfl) rfl) rfl) rfl)) (@Ja _ _ _ _ _ (@pv _ 10 _ _ rfl (.inl rfl) rfl rfl) (@Jb _) rfl) rfl) rfl) rfl) rfl) rfl (by decide) rfl rfl) (by intro _; rfl))) (@Jg _ _ _ (@Jt _ _ _ _ (@JdV _ _ _ _))) (@Jw _))))))) (by intro _; rfl)) (@Jg _ _ _ (@Jt _ _ _ _ (@JdV _ _ _ _))))))))),?_⟩
  try dsimp only [cxK,Jdo]
  refine ⟨_,rfl,a,ns,0,rfl,hS,by decide,fun t ps zs gs H1 e1 G=>?_⟩;obtain ⟨pn,pl,pg,g1,g2,g3,g4,g5⟩:=(G).at_;refine ⟨_,rfl,t,_,_,.ref pn,rfl,rfl,JK.of g1,rfl,pn,_,rfl,.inl (Js.of g2),fun l1 n1=>?_⟩;have f2:=Jf.upd (o:=.lst (ps.map V.str)) n1;refine ⟨_,rfl,t,_,_,.ref pl,rfl,rfl,JK.of (f2 _ _ g1),rfl,pl,_,rfl,.inl (Js.of (f2 _ _ g3)),fun l2 n2=>?_⟩;have f3:=f2.trans (Jf.upd (o:=.lst (zs.map (·.1))) n2);refine ⟨_,rfl,t,_,_,.ref pg,rfl,rfl,JK.of (f3 _ _ g1),rfl,pg,_,rfl,.inl (Js.of (f3 _ _ g5)),fun l3 n3=>?_⟩;have f4:=f3.trans (Jf.upd (o:=.lst (gs.map V.str)) n3);refine fun b dx nx ndx hne=>JkF f4 (((Jf.upd n2).trans (Jf.upd n3)) _ _ Jh) ((Jf.upd n3) _ _ Jh) Jh (ZR g4 f4) (G).good nx ndx fun ps' zs' gs' H2 e2 B pp ps3 zp zs3 gp gs3=>⟨rfl,?_⟩
  clear hne f4 f3 f2 g1 g2 g3 g4 g5 n1 n2 n3 nx ndx pn pl pg l1 l2 l3 dx;have e12:=e1.trans e2;refine ⟨fun σ1 H3=>∃ c:Int,Jf H2 H3∧(0≤c∧c≤6)∧σ1=[some (.ref a),some (.ref t),some (.ref b),some (.int c),none,none,none,none,none,none,none],?_,?_⟩
  ·refine ⟨by show 7≤sizeLine; omega,fun l nl=>?_⟩;obtain ⟨y,hy,y0,y1⟩:=JnI (ZF ns 5);exact ⟨_,rfl,a,ns,5,rfl,(e12.trans (Jf.upd nl)).seq hS,by decide,_,_,rfl,rfl,(by show (0:Int) < 7; decide),l,_,_,.int y,rfl,rfl,Js.of Jh,hy,y,Jf.upd nl,⟨y0,y1⟩,rfl⟩
  rintro σ1 H3 ⟨c,e3,hc,rfl⟩;refine ⟨fun σ1 H4=>∃ mt:Int,Jf H2 H4∧(0≤mt∧mt≤6)∧σ1=[some (.ref a),some (.ref t),some (.ref b),some (.int c),some (.int mt),none,none,none,none,none,none],?_,?_⟩
  ·refine ⟨by show 7≤sizeLine; omega,fun l nl=>?_⟩;obtain ⟨y,hy,y0,y1⟩:=JnI (ZF ns 6);exact ⟨_,rfl,a,ns,6,rfl,((e12.trans e3).trans (Jf.upd nl)).seq hS,by decide,_,_,rfl,rfl,(by show (0:Int) < 7; decide),l,_,_,.int y,rfl,rfl,Js.of Jh,hy,y,e3.trans (Jf.upd nl),⟨y0,y1⟩,rfl⟩
  rintro σ1 H4 ⟨mt,e24,hmt,rfl⟩;have c0:=hc.1;have m0:=hmt.1;have c1:c≤20:=by omega
  have m1:mt≤30:=by omega
  refine ⟨_,rfl,_,rfl,_,rfl,fun k dx nx ndx hne=>JlK (B.same e24) ⟨c0,c1⟩ ⟨m0,m1⟩ nx ndx fun H5 e5 Bk=>⟨rfl,?_⟩⟩;clear hne nx ndx dx;have e25:=e24.trans e5;have e15:=e12.trans e25;have BG5:BG K T.JD T.JC H5 k b t ps zs gs ps' zs' gs' c mt.toNat:=⟨G.same (e2.trans e25),Bk,pp,zp,gp,zs3⟩
  obtain ⟨dx,lk,hk⟩:=Bk.ins;obtain ⟨T0,rfl⟩:∃ T0:Nat,mt=(T0:Int):=⟨mt.toNat,by omega⟩
  rw [Int.toNat_natCast] at BG5 Bk;have hmm:0≤(T0:Int)∧(T0:Int)≤(T0:Int):=by omega
  refine ⟨4,rfl,by decide,by decide,Zc (n:=4) (fun i σ H6=>Jf H5 H6∧∃ v6 v7 v8 v9 v10,σ=[some (.ref a),some (.ref t),some (.ref b),some (.int c),some (.int (T0:Int)),some (.ref k),v6,v7,v8,v9,v10]) ⟨Jf.refl _,_,_,_,_,_,rfl⟩ ?_ ?_⟩
  ·rintro i σ H6 hi ⟨e6,v6,v7,v8,v9,v10,rfl⟩;have e16:=e15.trans e6;refine ⟨_,rfl,_,rfl,_,rfl,_,_,rfl,rfl,a,ns,7 + (0 + (i:Int)),rfl,e16.seq hS,by omega,t,_,ps,zs,gs,rfl,BG5.G.same e6,fun p H7 hpm e7=>?_⟩;have tp:=YI (G.good.p3 p hpm);have hp':p∈ps':=pp.mem_iff.mpr hpm;refine ⟨fun σ1 H8=>∃ n:Int,H8=H7∧(0≤n∧n≤c)∧σ1=[some (.ref a),some (.ref t),some (.ref b),some (.int c),some (.int (T0:Int)),some (.ref k),some (.int (0 + (i:Int))),some (.str p),some (.int n),v9,v10],?_,?_⟩
   ·have hb:=JlI (x:=ZF ns (11 + (0 + (i:Int)))) (n:=c + 1) (by omega);exact ⟨_,rfl,_,rfl,_,_,rfl,rfl,a,ns,11 + (0 + (i:Int)),rfl,(e16.trans e7).seq hS,by omega,_,rfl,_,_,rfl,rfl,_,_,rfl,rfl,(by show (0:Int) < c + 1; omega),_,rfl,⟨hb.1,by omega⟩,rfl⟩
   rintro σ1 H8 ⟨n,rfl,hn,rfl⟩;refine ⟨_,rfl,_,rfl,_,_,rfl,rfl,a,ns,15 + (0 + (i:Int)),rfl,(e16.trans e7).seq hS,by omega,_,rfl,_,_,rfl,rfl,_,rfl,fun r H9 e9=>?_⟩;have e59:=(e6.trans e7).trans e9;refine ⟨_,rfl,k,dx,_,rfl,(e59) _ _ hk,rfl,_,rfl,_,rfl,_,rfl,_,rfl,k,b,p,hs r,(T0:Int),n,_,_,_,_,_,rfl,tp,ZH r,(Bk).same e59,Jal ⟨hp',hmm,hn,Y0 r⟩,fun _ _ _ r' hr' H10 e10=>?_⟩;obtain rfl:=Yx hr';rw [Int.toNat_natCast];obtain ⟨h,hh⟩:∃ h,decide (JU (zs'.map (·.2)) gs' c T0 p r≤n)=h:=⟨_,rfl⟩
   rw [hh];have e510:=e59.trans e10;refine ⟨_,rfl,_,rfl,_,rfl,_,rfl,_,rfl,_,rfl,_,rfl,by show 4≤sizeLine; decide,fun tt nt=>?_⟩;have s13:=Jf.upd (o:=.tup [.str p,.int (T0:Int),.int n,.str (hs r)]) nt;have e13:=e510.trans s13;exact ⟨_,rfl,k,b,t,tt,p,T0,n,r,h,ps,zs,gs,ps',zs',gs',c,T0,rfl,BG5.same e13,Jh,hp',Nat.le_refl _,hn,hh,fun H14 e14=>⟨_,rfl,Zk ⟨e13.trans e14,_,_,_,_,_,rfl⟩⟩⟩
  ·rintro σ H6 ⟨e6,v6,v7,v8,v9,v10,rfl⟩;exact q H6
end
def JkZ (K:PySem.W.Frag):Prop:=(JmU K,JmT K,JmR K,JmS K,JmP K,JmQ K)=Jia
theorem Je {α:Type} {a b:α} (h:some a=some b):a=b:=Option.some.inj h
theorem JpA {w:World} {K:PySem.W.Frag} {h:Heap} {mg:Str→Option Value} {fa:Addr} {P:Program} (hS:JkZ K) (X:K.In h) (G:h.Ns mainGlobals mg) (hfa:mg "law" = some (.ref fa)) :
  ∃ fd:FuncData,(∀ (s:Shared) (v:Value),BindsTo s fd ⟨[v],[]⟩ [("_law_script",v)])∧∀ base:Heap,K.In base→base.Ns mainGlobals mg→JN P w K mg base YO 13 fa fd ["_law_script"] (Jkk K):=by
 have hB:JmU K=isB:=congrArg (fun x=>x.1) hS;have hF:JmT K=isF:=congrArg (fun x=>x.2.1) hS;have hN:JmR K=isN:=congrArg (fun x=>x.2.2.1) hS;have hK:JmS K=isK:=congrArg (fun x=>x.2.2.2.1) hS;have hV:JmP K=isV:=congrArg (fun x=>x.2.2.2.2.1) hS;have hT:JmQ K=isT:=congrArg (fun x=>x.2.2.2.2.2) hS;obtain ⟨Jai,Jbh,Jbb⟩:=mgV X G (Je (at_ hV 0));obtain ⟨Jah,Jaw,Jaq⟩:=mgV X G (Je (at_ hV 1));obtain ⟨Jak,ZL,ZI⟩:=mgV X G (Je (at_ hV 2));obtain ⟨ZU,JaZ,JaX⟩:=mgV X G (Je (at_ hV 3));obtain ⟨Jaj,Jbi,Jbc⟩:=mgV X G (Je (at_ hV 4));have e:=hfa.symm.trans (PySem.W.mg_of X G (Jy (Option.some.inj (at_ hB 67))));cases e;let T:Txt K mg:={
  JjZ:=Ji K "_wall"
  Jja:=JT K (Ji K "_wall")
  JoO:=⟨Jj (Je (at_ hF 0)),(Jj (Je (at_ hF 0))).binds (ps:=["k"]) (fun | _,_,_,_,_,_,[_],_=>rfl),PySem.W.mg_of X G (Jy (Je (at_ hB 0)))⟩
  Jdm:=Ji K "good_name"
  JcW:=JT K (Ji K "good_name")
  Jdq:=⟨Jj (Je (at_ hF 1)),(Jj (Je (at_ hF 1))).binds (ps:=["text"]) (fun | _,_,_,_,_,_,[_],_=>rfl),PySem.W.mg_of X G (Jy (Je (at_ hB 1)))⟩
  JcZ:=Ji K "check_hand"
  Jce:=JT K (Ji K "check_hand")
  JaC:=⟨Jj (Je (at_ hF 2)),(Jj (Je (at_ hF 2))).binds (ps:=["hand"]) (fun | _,_,_,_,_,_,[_],_=>rfl),PySem.W.mg_of X G (Jy (Je (at_ hB 2)))⟩
  Jhb:=Ji K "other"
  JfF:=JT K (Ji K "other")
  Jfe:=⟨Jj (Je (at_ hF 3)),(Jj (Je (at_ hF 3))).binds (ps:=["hand"]) (fun | _,_,_,_,_,_,[_],_=>rfl),PySem.W.mg_of X G (Jy (Je (at_ hB 3)))⟩
  Jch:=Ji K "check_up_to"
  JbD:=JT K (Ji K "check_up_to")
  Y6:=⟨Jj (Je (at_ hF 4)),(Jj (Je (at_ hF 4))).binds (ps:=["number", "most"]) (fun | _,_,_,_,_,_,[_,_],_=>rfl),PySem.W.mg_of X G (Jy (Je (at_ hB 4)))⟩
  Jck:=Ji K "check_coins"
  JbG:=JT K (Ji K "check_coins")
  Jcr:=⟨Jj (Je (at_ hF 5)),(Jj (Je (at_ hF 5))).binds (ps:=["north", "south"]) (fun | _,_,_,_,_,_,[_,_],_=>rfl),PySem.W.mg_of X G (Jy (Je (at_ hB 5)))⟩
  Jdn:=Ji K "check_bid"
  JcX:=JT K (Ji K "check_bid")
  JaW:=⟨Jj (Je (at_ hF 6)),(Jj (Je (at_ hF 6))).binds (ps:=["named", "coins"]) (fun | _,_,_,_,_,_,[_,_],_=>rfl),PySem.W.mg_of X G (Jy (Je (at_ hB 6)))⟩
  Jhe:=Ji K "ended"
  JfI:=JT K (Ji K "ended")
  JcE:=⟨Jj (Je (at_ hF 7)),(Jj (Je (at_ hF 7))).binds (ps:=["board", "place", "turns"]) (fun | _,_,_,_,_,_,[_,_,_],_=>rfl),PySem.W.mg_of X G (Jy (Je (at_ hB 7)))⟩
  Jd1:=Ji K "coins_of"
  Jdl:=JT K (Ji K "coins_of")
  JaJ:=⟨Jj (Je (at_ hF 8)),(Jj (Je (at_ hF 8))).binds (ps:=["hand", "north", "south"]) (fun | _,_,_,_,_,_,[_,_,_],_=>rfl),PySem.W.mg_of X G (Jy (Je (at_ hB 8)))⟩
  JkN:=Ji K "pay"
  Ji7:=JT K (Ji K "pay")
  JgF:=⟨Jj (Je (at_ hF 9)),(Jj (Je (at_ hF 9))).binds (ps:=["hand", "price", "north", "south", "ribbon"]) (fun | _,_,_,_,_,_,[_,_,_,_,_],_=>rfl),PySem.W.mg_of X G (Jy (Je (at_ hB 9)))⟩
  JfN:=Ji K "settle"
  JeB:=JT K (Ji K "settle")
  JfY:=⟨Jj (Je (at_ hF 10)),(Jj (Je (at_ hF 10))).binds (ps:=["north", "south", "ribbon", "bid", "answer"]) (fun | _,_,_,_,_,_,[_,_,_,_,_],_=>rfl),PySem.W.mg_of X G (Jy (Je (at_ hB 10)))⟩
  JaR:=Ji K "check_each_once"
  Jax:=JT K (Ji K "check_each_once")
  Y7:=⟨Jj (Je (at_ hF 23)),(Jj (Je (at_ hF 23))).binds (ps:=["things"]) (fun | _,_,_,_,_,_,[_],_=>rfl),PySem.W.mg_of X G (Jy (Je (at_ hB 35)))⟩
  Jcl:=Ji K "check_among"
  JbH:=JT K (Ji K "check_among")
  Zv:=⟨Jj (Je (at_ hF 24)),(Jj (Je (at_ hF 24))).binds (ps:=["place", "places"]) (fun | _,_,_,_,_,_,[_,_],_=>rfl),PySem.W.mg_of X G (Jy (Je (at_ hB 36)))⟩
  JbK:=Ji K "check_places"
  Jbj:=JT K (Ji K "check_places")
  JbP:=⟨Jj (Je (at_ hF 25)),(Jj (Je (at_ hF 25))).binds (ps:=["places"]) (fun | _,_,_,_,_,_,[_],_=>rfl),PySem.W.mg_of X G (Jy (Je (at_ hB 37)))⟩
  Jci:=Ji K "check_lanes"
  JbE:=JT K (Ji K "check_lanes")
  Jcp:=⟨Jj (Je (at_ hF 26)),(Jj (Je (at_ hF 26))).binds (ps:=["lanes", "places"]) (fun | _,_,_,_,_,_,[_,_],_=>rfl),PySem.W.mg_of X G (Jy (Je (at_ hB 38)))⟩
  Jcj:=Ji K "check_goals"
  JbF:=JT K (Ji K "check_goals")
  Jcq:=⟨Jj (Je (at_ hF 27)),(Jj (Je (at_ hF 27))).binds (ps:=["goals", "places"]) (fun | _,_,_,_,_,_,[_,_],_=>rfl),PySem.W.mg_of X G (Jy (Je (at_ hB 39)))⟩
  Jnq:=Ji K "_law_at"
  JkK:=JT K (Ji K "_law_at")
  Jcs:=⟨Jj (Je (at_ hF 32)),(Jj (Je (at_ hF 32))).binds (ps:=["_law_script", "_law_k"]) (fun | _,_,_,_,_,_,[_,_],_=>rfl),PySem.W.mg_of X G (Jy (Je (at_ hB 48)))⟩
  JkM:=Ji K "_law_row"
  Ji6:=JT K (Ji K "_law_row")
  JgE:=⟨Jj (Je (at_ hF 33)),(Jj (Je (at_ hF 33))).binds (ps:=["_law_cell", "_law_many", "_law_base"]) (fun | _,_,_,_,_,_,[_,_,_],_=>rfl),PySem.W.mg_of X G (Jy (Je (at_ hB 49)))⟩
  Jg8:=Ji K "_law_whole"
  JfC:=JT K (Ji K "_law_whole")
  Jfd:=⟨Jj (Je (at_ hF 34)),(Jj (Je (at_ hF 34))).binds (ps:=["_law_found"]) (fun | _,_,_,_,_,_,[_],_=>rfl),PySem.W.mg_of X G (Jy (Je (at_ hB 50)))⟩
  Jhc:=Ji K "_law_names"
  JfG:=JT K (Ji K "_law_names")
  Jhk:=⟨Jj (Je (at_ hF 35)),(Jj (Je (at_ hF 35))).binds (ps:=["_law_cell", "_law_many"]) (fun | _,_,_,_,_,_,[_,_],_=>rfl),PySem.W.mg_of X G (Jy (Je (at_ hB 51)))⟩
  Jha:=Ji K "_law_pairs"
  JfE:=JT K (Ji K "_law_pairs")
  Jhj:=⟨Jj (Je (at_ hF 36)),(Jj (Je (at_ hF 36))).binds (ps:=["_law_cell", "_law_draw", "_law_size"]) (fun | _,_,_,_,_,_,[_,_,_],_=>rfl),PySem.W.mg_of X G (Jy (Je (at_ hB 52)))⟩
  Jhd:=Ji K "_law_goals"
  JfH:=JT K (Ji K "_law_goals")
  Jhl:=⟨Jj (Je (at_ hF 37)),(Jj (Je (at_ hF 37))).binds (ps:=["_law_cell", "_law_kind", "_law_size"]) (fun | _,_,_,_,_,_,[_,_,_],_=>rfl),PySem.W.mg_of X G (Jy (Je (at_ hB 53)))⟩
  Jg9:=Ji K "_law_small"
  JfD:=JT K (Ji K "_law_small")
  Jhi:=⟨Jj (Je (at_ hF 38)),(Jj (Je (at_ hF 38))).binds (ps:=["_law_script", "_law_at_here"]) (fun | _,_,_,_,_,_,[_,_],_=>rfl),PySem.W.mg_of X G (Jy (Je (at_ hB 54)))⟩
  Jjb:=Ji K "_law_ways"
  Jg4:=JT K (Ji K "_law_ways")
  JgD:=⟨Jj (Je (at_ hF 39)),(Jj (Je (at_ hF 39))).binds (ps:=["_law_ground", "_law_place"]) (fun | _,_,_,_,_,_,[_,_],_=>rfl),PySem.W.mg_of X G (Jy (Je (at_ hB 55)))⟩
  JkP:=Ji K "_law_foe"
  Ji9:=JT K (Ji K "_law_foe")
  Jff:=⟨Jj (Je (at_ hF 40)),(Jj (Je (at_ hF 40))).binds (ps:=["_law_hand_here"]) (fun | _,_,_,_,_,_,[_],_=>rfl),PySem.W.mg_of X G (Jy (Je (at_ hB 56)))⟩
  Jjd:=Ji K "_law_hand"
  Jg6:=JT K (Ji K "_law_hand")
  Jjs:=⟨Jj (Je (at_ hF 41)),(Jj (Je (at_ hF 41))).binds (ps:=["_law_cell"]) (fun | _,_,_,_,_,_,[_],_=>rfl),PySem.W.mg_of X G (Jy (Je (at_ hB 57)))⟩
  JkL:=Ji K "_law_won"
  Ji5:=JT K (Ji K "_law_won")
  JgC:=⟨Jj (Je (at_ hF 42)),(Jj (Je (at_ hF 42))).binds (ps:=["_law_ground", "_law_place", "_law_left"]) (fun | _,_,_,_,_,_,[_,_,_],_=>rfl),PySem.W.mg_of X G (Jy (Je (at_ hB 58)))⟩
  JfL:=Ji K "_law_turned"
  Jez:=JT K (Ji K "_law_turned")
  JfW:=⟨Jj (Je (at_ hF 43)),(Jj (Je (at_ hF 43))).binds (ps:=["_law_north", "_law_south", "_law_ribbon", "_law_bid", "_law_reply"]) (fun | _,_,_,_,_,_,[_,_,_,_,_],_=>rfl),PySem.W.mg_of X G (Jy (Je (at_ hB 59)))⟩
  Jjc:=Ji K "_law_open"
  Jg5:=JT K (Ji K "_law_open")
  Jjr:=⟨Jj (Je (at_ hF 44)),(Jj (Je (at_ hF 44))).binds (ps:=["_law_ground", "_law_cell"]) (fun | _,_,_,_,_,_,[_,_],_=>rfl),PySem.W.mg_of X G (Jy (Je (at_ hB 60)))⟩
  Jje:=Ji K "_law_bids"
  Jg7:=JT K (Ji K "_law_bids")
  Jjt:=⟨Jj (Je (at_ hF 45)),(Jj (Je (at_ hF 45))).binds (ps:=["_law_book", "_law_at_here", "_law_hand_here", "_law_total"]) (fun | _,_,_,_,_,_,[_,_,_,_],_=>rfl),PySem.W.mg_of X G (Jy (Je (at_ hB 61)))⟩
  JeD:=Ji K "_law_answers"
  Jd0:=JT K (Ji K "_law_answers")
  JeN:=⟨Jj (Je (at_ hF 46)),(Jj (Je (at_ hF 46))).binds (ps:=["_law_book", "_law_at_here", "_law_hand_here", "_law_total", "_law_bid"]) (fun | _,_,_,_,_,_,[_,_,_,_,_],_=>rfl),PySem.W.mg_of X G (Jy (Je (at_ hB 62)))⟩
  Jhf:=Ji K "_law_comes"
  JfJ:=JT K (Ji K "_law_comes")
  Jhm:=⟨Jj (Je (at_ hF 47)),(Jj (Je (at_ hF 47))).binds (ps:=["_law_book", "_law_ground", "_law_total", "_law_at_here", "_law_hand_here", "_law_bid", "_law_reply"]) (fun | _,_,_,_,_,_,[_,_,_,_,_,_,_],_=>rfl),PySem.W.mg_of X G (Jy (Je (at_ hB 63)))⟩
  JfO:=Ji K "_law_behind"
  JeC:=JT K (Ji K "_law_behind")
  JfZ:=⟨Jj (Je (at_ hF 48)),(Jj (Je (at_ hF 48))).binds (ps:=["_law_book", "_law_ground", "_law_total", "_law_at_here", "_law_hand_here"]) (fun | _,_,_,_,_,_,[_,_,_,_,_],_=>rfl),PySem.W.mg_of X G (Jy (Je (at_ hB 64)))⟩
  JfM:=Ji K "_law_stands"
  JeA:=JT K (Ji K "_law_stands")
  JfX:=⟨Jj (Je (at_ hF 49)),(Jj (Je (at_ hF 49))).binds (ps:=["_law_book", "_law_ground", "_law_at_here", "_law_hand_here"]) (fun | _,_,_,_,_,_,[_,_,_,_],_=>rfl),PySem.W.mg_of X G (Jy (Je (at_ hB 65)))⟩
  JfK:=Ji K "_law_won_by"
  Jey:=JT K (Ji K "_law_won_by")
  JfV:=⟨Jj (Je (at_ hF 50)),(Jj (Je (at_ hF 50))).binds (ps:=["_law_book", "_law_ground", "_law_total", "_law_at_here", "_law_hand_here"]) (fun | _,_,_,_,_,_,[_,_,_,_,_],_=>rfl),PySem.W.mg_of X G (Jy (Je (at_ hB 66)))⟩
  JkO:=Ji K "law"
  Ji8:=JT K (Ji K "law")
  JnZ:=⟨Jj (Je (at_ hF 51)),(Jj (Je (at_ hF 51))).binds (ps:=["_law_script"]) (fun | _,_,_,_,_,_,[_],_=>rfl),PySem.W.mg_of X G (Jy (Je (at_ hB 67)))⟩
  JdL:=Ji K "HANDS"
  Jg3:=PySem.W.mg_of X G (Jy (Je (at_ hB 68)))
  JeS:=fun H=>Jpl (xs:=[.inr "north",.inr "south"]) (Je (at_ hT 0)) H
  Jai:=Jai
  Jbh:=Jbh
  Jbb:=Jbb
  Jah:=Jah
  Jaw:=Jaw
  Jaq:=Jaq
  Jak:=Jak
  ZL:=ZL
  ZI:=ZI
  ZU:=ZU
  JaZ:=JaZ
  JaX:=JaX
  Jaj:=Jaj
  Jbi:=Jbi
  Jbc:=Jbc
  JnP:=PySem.W.mg_none_of X G (Je (at_ hN 0))
  JaH:=PySem.W.mg_none_of X G (Je (at_ hN 1))
  Y2:=PySem.W.mg_none_of X G (Je (at_ hN 2))
  JkB:=PySem.W.mg_none_of X G (Je (at_ hN 3))
  JdX:=PySem.W.mg_none_of X G (Je (at_ hN 4))
  JnO:=PySem.W.mg_none_of X G (Je (at_ hN 5))
  JdF:=PySem.W.mg_none_of X G (Je (at_ hN 6))
  JcS:=PySem.W.mg_none_of X G (Je (at_ hN 7))
  Jat:=PySem.W.mg_none_of X G (Je (at_ hN 8))
  Jh9:=PySem.W.mg_none_of X G (Je (at_ hN 9))
  JlH:=PySem.W.mg_none_of X G (Je (at_ hN 10))
  JdG:=PySem.W.mg_none_of X G (Je (at_ hN 11))
  JkA:=PySem.W.mg_none_of X G (Je (at_ hN 12))
  Jdc:=Ji K "BidmoverError"
  Jgv:=PySem.W.mg_of X G (Jy (Je (at_ hB 69)))
  Jet:=Ji K "BadName"
  Jmj:=PySem.W.mg_of X G (Jy (Je (at_ hB 70)))
  YZ:=Ji K "BadHand"
  JhP:=PySem.W.mg_of X G (Jy (Je (at_ hB 71)))
  J1:=Ji K "OutOfRange"
  Jc3:=PySem.W.mg_of X G (Jy (Je (at_ hB 72)))
  Jg2:=Ji K "Twice"
  JoI:=PySem.W.mg_of X G (Jy (Je (at_ hB 73)))
  YB:=Ji K "NoPlace"
  JhO:=PySem.W.mg_of X G (Jy (Je (at_ hB 74)))
  JbB:=Ji K "BadBid"
  Jji:=PySem.W.mg_of X G (Jy (Je (at_ hB 75)))
  JC:=Ji K "Book"
  Jmi:=PySem.W.mg_of X G (Jy (Je (at_ hB 76)))
  JJ:=⟨(Je (at_ hB 78)),(Je (at_ hB 79)),(Je (at_ hB 80)),(Je (at_ hN 13))⟩
  JbT:=JO K "Book" "__init__"
  JcY:=JT K (JO K "Book" "__init__")
  Jdr:=⟨Jj (Je (at_ hF 11)),(Jj (Je (at_ hF 11))).binds (ps:=["self", "board", "coins", "turns"]) (fun | _,_,_,_,_,_,[_,_,_,_],_=>rfl),⟨Yc (Je (at_ hB 11)),(Je (at_ hB 12)),YM (Je (at_ hF 11))⟩⟩
  JaS:=JO K "Book" "needs_with"
  Jay:=JT K (JO K "Book" "needs_with")
  ZG:=⟨Jj (Je (at_ hF 12)),(Jj (Je (at_ hF 12))).binds (ps:=["self", "turns"]) (fun | _,_,_,_,_,_,[_,_],_=>rfl),⟨Yc (Je (at_ hB 13)),(Je (at_ hB 14)),YM (Je (at_ hF 12))⟩⟩
  JbM:=JO K "Book" "need_at"
  Jbl:=JT K (JO K "Book" "need_at")
  JaK:=⟨Jj (Je (at_ hF 13)),(Jj (Je (at_ hF 13))).binds (ps:=["self", "place", "turns", "ribbon"]) (fun | _,_,_,_,_,_,[_,_,_,_],_=>rfl),⟨Yc (Je (at_ hB 15)),(Je (at_ hB 16)),YM (Je (at_ hF 13))⟩⟩
  YR:=JO K "Book" "need_where_north_leads"
  YK:=JT K (JO K "Book" "need_where_north_leads")
  JY:=⟨Jj (Je (at_ hF 14)),(Jj (Je (at_ hF 14))).binds (ps:=["self", "place", "turns"]) (fun | _,_,_,_,_,_,[_,_,_],_=>rfl),⟨Yc (Je (at_ hB 17)),(Je (at_ hB 18)),YM (Je (at_ hF 14))⟩⟩
  YQ:=JO K "Book" "need_where_south_leads"
  YJ:=JT K (JO K "Book" "need_where_south_leads")
  JX:=⟨Jj (Je (at_ hF 15)),(Jj (Je (at_ hF 15))).binds (ps:=["self", "place", "turns"]) (fun | _,_,_,_,_,_,[_,_,_],_=>rfl),⟨Yc (Je (at_ hB 19)),(Je (at_ hB 20)),YM (Je (at_ hF 15))⟩⟩
  Jaz:=JO K "Book" "check_share"
  Z4:=JT K (JO K "Book" "check_share")
  Yh:=⟨Jj (Je (at_ hF 16)),(Jj (Je (at_ hF 16))).binds (ps:=["self", "place", "turns", "north", "ribbon"]) (fun | _,_,_,_,_,_,[_,_,_,_,_],_=>rfl),⟨Yc (Je (at_ hB 21)),(Je (at_ hB 22)),YM (Je (at_ hF 16))⟩⟩
  Jcm:=JO K "Book" "winner"
  JbI:=JT K (JO K "Book" "winner")
  Ys:=⟨Jj (Je (at_ hF 17)),(Jj (Je (at_ hF 17))).binds (ps:=["self", "place", "turns", "north", "ribbon"]) (fun | _,_,_,_,_,_,[_,_,_,_,_],_=>rfl),⟨Yc (Je (at_ hB 23)),(Je (at_ hB 24)),YM (Je (at_ hF 17))⟩⟩
  JeE:=JO K "Book" "least"
  Jd5:=JT K (JO K "Book" "least")
  Jju:=⟨Jj (Je (at_ hF 18)),(Jj (Je (at_ hF 18))).binds (ps:=["self", "place", "turns", "ribbon"]) (fun | _,_,_,_,_,_,[_,_,_,_],_=>rfl),⟨Yc (Je (at_ hB 25)),(Je (at_ hB 26)),YM (Je (at_ hF 18))⟩⟩
  Jcn:=JO K "Book" "bid_of"
  JbJ:=JT K (JO K "Book" "bid_of")
  Ja1:=⟨Jj (Je (at_ hF 19)),(Jj (Je (at_ hF 19))).binds (ps:=["self", "place", "turns", "north", "ribbon"]) (fun | _,_,_,_,_,_,[_,_,_,_,_],_=>rfl),⟨Yc (Je (at_ hB 27)),(Je (at_ hB 28)),YM (Je (at_ hF 19))⟩⟩
  Ja6:=JO K "Book" "answer_of"
  JaQ:=JT K (JO K "Book" "answer_of")
  ZT:=⟨Jj (Je (at_ hF 20)),(Jj (Je (at_ hF 20))).binds (ps:=["self", "place", "turns", "north", "ribbon", "bid"]) (fun | _,_,_,_,_,_,[_,_,_,_,_,_],_=>rfl),⟨Yc (Je (at_ hB 29)),(Je (at_ hB 30)),YM (Je (at_ hF 20))⟩⟩
  JaA:=JO K "Book" "answer_wins"
  Z5:=JT K (JO K "Book" "answer_wins")
  ZD:=⟨Jj (Je (at_ hF 21)),(Jj (Je (at_ hF 21))).binds (ps:=["self", "place", "turns", "settled", "holder"]) (fun | _,_,_,_,_,_,[_,_,_,_,_],_=>rfl),⟨Yc (Je (at_ hB 31)),(Je (at_ hB 32)),YM (Je (at_ hF 21))⟩⟩
  JbL:=JO K "Book" "step_of"
  Jbk:=JT K (JO K "Book" "step_of")
  Zd:=⟨Jj (Je (at_ hF 22)),(Jj (Je (at_ hF 22))).binds (ps:=["self", "place", "turns", "north", "ribbon", "hand"]) (fun | _,_,_,_,_,_,[_,_,_,_,_,_],_=>rfl),⟨Yc (Je (at_ hB 33)),(Je (at_ hB 34)),YM (Je (at_ hF 22))⟩⟩
  JjU:=⟨(Je (at_ hB 81)),Yc (Je (at_ hB 11)),(Je (at_ hB 12)),(Je (at_ hB 82))⟩
  Yk:=(Je (at_ hN 14))
  ZY:=(Je (at_ hN 15))
  Jcd:=(Je (at_ hN 16))
  Zu:=(Je (at_ hN 17))
  JD:=Ji K "Board"
  Jj7:=PySem.W.mg_of X G (Jy (Je (at_ hB 77)))
  Yr:=⟨(Je (at_ hB 83)),(Je (at_ hB 84)),(Je (at_ hB 85)),(Je (at_ hN 18))⟩
  Jbn:=JO K "Board" "__init__"
  Jcg:=JT K (JO K "Board" "__init__")
  Jc7:=⟨Jj (Je (at_ hF 28)),(Jj (Je (at_ hF 28))).binds (ps:=["self", "places", "lanes", "goals"]) (fun | _,_,_,_,_,_,[_,_,_,_],_=>rfl),⟨Yc (Je (at_ hB 40)),(Je (at_ hB 41)),YM (Je (at_ hF 28))⟩⟩
  Z6:=JO K "Board" "check_place"
  ZS:=JT K (JO K "Board" "check_place")
  JW:=⟨Jj (Je (at_ hF 29)),(Jj (Je (at_ hF 29))).binds (ps:=["self", "place"]) (fun | _,_,_,_,_,_,[_,_],_=>rfl),⟨Yc (Je (at_ hB 42)),(Je (at_ hB 43)),YM (Je (at_ hF 29))⟩⟩
  Jc0:=JO K "Board" "ways"
  Jcf:=JT K (JO K "Board" "ways")
  Yz:=⟨Jj (Je (at_ hF 30)),(Jj (Je (at_ hF 30))).binds (ps:=["self", "place"]) (fun | _,_,_,_,_,_,[_,_],_=>rfl),⟨Yc (Je (at_ hB 44)),(Je (at_ hB 45)),YM (Je (at_ hF 30))⟩⟩
  Jbm:=JO K "Board" "is_goal"
  Ja5:=JT K (JO K "Board" "is_goal")
  Jag:=⟨Jj (Je (at_ hF 31)),(Jj (Je (at_ hF 31))).binds (ps:=["self", "place"]) (fun | _,_,_,_,_,_,[_,_],_=>rfl),⟨Yc (Je (at_ hB 46)),(Je (at_ hB 47)),YM (Je (at_ hF 31))⟩⟩
  JiX:=⟨(Je (at_ hB 86)),Yc (Je (at_ hB 40)),(Je (at_ hB 41)),(Je (at_ hB 87))⟩
  Jae:=(Je (at_ hN 19))
  Jby:=(Je (at_ hN 20))
  Jbz:=(Je (at_ hN 21))
  Jgz:=⟨(Je (at_ hB 88)),(Je (at_ hN 23)),(Je (at_ hN 24)),(Je (at_ hN 25)),(Je (at_ hN 22)),(Je (at_ hK 0)),(Je (at_ hK 1)),(Je (at_ hK 2)),(Je (at_ hB 89))⟩
  Jco:=⟨(Je (at_ hB 90)),(Je (at_ hN 26)),(Je (at_ hN 27)),(Je (at_ hN 28)),(Je (at_ hN 22)),(Je (at_ hK 0)),(Je (at_ hK 3)),(Je (at_ hK 4)),(Je (at_ hB 91))⟩
  JhW:=⟨(Je (at_ hB 92)),(Je (at_ hN 29)),(Je (at_ hN 30)),(Je (at_ hN 31)),(Je (at_ hN 22)),(Je (at_ hK 0)),(Je (at_ hK 5)),(Je (at_ hK 6)),(Je (at_ hB 93))⟩
  Jny:=⟨(Je (at_ hB 94)),(Je (at_ hN 32)),(Je (at_ hN 33)),(Je (at_ hN 34)),(Je (at_ hN 22)),(Je (at_ hK 0)),(Je (at_ hK 7)),(Je (at_ hK 8)),(Je (at_ hB 95))⟩
  Jgy:=⟨(Je (at_ hB 96)),(Je (at_ hN 35)),(Je (at_ hN 36)),(Je (at_ hN 37)),(Je (at_ hN 22)),(Je (at_ hK 0)),(Je (at_ hK 9)),(Je (at_ hK 10)),(Je (at_ hB 97))⟩
  JkY:=⟨(Je (at_ hB 98)),(Je (at_ hN 38)),(Je (at_ hN 39)),(Je (at_ hN 40)),(Je (at_ hN 22)),(Je (at_ hK 0)),(Je (at_ hK 11)),(Je (at_ hK 12)),(Je (at_ hB 99))⟩ }
 obtain ⟨oc,od,kV,doc,pm,an,cdv,ct,osl,z1,z2,z3,z4⟩:=JlF (Option.some.inj (at_ hF 51));exact ⟨_,fun s v=>by show BindsTo s (JT K (Ji K "law")) _ _; rw [z1]; exact .of_eq rfl,fun base _ _=>Jpk T⟩
def Jpx:DefRec:=⟨"law",JcD JdR,Ja8 JdR,Jo JdR,Jpw JdR⟩
theorem Jqq:PySem.W.WalkO qv lo0 (PySem.W.XL qv []) (fun _ h=>∃ K:PySem.W.Frag,K.In h∧JkZ K) PySem.Challenge.rw_bidmover_k35_whole_all_plays.row.toRowW Jpx [] (fun f vs=>PySem.call f vs) :=
 L2.Jmw (l:=PySem.Challenge.rw_bidmover_k35_whole_all_plays) (n:=63) (k:=13) (x := "_law_script") (CX:=YO) (sp:=Jkk) (C:=JkZ) rfl (by decide) rfl ⟨rfl,by decide,by decide⟩ (fun _ _ y=>y) (fun w K mg fa h hS X G hfa=>JpA hS X G hfa) (fun _ _ a ns hl _ hS=>⟨a,ns,rfl,hS,hl,fun _=>rfl⟩) fun _ _ _ _ z=>z
end Pf
open PySem PySem.W PyProof.Rows
set_option maxRecDepth 100000 in
set_option maxHeartbeats 0 in
theorem PySem.Challenge.cw_bidmover_k35_whole_all_plays_holds : PySem.Challenge.rw_bidmover_k35_whole_all_plays.Holds := by
 refine holds_law Pf.JmY fun JmY=>?_
 refine holds_open (q:=Pf.qv) (loose:=Pf.lo0) (Xt:=Pf.xt) (XP:=XL Pf.qv []) (Yf:=Pf.see) (Ya:=fun _=>Pf.Jia) (YP:=fun _ h=>∃ K:Frag,K.In h∧Pf.JkZ K) (d:=Pf.Jpx) (kwd:=[]) Pf.left (fun w s e=>⟨_,L2.Jl1 _,e⟩) (fun w h h' y hk=>y.elim fun K z=>⟨K,z.1.keeps hk,z.2⟩) (fun s e=>xl_of s (Bool.and_eq_true_iff.mp e).1) XL.keeps ?h1 ?h2 ?h3 (fun s e=>recFacts_of (Bool.and_eq_true_iff.mp e).2) ?h4 JmY ?h5 ⟨rfl,rfl,rfl,rfl,rfl,by decide +kernel⟩ ?hw Pf.Jqq
 case h1=>kernel_rfl
 case h2=>kernel_rfl
 case h3=>kernel_rfl
 case h4=>kernel_rfl
 case h5=>kernel_rfl
 case hw=>w_witness2
