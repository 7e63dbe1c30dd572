import PyProof.Rows.All
import Wide.All
import OpenK.AllK
import Wide.FinOn
import Lean
import PyProof.EqAt
import PyProof.EqKinds
import PyProof.TupleCall
import PyProof.ExcAttrAll.ValueError
import PyProof.FString4
import PyProof.FString5
import PyProof.StrLawsRepr
import PyProof.Rows.SetFrom
import KE.KSortTup
import PyProof.NeKinds
import PyProof.Rows.MinMaxN
import KE.KDictSum
import PySem.Challenge.RW_bidmover_k22_far_places
set_option Elab.async false
set_option linter.all false
set_option maxRecDepth 100000
namespace L2
open PySem PySem.W
def YN (s:Stmt) (j:Nat):Stmt:=match s with
 | .ClassDef _ _ _ body _ _ _ _ _ _ _=>body.getD j (.Pass ⟨0,0,0,0⟩)
 | _=>.Pass ⟨0,0,0,0⟩
def Jcr (s:Stmt):Arguments:=match s with
 | .FunctionDef _ a _ _ _ _ _ _ _ _=>a
 | _=>{ posonlyargs:=[],args:=[],vararg:=none,kwonlyargs:=[],kw_defaults:=[],kwarg:=none,defaults:=[] }
def Ja2 (s:Stmt):List Stmt:=match s with
 | .FunctionDef _ _ b _ _ _ _ _ _ _=>b
 | _=>[]
def Jm (s:Stmt):Scope:=match s with
 | .FunctionDef _ _ _ _ _ _ sc _ _ _=>sc
 | _=>{ kind:=.function,names:=[],isGenerator:=false,isCoroutine:=false }
def Joa (s:Stmt):Pos:=match s with
 | .FunctionDef _ _ _ _ _ _ _ _ _ p=>p
 | _=>⟨0,0,0,0⟩
def JkL (h:Heap):Frag:=h.objs.toList.zipIdx.filterMap fun x=>(alive x.1).map fun o=>(x.2,o)
theorem JkK (h:Heap):(JkL h).In h:=by
 intro a o e;have key:∀ (l:List Obj) (k:Nat),((l.zipIdx k).filterMap fun x=>(alive x.1).map fun o=>(x.2,o)).lookup a=some o→k≤a∧∃ u,l[a - k]?=some u∧alive u=some o:=by
  intro l
  induction l with
  | nil=>intro k e; cases e
  | cons b l ih =>
   intro k e;rw [List.zipIdx_cons,List.filterMap_cons] at e;have next:((l.zipIdx (k + 1)).filterMap fun x=>(alive x.1).map fun o=>(x.2,o)).lookup a=some o→k≤a∧∃ u,(b :: l)[a - k]?=some u∧alive u=some o:=fun e=>by
    obtain ⟨h1,u,h2,h3⟩:=ih (k + 1) e;refine ⟨by omega,u,?_,h3⟩;have e:a - k=(a - (k + 1)) + 1:=(Nat.succ_pred_eq_of_pos (Nat.sub_pos_of_lt h1)).symm;rw [e,List.getElem?_cons_succ];exact h2
   cases hb:alive b with
   | none =>
    have e:((l.zipIdx (k + 1)).filterMap fun x=>(alive x.1).map fun o=>(x.2,o)).lookup a=some o:=by
     simp only [hb,Option.map_none] at e;exact e
    exact next e
   | some u =>
    have e:List.lookup a ((k,u) :: ((l.zipIdx (k + 1)).filterMap fun x=>(alive x.1).map fun o=>(x.2,o)))=some o:=by
     simp only [hb,Option.map_some] at e;exact e
    rw [List.lookup_cons] at e;cases hab:a == k with
    | true =>
     rw [hab] at e;have ak:=beq_iff_eq.mp hab;subst ak;refine ⟨Nat.le_refl _,b,by rw [Nat.sub_self]; rfl,?_⟩;rw [hb]; exact e
    | false=>rw [hab] at e; exact next e
 obtain ⟨_,u,h2,h3⟩:=key _ 0 e;rw [Nat.sub_zero,Array.getElem?_toList] at h2;unfold Heap.get?;rw [h2];obtain ⟨c,d,dt,sl⟩:=u;cases dt <;> exact h3
def Jj (K:Frag) (n:Str):Addr:=match nsIn K mainGlobals n with
 | some (some (.ref k))=>k
 | _=>0
def JV (K:Frag) (n:Str):Bool:=match nsIn K mainGlobals n with
 | some (some (.ref _))=>true
 | _=>false
theorem JE {K:Frag} {n:Str} (h:JV K n=true):nsIn K mainGlobals n=some (some (.ref (Jj K n))):=by
 unfold JV at h;unfold Jj;split at h
 ·rename_i k e; rw [e]
 ·cases h
def JI (K:Frag) (n m:Str):Addr:=match findIn K (.ref (Jj K n)) m with
 | some (some (.ref k))=>k
 | _=>0
def YW (K:Frag) (n m:Str):Bool:=match findIn K (.ref (Jj K n)) m with
 | some (some (.ref _))=>true
 | _=>false
theorem J6 {K:Frag} {n m:Str} (h:YW K n m=true):findIn K (.ref (Jj K n)) m=some (some (.ref (JI K n m))):=by
 unfold YW at h;unfold JI;split at h
 ·rename_i k e; rw [e]
 ·cases h
def JZ (K:Frag) (f:Addr):FuncData:=match K.lookup f with
 | some ⟨_,_,.func fd,_⟩=>fd
 | _=>default
def JjR (fd:FuncData):FuncData:={ fd with kwdefaults:=.none,doc:=.none,pyModule:=.none,annotations:=none,code:=.none,closureTuple:=.none }
def Yk (K:Frag) (f:Addr) (q:Str):Option (FuncData×Bool):=match K.lookup f with
 | some ⟨_,_,.func fd,_⟩=>some (JjR fd,codeIn K fd.code q && keepIn K (.ref f))
 | _=>none
abbrev Yn (x q:Str) (st:Stmt):Option (FuncData×Bool):=some (fnOf x q (Jcr st) (Ja2 st) (Jm st) .none .none .none .none none .none .none,true)
theorem Jko {K:Frag} {f:Addr} {x q:Str} {st:Stmt} (h:Yk K f q=Yn x q st):∃ (oc:Value) (od:Option Addr) (kV doc pm:Value) (an:Option Addr) (cdv ct:Value) (osl:Array (Option Value)),
  JZ K f=fnOf x q (Jcr st) (Ja2 st) (Jm st) .none kV doc pm an cdv ct∧K.lookup f=some ⟨oc,od,.func (JZ K f),osl⟩∧codeIn K cdv q=true∧keepIn K (.ref f)=true:=by
 unfold Yk at h;unfold JZ;split at h
 ·rename_i oc od fd sl e;rw [e];have h:=Option.some.inj h;have h1:=congrArg Prod.fst h;have h2:(codeIn K fd.code q && keepIn K (.ref f))=true:=congrArg Prod.snd h;rw [Bool.and_eq_true] at h2;obtain ⟨n,qn,ps,b,sc,gl,cl,df,kd,dc,pm,an,cd,ct,bu⟩:=fd;have h1:JjR ⟨n,qn,ps,b,sc,gl,cl,df,kd,dc,pm,an,cd,ct,bu⟩=fnOf x q (Jcr st) (Ja2 st) (Jm st) .none .none .none .none none .none .none:=h1;unfold JjR fnOf at h1;simp only [FuncData.mk.injEq] at h1;obtain ⟨rfl,rfl,rfl,rfl,rfl,rfl,rfl,rfl,_,_,_,_,_,_,rfl⟩:=h1;exact ⟨oc,od,kd,dc,pm,an,cd,ct,sl,rfl,rfl,h2.1,h2.2⟩
 ·cases h
def JdQ:Value→Option (Sum Int Str)
 | .int i _=>some (.inl i)
 | .str x _=>some (.inr x)
 | _=>none
def obV (K:Frag) (n:Str):Option (Sum Int Str):=match nsIn K mainGlobals n with
 | some (some v)=>JdQ v
 | _=>none
theorem Jm7 {K:Frag} {n:Str} {i:Int} (h:obV K n=some (.inl i)):∃ t,nsIn K mainGlobals n=some (some (.int i t)):=by
 unfold obV at h;split at h
 ·rename_i v e;unfold JdQ at h;split at h
  ·cases h; exact ⟨_,e⟩
  ·cases h
  ·cases h
 ·cases h
def obT (K:Frag) (n:Str):Option (Bool×List (Option (Sum Int Str))):=match K.lookup (Jj K n) with
 | some ⟨.type "tuple",_,.seq its _,_⟩=>some (decide (its.size≤1000),its.toList.map JdQ)
 | _=>none
theorem at_ {α:Type} {l l':List α} (h:l=l') (i:Nat):l[i]?=l'[i]?:=by rw [h]
def Jdl (okf:Thread→Bool) (stf:SharedT→Thread→Option (SharedT×Thread)):Nat→SharedT→Thread→Option SharedT
 | 0,_,_=>none
 | n + 1,s,t=>match through t with
  | true=>some s
  | false=>match okf t with
   | false=>none
   | true=>match stf s t with
    | some (s',t')=>Jdl okf stf n s' t'
    | none=>none
theorem Jfu {tb:String→Option Builtin} {p:Program} {w:World} {n₀:Nat} {ann:Option Value}:∀ {n:Nat} {s s':SharedT} {t:Thread},Jdl (stepOk n₀ ann) (stepT (denote tb) p w) n s t=some s'→topRun tb p w n₀ ann n s.abs t=some s'.abs
 | 0,_,_,_,h=>nomatch h
 | n + 1,s,s',t,h=>by
  unfold Jdl at h;unfold topRun;split at h
  ·rename_i e; rw [e]; cases h; rfl
  ·rename_i e; rw [e];split at h
   ·cases h
   ·rename_i e2; rw [e2];split at h
    ·rename_i s2 t2 e3;rw [stepT_spec e3];exact Jfu h
    ·cases h
noncomputable def Jf4 (p:Program) (w:World) (N:Nat) (s:SharedT):Option SharedT :=
 Jdl (Fast.tw6613529449190102663 ((boot_heap w.params).objs.size) ((boot_heap w.params).nsMap mainGlobals "__annotations__")) (Fast.tw10156331382660048174 (Fast.tw11892475500146522536 Fast.tw14364793385576792824) p w) N s (topStub p)
theorem Jjd {p:Program} {w:World} {N:Nat} {s:SharedT}:Jf4 p w N s=Jdl (stepOk ((boot_heap w.params).objs.size) ((boot_heap w.params).nsMap mainGlobals "__annotations__")) (stepT (denote treeTable) p w) N s (topStub p):=by
 rw [Fast.te6613529449190102663,Fast.te10156331382660048174,Fast.te11892475500146522536,Fast.te14364793385576792824];rfl
noncomputable def Jfo (P:Params):BT:=(boot_heap P).objs.toList.zipIdx.foldl (fun t x=>t.ins x.2 x.1) .nil
noncomputable def JjQ (P:Params) (os:OsState):SharedT:=⟨Jfo P,(boot_heap P).objs.size,(boot_heap P).life,Array.mk [],boot_drawn,boot_toks,os⟩
theorem Jk2 (P:Params) (os:OsState):(JjQ P os).abs=⟨boot_heap P,Array.mk [],boot_drawn,boot_toks,os⟩:=by
 show (⟨absHeap (Jfo P) (boot_heap P).objs.size (boot_heap P).life,_,_,_,_⟩:Shared)=_;have e:absHeap (Jfo P) (boot_heap P).objs.size (boot_heap P).life=boot_heap P:=by kernel_rfl
 rw [e]; rfl
noncomputable def Jjm {α:Type} (p q:Program) (loose:List Str) (Xt:Shared→Bool) (Yf:Shared→α) (P:Params) (s:Shared) :=
 (staticsOk (importedModules p.main.body) (boot_heap P) s.heap && namesBound p s.heap && gensDone s && laidKept (boot_heap P) s.heap,Fast.tw4187177175401517315 q loose (importedModules p.main.body) Xt true s,Yf s)
theorem Jnf {p q:Program} {loose:List Str} {Xt:Shared→Bool} {α:Type} {Yf:Shared→α} {Ya:World→α} {N:Nat} (e:opening p=plainProg p.main.scope.names) (hN:Nat.ble 600 N=true) (f:∀ s,fenceModules? p s=some s)
  (h:∀ (w:World) (os:OsState),(Jf4 p w N (JjQ w.params os)).map (fun s=>Jjm p q loose Xt Yf w.params s.abs)=some (true,openGood q loose,Ya w))
  (hb:∀ P:Params,((boot_heap P).isNs mainGlobals && (Array.mk ([]:List GenState)).size == 0)=true):LeftO p q loose Xt Yf Ya N:=by
 intro w;have o:=boot_open e hN f w;obtain ⟨s0,e0,e1⟩:=Option.map_eq_some_iff.mp o;obtain ⟨h0,g0,d0,k0,os⟩:=s0;obtain ⟨rfl,rfl,rfl,rfl⟩:h0=boot_heap w.params∧g0=Array.mk []∧d0=boot_drawn∧k0=boot_toks:=by simpa using e1
 obtain ⟨s1,r1,l1⟩:=Option.map_eq_some_iff.mp (h w os);rw [Jjd] at r1;have r:=Jfu r1;rw [Jk2] at r;have l:(staticsOk (importedModules p.main.body) (boot_heap w.params) s1.abs.heap && namesBound p s1.abs.heap && gensDone s1.abs && laidKept (boot_heap w.params) s1.abs.heap)=true∧openSeen q loose (importedModules p.main.body) Xt true s1.abs=openGood q loose∧Yf s1.abs=Ya w:=by
  have z:=l1;unfold Jjm at z;rw [← Fast.te4187177175401517315] at z;exact ⟨congrArg Prod.fst z,congrArg (fun x=>x.2.1) z,congrArg (fun x=>x.2.2) z⟩
 have t:topFrom treeTable p w N ⟨boot_heap w.params,Array.mk [],boot_drawn,boot_toks,os⟩=some s1.abs:=by
  unfold topFrom;dsimp only;rw [hb w.params,r];show (match staticsOk (importedModules p.main.body) (boot_heap w.params) s1.abs.heap && namesBound p s1.abs.heap && gensDone s1.abs && laidKept (boot_heap w.params) s1.abs.heap with | true=>_ | false=>_)=_;rw [l.1]
 unfold openEnds;rw [e0];show (topFrom treeTable p w N _).map _=_;rw [t];exact congrArg some (Prod.ext l.2.1 l.2.2)
end L2
namespace Pf
open PySem PySem.W L2
abbrev pg:Program:=PySem.Challenge.pw_bidmover_k22_far_places
def Ys (i:Nat):Stmt:=pg.main.body.getD i (.Pass ⟨0,0,0,0⟩)
def qv:Program:={ pg with main:={ pg.main with body:=[Ys 48] } }
def lo0:List Str:=(["good_name", "check_hand", "other", "check_up_to", "check_coins", "check_bid", "ended", "coins_of", "pay", "settle", "check_each_once", "check_among", "check_places", "check_lanes", "check_goals", "_law_at", "_law_row", "_law_whole", "_law_names", "_law_pairs", "_law_goals", "_law_ground", "_law_total", "_law_left", "_law_holds", "_law_wider", "_law_alike", "BidmoverError", "BadName", "BadHand", "OutOfRange", "Twice", "NoPlace", "BadBid", "Book", "Board", "HANDS", "MOST_SIGNS", "MOST_TURNS", "MOST_COINS", "MOST_PLACES", "MOST_LANES"]:List String).map Str.ofString
abbrev JbH:Stmt:=Ys 11
abbrev Jcz:Stmt:=Ys 12
abbrev Jgh:Stmt:=Ys 13
abbrev JbO:Stmt:=Ys 17
abbrev JbR:Stmt:=Ys 18
abbrev Jdd:Stmt:=Ys 19
abbrev Jgj:Stmt:=Ys 20
abbrev JdH:Stmt:=Ys 21
abbrev Jjp:Stmt:=Ys 22
abbrev Je4:Stmt:=Ys 23
abbrev Jde:Stmt:=YN (Ys 25) 0
abbrev JaK:Stmt:=YN (Ys 25) 1
abbrev Jbq:Stmt:=YN (Ys 25) 2
abbrev Ym:Stmt:=YN (Ys 25) 3
abbrev Yl:Stmt:=YN (Ys 25) 4
abbrev Jae:Stmt:=YN (Ys 25) 5
abbrev JbT:Stmt:=YN (Ys 25) 6
abbrev JcA:Stmt:=YN (Ys 25) 7
abbrev JbU:Stmt:=YN (Ys 25) 8
abbrev JaX:Stmt:=YN (Ys 25) 9
abbrev Jaf:Stmt:=YN (Ys 25) 10
abbrev Jbp:Stmt:=YN (Ys 25) 11
abbrev JaJ:Stmt:=Ys 29
abbrev JbS:Stmt:=Ys 30
abbrev Jbo:Stmt:=Ys 31
abbrev JbP:Stmt:=Ys 32
abbrev JbQ:Stmt:=Ys 33
abbrev JcB:Stmt:=YN (Ys 34) 0
abbrev ZW:Stmt:=YN (Ys 34) 1
abbrev Ja5:Stmt:=YN (Ys 34) 2
abbrev Ja6:Stmt:=YN (Ys 34) 3
abbrev JlI:Stmt:=Ys 36
abbrev Jjo:Stmt:=Ys 37
abbrev Jge:Stmt:=Ys 38
abbrev JeA:Stmt:=Ys 39
abbrev Jgg:Stmt:=Ys 40
abbrev JeB:Stmt:=Ys 41
abbrev Jcy:Stmt:=Ys 42
abbrev Jgf:Stmt:=Ys 43
abbrev JhQ:Stmt:=Ys 44
abbrev Jgi:Stmt:=Ys 45
abbrev Jdp:Stmt:=Ys 46
abbrev Jay:Stmt:=Ys 47
abbrev JdG:Stmt:=Ys 48
def JlB (K:Frag):List (Bool):=[JV K "good_name",
 JV K "check_hand",
 JV K "other",
 JV K "check_up_to",
 JV K "check_coins",
 JV K "check_bid",
 JV K "ended",
 JV K "coins_of",
 JV K "pay",
 JV K "settle",
 YW K "Book" "__init__",
 PySem.W.isFn K (.ref (JI K "Book" "__init__")),
 YW K "Book" "needs_with",
 PySem.W.isFn K (.ref (JI K "Book" "needs_with")),
 YW K "Book" "need_at",
 PySem.W.isFn K (.ref (JI K "Book" "need_at")),
 YW K "Book" "need_where_north_leads",
 PySem.W.isFn K (.ref (JI K "Book" "need_where_north_leads")),
 YW K "Book" "need_where_south_leads",
 PySem.W.isFn K (.ref (JI K "Book" "need_where_south_leads")),
 YW K "Book" "check_share",
 PySem.W.isFn K (.ref (JI K "Book" "check_share")),
 YW K "Book" "winner",
 PySem.W.isFn K (.ref (JI K "Book" "winner")),
 YW K "Book" "least",
 PySem.W.isFn K (.ref (JI K "Book" "least")),
 YW K "Book" "bid_of",
 PySem.W.isFn K (.ref (JI K "Book" "bid_of")),
 YW K "Book" "answer_of",
 PySem.W.isFn K (.ref (JI K "Book" "answer_of")),
 YW K "Book" "answer_wins",
 PySem.W.isFn K (.ref (JI K "Book" "answer_wins")),
 YW K "Book" "step_of",
 PySem.W.isFn K (.ref (JI K "Book" "step_of")),
 JV K "check_each_once",
 JV K "check_among",
 JV K "check_places",
 JV K "check_lanes",
 JV K "check_goals",
 YW K "Board" "__init__",
 PySem.W.isFn K (.ref (JI K "Board" "__init__")),
 YW K "Board" "check_place",
 PySem.W.isFn K (.ref (JI K "Board" "check_place")),
 YW K "Board" "ways",
 PySem.W.isFn K (.ref (JI K "Board" "ways")),
 YW K "Board" "is_goal",
 PySem.W.isFn K (.ref (JI K "Board" "is_goal")),
 JV K "_law_at",
 JV K "_law_row",
 JV K "_law_whole",
 JV K "_law_names",
 JV K "_law_pairs",
 JV K "_law_goals",
 JV K "_law_ground",
 JV K "_law_total",
 JV K "_law_left",
 JV K "_law_holds",
 JV K "_law_wider",
 JV K "_law_alike",
 JV K "law",
 JV K "HANDS",
 JV K "BidmoverError",
 JV K "BadName",
 JV K "BadHand",
 JV K "OutOfRange",
 JV K "Twice",
 JV K "NoPlace",
 JV K "BadBid",
 JV K "Book",
 JV K "Board",
 PySem.W.plainGet K (Jj K "Book") Str.empty,
 PySem.W.hasDictIn K (Jj K "Book"),
 PySem.W.plainOver K (Jj K "Book"),
 PySem.W.makesIn K (Jj K "Book"),
 PySem.W.keepIn K (.ref (Jj K "Book")),
 PySem.W.plainGet K (Jj K "Board") Str.empty,
 PySem.W.hasDictIn K (Jj K "Board"),
 PySem.W.plainOver K (Jj K "Board"),
 PySem.W.makesIn K (Jj K "Board"),
 PySem.W.keepIn K (.ref (Jj K "Board")),
 PySem.W.excIn K (Jj K "BadHand") [.type "ValueError",.type "Exception",.type "BaseException",.type "object"] "ValueError.__new__",
 (PySem.W.clsIn K (Jj K "BadHand")).isSome,
 PySem.W.excIn K (Jj K "OutOfRange") [.type "ValueError",.type "Exception",.type "BaseException",.type "object"] "ValueError.__new__",
 (PySem.W.clsIn K (Jj K "OutOfRange")).isSome,
 PySem.W.excIn K (Jj K "BadBid") [.type "ValueError",.type "Exception",.type "BaseException",.type "object"] "ValueError.__new__",
 (PySem.W.clsIn K (Jj K "BadBid")).isSome,
 PySem.W.excIn K (Jj K "Twice") [.type "ValueError",.type "Exception",.type "BaseException",.type "object"] "ValueError.__new__",
 (PySem.W.clsIn K (Jj K "Twice")).isSome,
 PySem.W.excIn K (Jj K "NoPlace") [.type "ValueError",.type "Exception",.type "BaseException",.type "object"] "ValueError.__new__",
 (PySem.W.clsIn K (Jj K "NoPlace")).isSome,
 PySem.W.excIn K (Jj K "BadName") [.type "ValueError",.type "Exception",.type "BaseException",.type "object"] "ValueError.__new__",
 (PySem.W.clsIn K (Jj K "BadName")).isSome]
def isB:List (Bool):=List.replicate 92 true
def JlA (K:Frag):List (Option (FuncData×Bool)):=[Yk K (Jj K "good_name") "good_name",
 Yk K (Jj K "check_hand") "check_hand",
 Yk K (Jj K "other") "other",
 Yk K (Jj K "check_up_to") "check_up_to",
 Yk K (Jj K "check_coins") "check_coins",
 Yk K (Jj K "check_bid") "check_bid",
 Yk K (Jj K "ended") "ended",
 Yk K (Jj K "coins_of") "coins_of",
 Yk K (Jj K "pay") "pay",
 Yk K (Jj K "settle") "settle",
 Yk K (JI K "Book" "__init__") "Book.__init__",
 Yk K (JI K "Book" "needs_with") "Book.needs_with",
 Yk K (JI K "Book" "need_at") "Book.need_at",
 Yk K (JI K "Book" "need_where_north_leads") "Book.need_where_north_leads",
 Yk K (JI K "Book" "need_where_south_leads") "Book.need_where_south_leads",
 Yk K (JI K "Book" "check_share") "Book.check_share",
 Yk K (JI K "Book" "winner") "Book.winner",
 Yk K (JI K "Book" "least") "Book.least",
 Yk K (JI K "Book" "bid_of") "Book.bid_of",
 Yk K (JI K "Book" "answer_of") "Book.answer_of",
 Yk K (JI K "Book" "answer_wins") "Book.answer_wins",
 Yk K (JI K "Book" "step_of") "Book.step_of",
 Yk K (Jj K "check_each_once") "check_each_once",
 Yk K (Jj K "check_among") "check_among",
 Yk K (Jj K "check_places") "check_places",
 Yk K (Jj K "check_lanes") "check_lanes",
 Yk K (Jj K "check_goals") "check_goals",
 Yk K (JI K "Board" "__init__") "Board.__init__",
 Yk K (JI K "Board" "check_place") "Board.check_place",
 Yk K (JI K "Board" "ways") "Board.ways",
 Yk K (JI K "Board" "is_goal") "Board.is_goal",
 Yk K (Jj K "_law_at") "_law_at",
 Yk K (Jj K "_law_row") "_law_row",
 Yk K (Jj K "_law_whole") "_law_whole",
 Yk K (Jj K "_law_names") "_law_names",
 Yk K (Jj K "_law_pairs") "_law_pairs",
 Yk K (Jj K "_law_goals") "_law_goals",
 Yk K (Jj K "_law_ground") "_law_ground",
 Yk K (Jj K "_law_total") "_law_total",
 Yk K (Jj K "_law_left") "_law_left",
 Yk K (Jj K "_law_holds") "_law_holds",
 Yk K (Jj K "_law_wider") "_law_wider",
 Yk K (Jj K "_law_alike") "_law_alike",
 Yk K (Jj K "law") "law"]
def isF:List (Option (FuncData×Bool)):=[Yn "good_name" "good_name" JbH,
 Yn "check_hand" "check_hand" Jcz,
 Yn "other" "other" Jgh,
 Yn "check_up_to" "check_up_to" JbO,
 Yn "check_coins" "check_coins" JbR,
 Yn "check_bid" "check_bid" Jdd,
 Yn "ended" "ended" Jgj,
 Yn "coins_of" "coins_of" JdH,
 Yn "pay" "pay" Jjp,
 Yn "settle" "settle" Je4,
 Yn "__init__" "Book.__init__" Jde,
 Yn "needs_with" "Book.needs_with" JaK,
 Yn "need_at" "Book.need_at" Jbq,
 Yn "need_where_north_leads" "Book.need_where_north_leads" Ym,
 Yn "need_where_south_leads" "Book.need_where_south_leads" Yl,
 Yn "check_share" "Book.check_share" Jae,
 Yn "winner" "Book.winner" JbT,
 Yn "least" "Book.least" JcA,
 Yn "bid_of" "Book.bid_of" JbU,
 Yn "answer_of" "Book.answer_of" JaX,
 Yn "answer_wins" "Book.answer_wins" Jaf,
 Yn "step_of" "Book.step_of" Jbp,
 Yn "check_each_once" "check_each_once" JaJ,
 Yn "check_among" "check_among" JbS,
 Yn "check_places" "check_places" Jbo,
 Yn "check_lanes" "check_lanes" JbP,
 Yn "check_goals" "check_goals" JbQ,
 Yn "__init__" "Board.__init__" JcB,
 Yn "check_place" "Board.check_place" ZW,
 Yn "ways" "Board.ways" Ja5,
 Yn "is_goal" "Board.is_goal" Ja6,
 Yn "_law_at" "_law_at" JlI,
 Yn "_law_row" "_law_row" Jjo,
 Yn "_law_whole" "_law_whole" Jge,
 Yn "_law_names" "_law_names" JeA,
 Yn "_law_pairs" "_law_pairs" Jgg,
 Yn "_law_goals" "_law_goals" JeB,
 Yn "_law_ground" "_law_ground" Jcy,
 Yn "_law_total" "_law_total" Jgf,
 Yn "_law_left" "_law_left" JhQ,
 Yn "_law_holds" "_law_holds" Jgi,
 Yn "_law_wider" "_law_wider" Jdp,
 Yn "_law_alike" "_law_alike" Jay,
 Yn "law" "law" JdG]
def Jly (K:Frag):List (Option (Option Value)):=[PySem.W.nsIn K mainGlobals "all",
 PySem.W.nsIn K mainGlobals "len",
 PySem.W.nsIn K mainGlobals "range",
 PySem.W.nsIn K mainGlobals "min",
 PySem.W.nsIn K mainGlobals "max",
 PySem.W.nsIn K mainGlobals "set",
 PySem.W.nsIn K mainGlobals "tuple",
 PySem.W.nsIn K mainGlobals "sorted",
 PySem.W.nsIn K mainGlobals "isinstance",
 PySem.W.nsIn K mainGlobals "int",
 PySem.W.nsIn K mainGlobals "bool",
 PySem.W.nsIn K mainGlobals "str",
 PySem.W.nsIn K mainGlobals "list",
 PySem.W.findIn K (.ref (Jj K "Book")) "__setattr__",
 PySem.W.findIn K (.ref (Jj K "Book")) "board",
 PySem.W.findIn K (.ref (Jj K "Book")) "coins",
 PySem.W.findIn K (.ref (Jj K "Book")) "turns",
 PySem.W.findIn K (.ref (Jj K "Book")) "needs",
 PySem.W.findIn K (.ref (Jj K "Board")) "__setattr__",
 PySem.W.findIn K (.ref (Jj K "Board")) "places",
 PySem.W.findIn K (.ref (Jj K "Board")) "lanes",
 PySem.W.findIn K (.ref (Jj K "Board")) "goals",
 PySem.W.specialIn K (.builtin "object.__class__") "__get__",
 PySem.W.findIn K (.ref (Jj K "BadHand")) "__getattribute__",
 PySem.W.findIn K (.ref (Jj K "BadHand")) "__getattr__",
 PySem.W.findIn K (.ref (Jj K "BadHand")) "__class__",
 PySem.W.findIn K (.ref (Jj K "OutOfRange")) "__getattribute__",
 PySem.W.findIn K (.ref (Jj K "OutOfRange")) "__getattr__",
 PySem.W.findIn K (.ref (Jj K "OutOfRange")) "__class__",
 PySem.W.findIn K (.ref (Jj K "BadBid")) "__getattribute__",
 PySem.W.findIn K (.ref (Jj K "BadBid")) "__getattr__",
 PySem.W.findIn K (.ref (Jj K "BadBid")) "__class__",
 PySem.W.findIn K (.ref (Jj K "Twice")) "__getattribute__",
 PySem.W.findIn K (.ref (Jj K "Twice")) "__getattr__",
 PySem.W.findIn K (.ref (Jj K "Twice")) "__class__",
 PySem.W.findIn K (.ref (Jj K "NoPlace")) "__getattribute__",
 PySem.W.findIn K (.ref (Jj K "NoPlace")) "__getattr__",
 PySem.W.findIn K (.ref (Jj K "NoPlace")) "__class__",
 PySem.W.findIn K (.ref (Jj K "BadName")) "__getattribute__",
 PySem.W.findIn K (.ref (Jj K "BadName")) "__getattr__",
 PySem.W.findIn K (.ref (Jj K "BadName")) "__class__"]
def isN:List (Option (Option Value)):=[some none,
 some none,
 some none,
 some none,
 some none,
 some none,
 some none,
 some none,
 some none,
 some none,
 some none,
 some none,
 some none,
 some (some (.builtin "object.__setattr__")),
 some none,
 some none,
 some none,
 some none,
 some (some (.builtin "object.__setattr__")),
 some none,
 some none,
 some none,
 some (some (.builtin "getset_descriptor.__get__")),
 some (some (.builtin "BaseException.__getattribute__")),
 some none,
 some (some (.builtin "object.__class__")),
 some (some (.builtin "BaseException.__getattribute__")),
 some none,
 some (some (.builtin "object.__class__")),
 some (some (.builtin "BaseException.__getattribute__")),
 some none,
 some (some (.builtin "object.__class__")),
 some (some (.builtin "BaseException.__getattribute__")),
 some none,
 some (some (.builtin "object.__class__")),
 some (some (.builtin "BaseException.__getattribute__")),
 some none,
 some (some (.builtin "object.__class__")),
 some (some (.builtin "BaseException.__getattribute__")),
 some none,
 some (some (.builtin "object.__class__"))]
def Jlz (K:Frag):List (Option Bool):=[PySem.W.takesIn K (.builtin "object.__class__"),
 PySem.W.mroIn K (Jj K "BadHand") (.type "object"),
 PySem.W.mroIn K (Jj K "BadHand") (.type "BaseException"),
 PySem.W.mroIn K (Jj K "OutOfRange") (.type "object"),
 PySem.W.mroIn K (Jj K "OutOfRange") (.type "BaseException"),
 PySem.W.mroIn K (Jj K "BadBid") (.type "object"),
 PySem.W.mroIn K (Jj K "BadBid") (.type "BaseException"),
 PySem.W.mroIn K (Jj K "Twice") (.type "object"),
 PySem.W.mroIn K (Jj K "Twice") (.type "BaseException"),
 PySem.W.mroIn K (Jj K "NoPlace") (.type "object"),
 PySem.W.mroIn K (Jj K "NoPlace") (.type "BaseException"),
 PySem.W.mroIn K (Jj K "BadName") (.type "object"),
 PySem.W.mroIn K (Jj K "BadName") (.type "BaseException")]
def isK:List (Option Bool):=[some true,
 some true,
 some true,
 some true,
 some true,
 some true,
 some true,
 some true,
 some true,
 some true,
 some true,
 some true,
 some true]
def Jlw (K:Frag):List (Option (Sum Int Str)):=[obV K "MOST_SIGNS",
 obV K "MOST_TURNS",
 obV K "MOST_COINS",
 obV K "MOST_PLACES",
 obV K "MOST_LANES"]
def isV:List (Option (Sum Int Str)):=[some (.inl 6),
 some (.inl 30),
 some (.inl 20),
 some (.inl 12),
 some (.inl 40)]
def Jlx (K:Frag):List (Option (Bool×List (Option (Sum Int Str)))):=[obT K "HANDS"]
def isT:List (Option (Bool×List (Option (Sum Int Str)))):=[some (true,([.inr "north",.inr "south"]:List (Sum Int Str)).map some)]
def see (s:Shared):=(fun K=>(JlB K,JlA K,Jly K,Jlz K,Jlw K,Jlx K)) (JkL s.heap)
def Jhz:=(isB,isF,isN,isK,isV,isT)
def xt (s:Shared):Bool:=xlAt qv [] s && recOk [] s
set_option maxHeartbeats 0 in
theorem JnG (w:World) (os:OsState):(Jf4 pg w 6814 (JjQ w.params os)).map (fun s=>Jjm pg qv lo0 xt see w.params s.abs)=some (true,openGood qv lo0,Jhz):=by
 kernel_rfl
theorem Jnl (P:Params):((boot_heap P).isNs mainGlobals && (Array.mk ([]:List GenState)).size == 0)=true:=by kernel_rfl
theorem JlH:PySem.W.OpenLaw.wellSaid PySem.Challenge.rw_bidmover_k22_far_places=true:=by kernel_rfl
theorem left:LeftO pg qv lo0 xt see (fun _=>Jhz) 6814:=Jnf (by kernel_rfl) (by decide) (fun s=>by kernel_rfl) JnG Jnl
end Pf
namespace L2
open PySem PySem.Spec PyProof.Rows
abbrev JP:=Sum Int Str
def JeH:JP→Value→Bool
 | .inl k,v=>Value.isInt k v
 | .inr x,v=>Value.isStrOf x v
def Jpl (w:World):JP→Int
 | .inl k=>hashInt k
 | .inr x=>hashStr w x
theorem YZ:∀ {k:JP} {v:Value},JeH k v=true→(∃ i t,k=Sum.inl i∧v=Value.int i t)∨(∃ x t,k=Sum.inr x∧v=Value.str x t)
 | .inl i,v,h=>by
  obtain ⟨t,e⟩:=Value.isInt_shape (k:=i) (v:=v) h;exact .inl ⟨i,t,rfl,e⟩
 | .inr x,v,h=>by
  obtain ⟨t,e⟩:=Value.isStrOf_shape (x:=x) (v:=v) h;exact .inr ⟨x,t,rfl,e⟩
theorem JkC (i:Int) (t:Tok):JeH (.inl i) (.int i t)=true:=by simp [JeH,Value.isInt]
theorem JkB (x:Str) (t:Tok):JeH (.inr x) (.str x t)=true:=by simp [JeH,Value.isStrOf]
theorem Jn6 (a b:Int):decide ((Sum.inl a:JP)=Sum.inl b)=(a == b):=by
 by_cases e:a=b
 ·subst e; simp
 ·have h:¬ (Sum.inl a:JP)=Sum.inl b:=fun q=>e (Sum.inl.inj q)
  rw [decide_eq_false h];exact (beq_eq_false_iff_ne.mpr e).symm
theorem JkA (a b:Str):decide ((Sum.inr a:JP)=Sum.inr b)=decide (a=b):=by
 by_cases e:a=b
 ·subst e; simp
 ·have h:¬ (Sum.inr a:JP)=Sum.inr b:=fun q=>e (Sum.inr.inj q)
  rw [decide_eq_false h,decide_eq_false e]
theorem Jn5 (a:Int) (b:Str):decide ((Sum.inl a:JP)=Sum.inr b)=false:=decide_eq_false (fun q=>nomatch q)
theorem Jn4 (a:Str) (b:Int):decide ((Sum.inr a:JP)=Sum.inl b)=false:=decide_eq_false (fun q=>nomatch q)
def J7 (prog:Program) (w:World):PySem.KeyKind prog w JP where
 is:=JeH
 hash:=Jpl w
 inj:=fun v a b ha hb=>by
  rcases YZ ha with ⟨i,t,rfl,rfl⟩ | ⟨x,t,rfl,rfl⟩
  ·rcases YZ hb with ⟨j,u,rfl,e⟩ | ⟨y,u,rfl,e⟩
   ·injection e with e1 _; rw [e1]
   ·exact nomatch e
  ·rcases YZ hb with ⟨j,u,rfl,e⟩ | ⟨y,u,rfl,e⟩
   ·exact nomatch e
   ·injection e with e1 _; rw [e1]
 byValue:=fun k v h=>by
  rcases YZ h with ⟨i,t,rfl,rfl⟩ | ⟨x,t,rfl,rfl⟩ <;> rfl
 pyHash:=fun hv h=>by
  rcases YZ hv with ⟨i,t,rfl,rfl⟩ | ⟨x,t,rfl,rfl⟩
  ·exact wpAny_pyHash_int h
  ·exact wpAny_pyHash_str h
 eqBool:=fun hu hv h=>by
  rcases YZ hu with ⟨i,t,rfl,rfl⟩ | ⟨x,t,rfl,rfl⟩
  ·rcases YZ hv with ⟨j,u,rfl,rfl⟩ | ⟨y,u,rfl,rfl⟩
   ·rw [Jn6] at h; exact wpAny_eqBool_int h
   ·rw [Jn5] at h; exact SeqAt.EqAt.int_str i t y u _ _ _ _ h
  ·rcases YZ hv with ⟨j,u,rfl,rfl⟩ | ⟨y,u,rfl,rfl⟩
   ·rw [Jn4] at h; exact SeqAt.EqAt.str_int x t j u _ _ _ _ h
   ·rw [JkA] at h; exact wpAny_eqBool_str h
 «strs»:=fun k x t v h=>by
  rcases YZ h with ⟨i,u,rfl,e⟩ | ⟨y,u,rfl,e⟩
  ·exact nomatch e
  ·injection e with e1 _;subst e1;cases v <;> rfl
theorem JiE (prog:Program) (w:World) (i:Int) (t:Tok):(J7 prog w).is (.inl i) (.int i t)=true:=JkC i t
theorem JaQ (prog:Program) (w:World) (x:Str) (t:Tok):(J7 prog w).is (.inr x) (.str x t)=true:=JkB x t
end L2
namespace L2
open PySem PySem.Spec PyProof.Rows
inductive V where
 | non | bl (b:Bool) | int (i:Int) | str (x:Str) | byt (b:Array UInt8) | flt (b:UInt64) | ref (a:Addr) | ty (n:String)
 deriving DecidableEq
def JF:V→Value→Prop
 | .non,u=>u=Value.none
 | .bl b,u=>u=Value.bool b
 | .int i,u=>∃ t,u=Value.int i t
 | .str x,u=>∃ t,u=Value.str x t
 | .byt b,u=>∃ t,u=Value.bytes b t
 | .flt b,u=>∃ t,u=Value.float b t
 | .ref a,u=>u=Value.ref a
 | .ty n,u=>u=Value.type n
abbrev Jt:List V→List Value→Prop:=Paired JF
theorem Jt.length {xs:List V} {us:List Value} (r:Jt xs us):xs.length=us.length:=Paired.length r
theorem Jt.get:∀ {xs:List V} {us:List Value} {i:Nat} {x:V},Jt xs us→xs[i]?=some x→∃ u,us[i]?=some u∧JF x u
 | _,_,_,_,.nil,e=>by simp at e
 | _,_,0,_,.cons r _,e=>by simp at e; subst e; exact ⟨_,rfl,r⟩
 | _,_,i + 1,x,.cons _ t,e=>by
  obtain ⟨u,h1,h2⟩:=Jt.get (i:=i) (x:=x) t (by simpa using e);exact ⟨u,by simpa using h1,h2⟩
theorem Jt.set {x:V} {u:Value} (r:JF x u):∀ {xs:List V} {us:List Value} (i:Nat),Jt xs us→Jt (xs.set i x) (us.set i u)
 | _,_,_,.nil=>.nil
 | _,_,0,.cons _ t=>.cons r t
 | _,_,i + 1,.cons q t=>.cons q (Jt.set r i t)
theorem Jt.append:∀ {xs ys:List V} {us ws:List Value},Jt xs us→Jt ys ws→Jt (xs ++ ys) (us ++ ws)
 | _,_,_,_,.nil,s=>s
 | _,_,_,_,.cons r t,s=>.cons r (Jt.append t s)
theorem Jt.take:∀ {xs:List V} {us:List Value} (n:Nat),Jt xs us→Jt (xs.take n) (us.take n)
 | _,_,0,_=>.nil
 | _,_,_ + 1,.nil=>.nil
 | _,_,n + 1,.cons r t=>.cons r (Jt.take n t)
theorem Jt.drop:∀ {xs:List V} {us:List Value} (n:Nat),Jt xs us→Jt (xs.drop n) (us.drop n)
 | _,_,0,r=>r
 | _,_,_ + 1,.nil=>.nil
 | _,_,n + 1,.cons _ t=>Jt.drop n t
theorem Jt.none_of:∀ {xs:List V} {us:List Value} {i:Nat},Jt xs us→xs[i]?=none→us[i]?=none:=fun {xs us i} r e=>by
 have h1:=r.length;have h2:xs.length≤i:=List.getElem?_eq_none_iff.mp e;exact List.getElem?_eq_none_iff.mpr (by omega)
def Z1:Option V→Option Value→Prop
 | some v,some u=>JF v u
 | none,none=>True
 | _,_=>False
def KV {κ:Type}:List (κ×V)→List (κ×Value)→Prop:=Paired fun (p:κ×V) (q:κ×Value)=>p.1=q.1∧JF p.2 q.2
def kV:JP→V
 | .inl i=>.int i
 | .inr x=>.str x
inductive HO where
 | lst (xs:List V)
 | tup (xs:List V)
 | dK (kvs:List (JP×V)) | dT (kvs:List (List JP×V))
 | set (S:Int→Bool) (n:Nat)
 | ins (C dx:Addr) (fs:List (Str×V))
 | own (x:Addr)
 | xd (fs:List (Str×V))
 | met (f x:Addr)
 | rng (lo hi:Int)
 | frz (o:Obj) (u:HO)
 | tbl (ps:Array Value)
 | ext (φ:Heap→Prop)
abbrev Hp:=Addr→Option HO
def upd (H:Hp) (a:Addr) (o:HO):Hp:=fun b=>if b=a then some o else H b
theorem Jf {H:Hp} {a:Addr} {o:HO}:upd H a o a=some o:=by unfold upd; rw [if_pos rfl]
theorem Jl {H:Hp} {a b:Addr} {o:HO} (h:b≠a):upd H a o b=H b:=by unfold upd; rw [if_neg h]
theorem ZC {H:Hp} {a b:Addr} {o u:HO} (h:H a=some o) (h':H b=some u) (d:o≠u):a≠b:=by
 intro e; subst e; rw [h] at h'; exact d (Option.some.inj h')
theorem Jn {H:Hp} {a b:Addr} {o:HO} (h:H a=some o) (h':H b=none):a≠b:=by
 intro e; subst e; rw [h] at h'; cases h'
section
variable (P:Program) (w:World)
def J9 (H:Hp) (h:Heap) (a:Addr):HO→Prop
 | .lst xs=>xs.length≤sizeLine∧∃ (its:List Value) (n:Nat),Jt xs its∧h.get? a=some { cls:=.type "list",data:=.seq its.toArray n }
 | .tup xs=>xs.length≤sizeLine∧∃ its:List Value,Jt xs its∧IsTup h a its.toArray
 | .dK kvs=>kvs.length≤sizeLine∧(a == sysModules)=false∧∃ vs,KV kvs vs∧h.DictOf (J7 P w) a vs
 | .dT kvs=>kvs.length≤sizeLine∧(a == sysModules)=false∧∃ xs:List (List JP×Addr×Value),
   Paired (fun (p:List JP×V) (q:List JP×Addr×Value)=>p.1=q.1∧H q.2.1=some (.tup (p.1.map kV))∧JF p.2 q.2.2) kvs xs ∧
   ∃ o es ep,h.get? a=some o∧o.ExactDict∧o.data=.dict es ep∧es.toList=xs.map (entryOfKey (tupleKind (J7 P w)))∧(xs.map (·.1)).Nodup
 | .set S n=>h.SetOf (intKind P w) a S n
 | .ins C dx fs=>H dx=some (.own a)∧fs.length≤1000∧dx≠a∧h.get? a=some (PySem.W.instObj C dx) ∧
   ∃ mA,h.Ns1 dx mA∧(∀ f,Z1 (fs.lookup f) (mA f))∧PySem.Within mA (fs.map (·.1))
 | .own _=>∃ o,h.get? a=some o
 | .xd fs=>∃ mA,h.Ns1 a mA∧∀ f,Z1 (fs.lookup f) (mA f)
 | .rng lo hi=>∃ t u v,h.get? a=some { cls:=.type "range",data:=.fields #[.int lo t,.int hi u,.int 1 v] }
 | .frz o u=>h.get? a=some o∧J9 H h a u
 | .tbl ps=>h.get? a=some { cls:=.none,data:=.fields ps }
 | .met f x=>h.get? a=some (PySem.W.methodObj (.ref f) (.ref x))
 | .ext φ=>φ h∧(∃ o,h.get? a=some o)∧∀ h1 h2:Heap,φ h1→(∀ o,h1.get? a=some o→h2.get? a=some o)→φ h2
def Zj (H:Hp) (h:Heap):Prop:=∀ a o,H a=some o→J9 P w H h a o
end
section
variable {P:Program} {w:World} {H H':Hp} {h h':Heap} {a:Addr} {o:HO}
theorem J9.lt (x:J9 P w H h a o):a < h.objs.size:=by
 cases o with
 | lst xs=>obtain ⟨_,_,_,_,e⟩:=x; exact Heap.lt_size e
 | tup xs=>obtain ⟨_,_,_,p⟩:=x; exact p.lt
 | dK kvs=>obtain ⟨_,_,_,_,o,_,_,e,_⟩:=x; exact Heap.lt_size e
 | dT kvs=>obtain ⟨_,_,_,_,o,_,_,e,_⟩:=x; exact Heap.lt_size e
 | set S n=>obtain ⟨o,_,_,_,e,_⟩:=x; exact Heap.lt_size e
 | ins C dx fs=>obtain ⟨_,_,_,e,_⟩:=x; exact Heap.lt_size e
 | own y=>obtain ⟨_,e⟩:=x; exact Heap.lt_size e
 | xd fs=>obtain ⟨_,⟨_,_,_,e,_⟩,_⟩:=x; exact Heap.lt_size e
 | rng lo hi=>obtain ⟨_,_,_,e⟩:=x; exact Heap.lt_size e
 | frz ob u=>obtain ⟨e,_⟩:=x; exact Heap.lt_size e
 | tbl ps=>exact Heap.lt_size (show h.get? a=some _ from x)
 | met f y=>exact Heap.lt_size (show h.get? a=some _ from x)
 | ext φ=>obtain ⟨_,⟨_,e⟩,_⟩:=x; exact Heap.lt_size e
theorem Paired.mapP {α β:Type} {F G:α→β→Prop}:∀ {l₁:List α} {l₂:List β},Paired F l₁ l₂→(∀ a b,F a b→G a b)→Paired G l₁ l₂
 | _,_,.nil,_=>.nil
 | _,_,.cons r t,f=>.cons (f _ _ r) (Paired.mapP t f)
theorem J9.stay (x:J9 P w H h a o) (k:∀ b u,(b=a∨H b=some (.own a))→h.get? b=some u→h'.get? b=some u)
  (ho:∀ b,H b=some (.own a)→H' b=some (.own a)) (ht:∀ b xs,H b=some (.tup xs)→H' b=some (.tup xs)):J9 P w H' h' a o:=by
 induction o with
 | lst xs=>obtain ⟨z,its,n,r,e⟩:=x; exact ⟨z,its,n,r,k _ _ (.inl rfl) e⟩
 | tup xs=>obtain ⟨z,its,r,ob,e,c⟩:=x; exact ⟨z,its,r,ob,k _ _ (.inl rfl) e,c⟩
 | dK kvs=>obtain ⟨z,y,vs,r,ob,es,ep,e,c⟩:=x; exact ⟨z,y,vs,r,ob,es,ep,k _ _ (.inl rfl) e,c⟩
 | dT kvs =>
  obtain ⟨z,y,xs,r,ob,es,ep,e,c⟩:=x;exact ⟨z,y,xs,Paired.mapP r fun p q z=>⟨z.1,ht _ _ z.2.1,z.2.2⟩,ob,es,ep,k _ _ (.inl rfl) e,c⟩
 | set S n=>obtain ⟨ob,es,ep,t,e,c⟩:=x; exact ⟨ob,es,ep,t,k _ _ (.inl rfl) e,c⟩
 | ins C dx fs =>
  obtain ⟨d,z,ne,e,mA,⟨od,es,ep,e2,c⟩,r⟩:=x;exact ⟨ho _ d,z,ne,k _ _ (.inl rfl) e,mA,⟨od,es,ep,k _ _ (.inr d) e2,c⟩,r⟩
 | own y=>obtain ⟨ob,e⟩:=x; exact ⟨ob,k _ _ (.inl rfl) e⟩
 | xd fs=>obtain ⟨mA,⟨od,es,ep,e,c⟩,r⟩:=x; exact ⟨mA,⟨od,es,ep,k _ _ (.inl rfl) e,c⟩,r⟩
 | rng lo hi=>obtain ⟨t,u,v,e⟩:=x; exact ⟨t,u,v,k _ _ (.inl rfl) e⟩
 | frz ob u ih=>obtain ⟨e,q⟩:=x; exact ⟨k _ _ (.inl rfl) e,ih q⟩
 | tbl ps =>
  have e:h.get? a=some { cls:=.none,data:=.fields ps }:=x;show h'.get? a=some { cls:=.none,data:=.fields ps };exact k a _ (.inl rfl) e
 | met f y =>
  have e:h.get? a=some (PySem.W.methodObj (.ref f) (.ref y)):=x;show h'.get? a=some (PySem.W.methodObj (.ref f) (.ref y));exact k a _ (.inl rfl) e
 | ext φ=>obtain ⟨p,⟨o,e⟩,st⟩:=x; exact ⟨st _ _ p fun o q=>k _ _ (.inl rfl) q,⟨o,k _ _ (.inl rfl) e⟩,st⟩
theorem Zj.lt (x:Zj P w H h) (e:H a=some o):a < h.objs.size:=(x a o e).lt
theorem Zj.fresh (x:Zj P w H h) (e:h.objs.size≤a):H a=none:=by
 cases q:H a with
 | none=>rfl
 | some u=>exact absurd (Nat.lt_of_lt_of_le (x.lt q) e) (Nat.lt_irrefl _)
theorem Zj.kept (x:Zj P w H h) (k:∀ b u,h.get? b=some u→h'.get? b=some u):Zj P w H h':=fun a o e =>
 (x a o e).stay (fun b u _ q=>k b u q) (fun _ q=>q) fun _ _ q=>q
theorem Zj.laid (x:Zj P w H h) (k:∀ b u,h.get? b=some u→h'.get? b=some u) (hp:h.objs.size≤a) (new:J9 P w (upd H a o) h' a o):Zj P w (upd H a o) h':=fun b u e=>by
 have hn:=x.fresh hp;by_cases hb:b=a
 ·subst hb; rw [Jf] at e; cases e; exact new
 ·rw [Jl hb] at e;exact (x b u e).stay (fun c v _ q=>k c v q) (fun c q=>by rw [Jl (Jn q hn)]; exact q) fun c xs q=>by rw [Jl (Jn q hn)]; exact q
end
def Rd (H:Hp) (a:Addr) (u:HO):Prop:=H a=some u∨∃ o,H a=some (.frz o u)
theorem Rd.of {H:Hp} {a:Addr} {u:HO} (h:H a=some u):Rd H a u:=.inl h
theorem Rd.ok {P:Program} {w:World} {H:Hp} {h:Heap} {a:Addr} {u:HO} (r:Rd H a u) (x:Zj P w H h):J9 P w H h a u:=by
 rcases r with r | ⟨o,r⟩
 ·exact x a u r
 ·obtain ⟨_,q⟩:=x a _ r;exact q
def Mut:Option HO→Prop
 | some (.lst _)=>True
 | some (.dK _)=>True
 | some (.dT _)=>True
 | some (.set _ _)=>True
 | some (.ins _ _ _)=>True
 | some (.ext _)=>True
 | _=>False
section
variable {P:Program} {w:World} {H:Hp} {h h':Heap} {x e:Addr} {o':HO}
theorem Zj.write (ok:Zj P w H h) (mu:Mut (H x)) (he:e=x∨H e=some (.own x)) (k:∀ b u,b≠e→h.get? b=some u→h'.get? b=some u) (heo:∃ u,h'.get? e=some u)
  (new:J9 P w (upd H x o') h' x o'):Zj P w (upd H x o') h':=fun b u q=>by
 have nown:∀ c y,H c=some (.own y)→c≠x:=fun c y r z=>by subst z; rw [r] at mu; exact mu
 have ntup:∀ c xs,H c=some (.tup xs)→c≠x:=fun c xs r z=>by subst z; rw [r] at mu; exact mu
 by_cases hb:b=x
 ·subst hb; rw [Jf] at q; cases q; exact new
 ·rw [Jl hb] at q;by_cases hbe:b=e
  ·have q':H b=some (.own x):=by
    rcases he with z | z
    ·exact absurd (hbe.trans z) hb
    ·rw [hbe]; exact z
   rw [q] at q'; cases q';obtain ⟨v,hv⟩:=heo;exact ⟨v,by rw [hbe]; exact hv⟩
  ·refine (ok b u q).stay (fun c v hc r=>k c v ?_ r) (fun c r=>by rw [Jl (nown c b r)]; exact r) fun c xs r=>by rw [Jl (ntup c xs r)]; exact r
   rcases hc with rfl | hc
   ·exact hbe
   ·rintro rfl;rcases he with z | z
    ·exact nown c b hc z
    ·rw [hc] at z; cases z; exact hb rfl
end
structure Un (fs ex:List Addr) (H H':Hp) (h h':Heap):Prop where
 keep:∀ b o,h.get? b=some o→H b=none→b∉fs→b∉ex→h'.get? b=some o
 slot:∀ b o,h.get? b=some o→H b=none→b∈fs→b∉ex→∃ sl,h'.get? b=some { o with slots:=sl }
 free:∀ b o,h.get? b=some o→H b=none→b∉ex→H' b=none
 there:∀ b o,h.get? b=some o→b∉ex→∃ o',h'.get? b=some o'
 tups:∀ b xs,H b=some (.tup xs)→H' b=some (.tup xs)
 frzs:∀ b o u,H b=some (.frz o u)→H' b=some (.frz o u)
 tbls:∀ b ps,H b=some (.tbl ps)→∃ more,H' b=some (.tbl (ps ++ more))
section
variable {fs fs' ex ex':List Addr} {H H1 H2:Hp} {h h1 h2 h':Heap} {a x e:Addr} {o:HO}
theorem Un.any (u:Un fs ex H H1 h h1) {b:Addr} {ob:Obj} (q:h.get? b=some ob) (n:H b=none) (hx:b∉ex):∃ sl,h1.get? b=some { ob with slots:=sl }:=by
 by_cases hb:b∈fs
 ·exact u.slot b ob q n hb hx
 ·exact ⟨ob.slots,u.keep b ob q n hb hx⟩
theorem Un.trans (a:Un fs ex H H1 h h1) (b:Un fs ex H1 H2 h1 h2):Un fs ex H H2 h h2 where
 keep:=fun c ob q n hc hx=>b.keep c ob (a.keep c ob q n hc hx) (a.free c ob q n hx) hc hx
 slot:=fun c ob q n hc hx=>by
  obtain ⟨sl,e1⟩:=a.slot c ob q n hc hx;obtain ⟨sl',e2⟩:=b.slot c _ e1 (a.free c ob q n hx) hc hx;exact ⟨sl',e2⟩
 free:=fun c ob q n hx=>by
  obtain ⟨o',e1⟩:=a.there c ob q hx;exact b.free c o' e1 (a.free c ob q n hx) hx
 there:=fun c ob q hx=>by
  obtain ⟨o',e1⟩:=a.there c ob q hx;exact b.there c o' e1 hx
 tups:=fun c xs q=>b.tups c xs (a.tups c xs q)
 frzs:=fun c ob xs q=>b.frzs c ob xs (a.frzs c ob xs q)
 tbls:=fun c ps q=>by
  obtain ⟨m1,e1⟩:=a.tbls c ps q;obtain ⟨m2,e2⟩:=b.tbls c _ e1;exact ⟨m1 ++ m2,by rw [e2,Array.append_assoc]⟩
theorem Un.kept (k:∀ b u,h.get? b=some u→h'.get? b=some u):Un fs ex H H h h' :=
 ⟨fun b ob q _ _ _=>k b ob q,fun b ob q _ _ _=>⟨ob.slots,k b ob q⟩,fun _ _ _ n _=>n,fun b ob q _=>⟨ob,k b ob q⟩,fun _ _ q=>q,fun _ _ _ q=>q,fun _ ps q=>⟨#[],by rw [q]; simp⟩⟩
theorem Un.refl:Un fs ex H H h h:=Un.kept fun _ _ q=>q
theorem Un.laid (k:∀ b u,h.get? b=some u→h'.get? b=some u) (hp:h.objs.size≤a) (hn:H a=none):Un fs ex H (upd H a o) h h' where
 keep:=fun b u q _ _ _=>k b u q
 slot:=fun b u q _ _ _=>⟨u.slots,k b u q⟩
 free:=fun b u q n _=>by rw [Jl (Nat.ne_of_lt (Nat.lt_of_lt_of_le (Heap.lt_size q) hp))]; exact n
 there:=fun b u q _=>⟨u,k b u q⟩
 tups:=fun b xs q=>by rw [Jl (Jn q hn)]; exact q
 frzs:=fun b u xs q=>by rw [Jl (Jn q hn)]; exact q
 tbls:=fun b ps q=>⟨#[],by rw [Jl (Jn q hn),q]; simp⟩
theorem Un.write (mu:Mut (H x)) (he:e=x∨H e=some (.own x)) (k:∀ b u,b≠e→h.get? b=some u→h'.get? b=some u) (heo:∃ u,h'.get? e=some u):Un fs ex H (upd H x o) h h':=by
 have hx:∀ b,H b=none→b≠x:=fun b n z=>by subst z; rw [n] at mu; exact mu
 have hb:∀ b,H b=none→b≠e:=fun b n z=>by
  subst z;rcases he with r | r
  ·exact hx b n r
  ·rw [n] at r; cases r
 have hm:∀ b u,H b=some u→¬ Mut (some u)→b≠x:=fun b u q nm z=>by subst z; rw [q] at mu; exact nm mu
 refine ⟨fun b u q n _ _=>k b u (hb b n) q,fun b u q n _ _=>⟨u.slots,k b u (hb b n) q⟩,fun b u q n _=>by rw [Jl (hx b n)]; exact n,fun b u q _=>?_,
  fun b xs q=>by rw [Jl (hm b _ q fun z=>z)]; exact q,fun b u xs q=>by rw [Jl (hm b _ q fun z=>z)]; exact q,fun b ps q=>⟨#[],by rw [Jl (hm b _ q fun z=>z),q]; simp⟩⟩
 by_cases hbe:b=e
 ·subst hbe; exact heo
 ·exact ⟨u,k b u hbe q⟩
theorem Un.mono (u:Un fs ex H H1 h h1) (hs:∀ b∈fs,b∈fs') (hx:∀ b∈ex,b∈ex'):Un fs' ex' H H1 h h1 :=
 ⟨fun b ob q n hb he=>u.keep b ob q n (fun z=>hb (hs b z)) fun z=>he (hx b z),fun _ _ q n _ he=>u.any q n fun z=>he (hx _ z),fun b ob q n he=>u.free b ob q n fun z=>he (hx b z),fun b ob q he=>u.there b ob q fun z=>he (hx b z),u.tups,u.frzs,u.tbls⟩
end
def trk (h:Heap) (H:Hp):List Addr:=(List.range h.objs.size).filter fun a=>(H a).isSome
def JdP (h:Heap) (H:Hp):Heap:=PySem.W.hideAll h (trk h H)
theorem JkI (h:Heap) (H:Hp):(JdP h H).objs.size=h.objs.size:=PySem.W.hideAll_size _ _
theorem Jl6 {h:Heap} {H:Hp} {b:Addr} {o:Obj} (e:h.get? b=some o) (n:H b=none):(JdP h H).get? b=some o :=
 PySem.W.hideAll_get _ e fun hm=>by
  have q:(H b).isSome=true:=(List.mem_filter.mp hm).2;rw [n] at q; simp at q
theorem Jm6 {h:Heap} {H:Hp} {b:Addr} {o:Obj} (e:(JdP h H).get? b=some o):h.get? b=some o∧H b=none:=by
 have e':h.get? b=some o:=PySem.W.of_hideAll (trk h H) e;refine ⟨e',?_⟩;cases q:H b with
 | none=>rfl
 | some x =>
  have hm:b∈trk h H:=List.mem_filter.mpr ⟨List.mem_range.mpr (Heap.lt_size e'),by simp [q]⟩;have z:(JdP h H).get? b=none:=PySem.W.hideAll_none (trk h H) hm;rw [z] at e; cases e
def Jnn (g h:Heap) (L:Addr):List (Addr×Obj):=(List.range h.objs.size).filterMap fun a=>if a=L∨(g.get? a).isSome=true then none else (h.get? a).map fun o=>(a,o)
def rest (g h:Heap) (L d:Addr):List (Addr×Obj):=(Jnn g h L).filter fun p=>decide (p.1≠d)
end L2
namespace L2
open PySem PySem.Spec PyProof.Rows
structure Mod (K:PySem.W.Frag) (mg:Str→Option Value) (base:Heap):Prop where
 kin:K.In base
 glob:base.Ns mainGlobals mg
 blt:∃ mb,base.Ns builtinsNs mb∧∀ x:Str,x ≠ "__name__"→mb x=bootBuiltins x
 nolimit:base.NoLimit
structure Cx where
 prog:Program
 w:World
 K:PySem.W.Frag
 mg:Str→Option Value
 base:Heap
 A:Around
 N:List Str
 s₀:Shared
 H₀:Hp
 env:Env
 outer:List Env
 stack:List Env
 ex:List Addr
 fn:Str→Bool
 calm:Bool
 pn:List (Addr×Obj)
 xe:Value→Shared→Prop
def Zi (l:List Env):List Addr:=l.filterMap (·.frame)
abbrev Cx.fs (X:Cx):List Addr:=Zi X.outer
def Vis (sc:Scope) (x:Str):Prop:=sc.names.lookup x=some .local∨sc.names.lookup x=some .cell∨sc.names.lookup x=some .free
def Loc (sc:Scope) (x:Str):Prop:=sc.names.lookup x=some .local∨sc.names.lookup x=some .cell
def Jpq (env:Env) (h:Heap) (m:Str→Option Value) (x:Str) (u:Value):Prop :=
 (env.kindOf x=some .local∧m x=some u)∨((env.kindOf x=some .cell∨env.kindOf x=some .free)∧∃ c,env.cells.lookup x=some c∧h.IsCell c (some u))
structure Cx.Ok (X:Cx):Prop where
 mod:Mod X.K X.mg X.base
 kind:X.env.scope.kind=.function
 glob:X.env.globals=mainGlobals
 blt:X.env.builtins=builtinsNs
 above:X.s₀.heap.objs.size≤X.env.locals
 inj:∀ x y c,X.env.cells.lookup x=some c→X.env.cells.lookup y=some c→x=y
 has:∀ x,(X.env.kindOf x=some .cell∨X.env.kindOf x=some .free)→∃ c,X.env.cells.lookup x=some c
 cab:∀ x c,X.fn x=true→X.env.cells.lookup x=some c→X.s₀.heap.objs.size≤c
 hd:X.calm=true→X.A.handled=none
 frames:X.A.frames=some X.stack
 stk:X.stack=X.outer∨(X.stack=X.env :: X.outer∧X.env.frame=some X.env.locals)
 exf:∀ b∈X.ex,b≠X.env.locals∧∀ x c,X.env.cells.lookup x=some c→c≠b
 bs:∀ b o,X.base.get? b=some o→X.s₀.heap.get? b=some o∧X.H₀ b=none
 bsz:X.base.objs.size≤X.s₀.heap.objs.size
 noex:∀ b o,X.base.get? b=some o→b∉X.ex
 exfs:∀ b∈X.ex,b∉X.fs
 funs:X.s₀.heap.FunFrames X.base X.outer
 frf:∀ b∈X.fs,X.H₀ b=none
structure Jk (X:Cx) (pins:List (Addr×Obj)) (σ:List (Option V)) (H:Hp) (s:Shared):Prop where
 ok:X.Ok
 os:s.os=X.s₀.os
 bare:AllBare s.gens
 base:Un X.fs X.ex X.H₀ H X.s₀.heap s.heap
 loc:∃ m,s.heap.Ns X.env.locals m∧∀ (i:Nat) (x:Str) (v:V),X.N[i]?=some x→σ[i]?=some (some v)→Vis X.env.scope x→∃ u,JF v u∧Jpq X.env s.heap m x u
 cell:∀ x c,X.env.cells.lookup x=some c→∃ v,s.heap.IsCell c v
 free:H X.env.locals=none
 freeC:∀ x c,X.env.cells.lookup x=some c→H c=none
 pin:∀ p∈X.pn ++ pins,s.heap.get? p.1=some p.2∧H p.1=none∧p.1≠X.env.locals∧p.1∉X.fs∧∀ v,p.2.data≠.cell v
 hok:Zj X.prog X.w H s.heap
 len:σ.length=X.N.length
section
variable {X:Cx} {pins:List (Addr×Obj)} {σ:List (Option V)} {H H':Hp} {s:Shared} {h':Heap}
theorem Cx.Ok.nofr (ok:X.Ok) {b:Addr} {o:Obj} (e:X.base.get? b=some o):b∉X.fs:=fun hb=>by
 have:=(ok.funs.mem hb).1;rw [e] at this; cases this
theorem Jk.bs (I:Jk X pins σ H s):∀ b o,X.base.get? b=some o→s.heap.get? b=some o∧H b=none:=fun b o e =>
 ⟨I.base.keep b o (I.ok.bs b o e).1 (I.ok.bs b o e).2 (I.ok.nofr e) (I.ok.noex b o e),I.base.free b o (I.ok.bs b o e).1 (I.ok.bs b o e).2 (I.ok.noex b o e)⟩
theorem Jk.bk (I:Jk X pins σ H s):∀ b o,X.base.get? b=some o→s.heap.get? b=some o:=fun b o e=>(I.bs b o e).1
theorem Jk.mod (I:Jk X pins σ H s):Mod X.K X.mg X.base:=I.ok.mod
theorem Jk.kIn (I:Jk X pins σ H s):X.K.In s.heap:=I.ok.mod.kin.keeps I.bk
theorem Jk.nolimit (I:Jk X pins σ H s):s.heap.NoLimit:=I.ok.mod.nolimit.keeps I.bk
theorem Jk.fr (I:Jk X pins σ H s):∃ m,Fr X.base X.env.locals s.heap m :=
 let ⟨m,hn,_⟩:=I.loc
 ⟨m,hn,I.bk,Nat.le_trans I.ok.bsz I.ok.above⟩
theorem Jk.lt (I:Jk X pins σ H s):X.env.locals < s.heap.objs.size:=let ⟨_,hn,_⟩:=I.loc; hn.lt
theorem Jk.sz (I:Jk X pins σ H s):X.s₀.heap.objs.size≤s.heap.objs.size:=Nat.le_trans I.ok.above (Nat.le_of_lt I.lt)
theorem Jk.nofs (I:Jk X pins σ H s) {a:Addr} (h:s.heap.objs.size≤a):a∉X.fs:=fun hb=>by
 obtain ⟨_,o,ho,_⟩:=I.ok.funs.mem hb;exact absurd (Nat.lt_of_lt_of_le (Heap.lt_size ho) (Nat.le_trans I.sz h)) (Nat.lt_irrefl _)
theorem Jk.cne (I:Jk X pins σ H s):∀ x c,X.env.cells.lookup x=some c→c≠X.env.locals:=fun x c e z=>by
 obtain ⟨v,o,ho,hd⟩:=I.cell x c e;obtain ⟨m,⟨o',es,ep,ho',hd',_⟩,_⟩:=I.loc;rw [z,ho'] at ho; cases ho; rw [hd'] at hd; cases hd
theorem Jk.funs (I:Jk X pins σ H s):s.heap.FunFrames X.base X.outer:=by
 have all:∀ (l:List Env),(∀ b∈Zi l,b∈X.fs)→X.s₀.heap.FunFrames X.base l→s.heap.FunFrames X.base l:=by
  intro l
  induction l with
  | nil=>intro _ _; trivial
  | cons env r ih =>
   intro hs hl;obtain ⟨hk,⟨L,o,hf,hn,ho,hd⟩,hr⟩:=hl;have hL:L∈X.fs:=hs L (by unfold Zi; rw [List.filterMap_cons,hf]; exact List.mem_cons_self);obtain ⟨sl,e⟩:=I.base.slot L o ho (I.ok.frf L hL) hL fun z=>I.ok.exfs L z hL
   exact ⟨hk,⟨L,_,hf,hn,e,hd⟩,ih (fun b hb=>hs b (by unfold Zi; rw [List.filterMap_cons,hf]; exact List.mem_cons_of_mem _ hb)) hr⟩
 exact all X.outer (fun _ hb=>hb) I.ok.funs
theorem Jk.stack (I:Jk X pins σ H s):s.heap.FunFrames X.base X.stack:=by
 rcases I.ok.stk with e | ⟨e,hf⟩
 ·rw [e]; exact I.funs
 ·rw [e];obtain ⟨m,hn,_⟩:=I.loc;refine .cons (by rw [I.ok.kind]; decide) hf hn ?_ I.funs;exact Heap.get?_none_of_le (Nat.le_trans I.ok.bsz I.ok.above)
theorem Jk.stkSub (I:Jk X pins σ H s):∀ b∈Zi X.stack,b∈X.env.locals :: X.fs:=fun b hb=>by
 rcases I.ok.stk with e | ⟨e,hf⟩
 ·rw [e] at hb; exact List.mem_cons_of_mem _ hb
 ·rw [e] at hb;unfold Zi at hb;rw [List.filterMap_cons,hf] at hb;exact hb
theorem Jk.stkFree (I:Jk X pins σ H s):∀ b∈Zi X.stack,H b=none:=fun b hb=>by
 rcases List.mem_cons.mp (I.stkSub b hb) with e | hb
 ·rw [e]; exact I.free
 ·obtain ⟨_,o,ho,_⟩:=I.ok.funs.mem hb;exact I.base.free b o ho (I.ok.frf b hb) fun z=>I.ok.exfs b z hb
theorem Jk.step {g':Array GenState} {t':Nat} {d':Drawn} {ch:List Addr} (I:Jk X pins σ H s)
  (hch:∀ b∈ch,(b∈X.ex∨X.s₀.heap.objs.size≤b)∧b≠X.env.locals∧(∀ x c,X.env.cells.lookup x=some c→c≠b)∧∀ p∈X.pn ++ pins,p.1≠b)
  (keep:∀ b o,b≠X.env.locals→b∉X.fs→b∉ch→s.heap.get? b=some o→H b=none→h'.get? b=some o)
  (slot:∀ b o,b≠X.env.locals→b∈X.fs→b∉ch→s.heap.get? b=some o→H b=none→∃ sl,h'.get? b=some { o with slots:=sl }) (free:∀ b o,b∉ch→s.heap.get? b=some o→H b=none→H' b=none)
  (there:∀ b o,b∉ch→s.heap.get? b=some o→∃ o',h'.get? b=some o')
  (tups:∀ b xs,H b=some (.tup xs)→H' b=some (.tup xs)) (frzs:∀ b o u,H b=some (.frz o u)→H' b=some (.frz o u)) (tbls:∀ b ps,H b=some (.tbl ps)→∃ more,H' b=some (.tbl (ps ++ more)))
  (ns:∀ m,s.heap.Ns X.env.locals m→h'.Ns X.env.locals m) (hok:Zj X.prog X.w H' h') (hg:AllBare g') :
  Jk X pins σ H' { s with heap:=h',gens:=g',drawn:=d',toks:=t' }:=by
 have neL:∀ b o,X.s₀.heap.get? b=some o→b≠X.env.locals:=fun b o e=>Nat.ne_of_lt (Nat.lt_of_lt_of_le (Heap.lt_size e) I.ok.above)
 have neC:∀ b o,X.s₀.heap.get? b=some o→b∉X.ex→b∉ch:=fun b o e hx hb=>by
  rcases (hch b hb).1 with z | z
  ·exact hx z
  ·exact absurd (Nat.lt_of_lt_of_le (Heap.lt_size e) z) (Nat.lt_irrefl _)
 have cellK:∀ x c,X.env.cells.lookup x=some c→∀ v,s.heap.IsCell c v→h'.IsCell c v:=fun x c e v ⟨o,ho,hd⟩=>by
  have nch:c∉ch:=fun z=>(hch c z).2.2.1 x c e rfl
  by_cases hc:c∈X.fs
  ·obtain ⟨sl,q⟩:=slot c o (I.cne x c e) hc nch ho (I.freeC x c e);exact ⟨_,q,hd⟩
  ·exact ⟨o,keep c o (I.cne x c e) hc nch ho (I.freeC x c e),hd⟩
 refine ⟨I.ok,I.os,hg,⟨fun b o e n hb hx=>?_,fun b o e n hb hx=>?_,fun b o e n hx=>?_,fun b o e hx=>?_,fun b xs e=>tups b xs (I.base.tups b xs e),fun b o xs e=>frzs b o xs (I.base.frzs b o xs e),fun b ps e=>?_⟩,?_,fun x c e=>?_,?_,fun x c e=>?_,fun p hp=>?_,hok,I.len⟩
 ·exact keep b o (neL b o e) hb (neC b o e hx) (I.base.keep b o e n hb hx) (I.base.free b o e n hx)
 ·obtain ⟨sl,e1⟩:=I.base.slot b o e n hb hx;obtain ⟨sl',e2⟩:=slot b _ (neL b o e) hb (neC b o e hx) e1 (I.base.free b o e n hx);exact ⟨sl',e2⟩
 ·obtain ⟨o',e1⟩:=I.base.there b o e hx;exact free b o' (neC b o e hx) e1 (I.base.free b o e n hx)
 ·obtain ⟨o',e1⟩:=I.base.there b o e hx;exact there b o' (neC b o e hx) e1
 ·obtain ⟨m1,e1⟩:=I.base.tbls b ps e;obtain ⟨m2,e2⟩:=tbls b _ e1;exact ⟨m1 ++ m2,by rw [e2,Array.append_assoc]⟩
 ·obtain ⟨m,hn,hl⟩:=I.loc;refine ⟨m,ns m hn,fun i x v e1 e2 e3=>?_⟩;obtain ⟨u,r,l⟩:=hl i x v e1 e2 e3;refine ⟨u,r,?_⟩;rcases l with l | ⟨k,c,e,z⟩
  ·exact .inl l
  ·exact .inr ⟨k,c,e,cellK x c e _ z⟩
 ·obtain ⟨v,z⟩:=I.cell x c e;exact ⟨v,cellK x c e v z⟩
 ·obtain ⟨m,⟨o,_,_,ho,_⟩,_⟩:=I.loc;exact free _ o (fun z=>(hch _ z).2.1 rfl) ho I.free
 ·obtain ⟨v,o,ho,hd⟩:=I.cell x c e;exact free c o (fun z=>(hch c z).2.2.1 x c e rfl) ho (I.freeC x c e)
 ·obtain ⟨e,n,ne,nf,d⟩:=I.pin p hp;have nch:p.1∉ch:=fun z=>(hch p.1 z).2.2.2 p hp rfl
  exact ⟨keep p.1 p.2 ne nf nch e n,free p.1 p.2 nch e n,ne,nf,d⟩
theorem Jk.un {t':Nat} (I:Jk X pins σ H s) (u:Un X.fs [] H H' s.heap h') (hok:Zj X.prog X.w H' h'):Jk X pins σ H' { s with heap:=h',toks:=t' }:=by
 obtain ⟨m,⟨o,es,ep,ho,r⟩,_⟩:=id I.loc;obtain ⟨sl,hL⟩:=u.any ho I.free (by simp);exact I.step (g':=s.gens) (d':=s.drawn) (ch:=[]) (fun _ z=>nomatch z) (fun b o _ hb _ e n=>u.keep b o e n hb (by simp)) (fun b o _ hb _ e n=>u.slot b o e n hb (by simp)) (fun b o _ e n=>u.free b o e n (by simp)) (fun b o _ e=>u.there b o e (by simp)) u.tups u.frzs u.tbls (fun m' hm=>by
  obtain ⟨o',es',ep',ho',r'⟩:=hm;rw [ho] at ho'; cases ho';exact ⟨_,es',ep',hL,r'⟩) hok I.bare
theorem Jk.call {g':Array GenState} {t':Nat} {d':Drawn} {ch:List Addr} (I:Jk X pins σ H s) (u:Un (Zi X.stack) ch H H' s.heap h') (hok:Zj X.prog X.w H' h') (hg:AllBare g')
  (hch:∀ b∈ch,(b∈X.ex∨X.s₀.heap.objs.size≤b)∧b≠X.env.locals∧(∀ x c,X.env.cells.lookup x=some c→c≠b)∧∀ p∈X.pn ++ pins,p.1≠b) :
  Jk X pins σ H' { s with heap:=h',gens:=g',drawn:=d',toks:=t' }:=by
 obtain ⟨m,⟨o,es,ep,ho,r⟩,_⟩:=id I.loc;obtain ⟨sl,hL⟩:=u.any ho I.free fun z=>(hch _ z).2.1 rfl
 exact I.step (ch:=ch) hch (fun b o hL hb hc e n=>u.keep b o e n (fun z=>(List.mem_cons.mp (I.stkSub b z)).elim hL hb) hc) (fun b o _ _ hc e n=>u.any e n hc) (fun b o hc e n=>u.free b o e n hc) (fun b o hc e=>u.there b o e hc) u.tups u.frzs u.tbls (fun m' hm=>by
  obtain ⟨o',es',ep',ho',r'⟩:=hm;rw [ho] at ho'; cases ho';exact ⟨_,es',ep',hL,r'⟩) hok hg
theorem Jk.turned {t':Nat} {it:Addr} (I:Jk X pins σ H s) (k:∀ b o,b≠it→s.heap.get? b=some o→h'.get? b=some o) (hn:H it=none) (hL:it≠X.env.locals)
  (h1:it∈X.ex∨X.s₀.heap.objs.size≤it) (h2:∀ x c,X.env.cells.lookup x=some c→c≠it) (h3:∀ p∈X.pn ++ pins,p.1≠it):Jk X pins σ H { s with heap:=h',toks:=t' }:=by
 have nit:∀ b u,H b=some u→b≠it:=fun b u e z=>by rw [z,hn] at e; cases e
 refine I.step (g':=s.gens) (d':=s.drawn) (ch:=[it]) (fun b hb=>?_) (fun b o _ _ hc e _=>k b o (fun z=>hc (by simp [z])) e) (fun b o _ _ hc e _=>⟨o.slots,k b o (fun z=>hc (by simp [z])) e⟩) (fun _ _ _ _ n=>n)
  (fun b o hc e=>⟨o,k b o (fun z=>hc (by simp [z])) e⟩) (fun _ _ e=>e) (fun _ _ _ e=>e) (fun b ps e=>⟨#[],by rw [e]; simp⟩) (fun m hm=>?_) (fun b u e=>?_) I.bare
 ·have e:b=it:=by simpa using hb
  subst e;exact ⟨h1,hL,h2,h3⟩
 ·obtain ⟨o,es,ep,ho,r⟩:=hm;exact ⟨o,es,ep,k _ o (Ne.symm hL) ho,r⟩
 ·refine (I.hok b u e).stay (fun c v hc q=>k c v ?_ q) (fun _ q=>q) fun _ _ q=>q
  rcases hc with z | z
  ·rw [z]; exact nit b u e
  ·exact nit c _ z
theorem Jk.tok (I:Jk X pins σ H s) (t:Nat):Jk X pins σ H { s with toks:=t }:=I.un (h':=s.heap) (t':=t) Un.refl I.hok
theorem Jk.kept {t':Nat} (I:Jk X pins σ H s) (k:∀ b u,s.heap.get? b=some u→h'.get? b=some u):Jk X pins σ H { s with heap:=h',toks:=t' }:=I.un (Un.kept k) (I.hok.kept k)
theorem Jk.laid {a:Addr} {o:HO} {t':Nat} (I:Jk X pins σ H s) (k:∀ b u,s.heap.get? b=some u→h'.get? b=some u) (hp:s.heap.objs.size≤a) (new:J9 X.prog X.w (upd H a o) h' a o) :
  Jk X pins σ (upd H a o) { s with heap:=h',toks:=t' }:=I.un (Un.laid k hp (I.hok.fresh hp)) (I.hok.laid k hp new)
theorem Jk.write {x e:Addr} {o:HO} {t':Nat} (I:Jk X pins σ H s) (mu:Mut (H x)) (he:e=x∨H e=some (.own x)) (k:∀ b u,b≠e→s.heap.get? b=some u→h'.get? b=some u) (heo:∃ u,h'.get? e=some u)
  (new:J9 X.prog X.w (upd H x o) h' x o):Jk X pins σ (upd H x o) { s with heap:=h',toks:=t' }:=I.un (Un.write mu he k heo) (I.hok.write mu he k heo new)
theorem Jk.weak {σ':List (Option V)} (I:Jk X pins σ H s) (hl:σ'.length=σ.length) (w:∀ (i:Nat) v,σ'[i]?=some (some v)→σ[i]?=some (some v)):Jk X pins σ' H s :=
 ⟨I.ok,I.os,I.bare,I.base,let ⟨m,hn,hl'⟩:=I.loc; ⟨m,hn,fun i x v e1 e2 e3=>hl' i x v e1 (w i v e2) e3⟩,I.cell,I.free,I.freeC,I.pin,I.hok,hl.trans I.len⟩
theorem Jk.pins_of {pins':List (Addr×Obj)} (I:Jk X pins σ H s) (h:∀ p∈pins',s.heap.get? p.1=some p.2∧H p.1=none∧p.1≠X.env.locals∧p.1∉X.fs∧∀ v,p.2.data≠.cell v):Jk X pins' σ H s :=
 ⟨I.ok,I.os,I.bare,I.base,I.loc,I.cell,I.free,I.freeC,fun p hp=>(List.mem_append.mp hp).elim (fun z=>I.pin p (List.mem_append_left _ z)) (h p),I.hok,I.len⟩
theorem Jib {N:List Str} (hN:N.Nodup) {i j:Nat} {x:Str} (a:N[i]?=some x) (b:N[j]?=some x):i=j:=by
 obtain ⟨h1,e1⟩:=List.getElem?_eq_some_iff.mp a;obtain ⟨h2,e2⟩:=List.getElem?_eq_some_iff.mp b;exact (List.getElem_inj hN).mp (e1.trans e2.symm)
theorem JgX {M:Model} {A:Around} {E:Value→Shared→Prop} {i:Nat} {x:Str} {v:V} {u:Value} {Q:Unit→Shared→Prop} (I:Jk X pins σ H s) (hN:X.N.Nodup) (hi:X.N[i]?=some x) (hx:Loc X.env.scope x) (r:JF v u)
  (h:∀ s',Jk X pins (σ.set i (some v)) H s'→(∃ a,Heap.SameBut a s.heap s'.heap∧(a=X.env.locals∨X.env.cells.lookup x=some a))→Q () s') (hf:X.fn x=true∨X.env.scope.names.lookup x=some .local:=by first | exact .inl rfl | exact .inr rfl | assumption):wpAny M A (storeName X.env x u) Q E s:=by
 obtain ⟨m,hn,hl⟩:=id I.loc;have hcls:(X.env.scope.kind == .class || (X.env.scope.kind == .module && X.env.locals != X.env.globals))=false:=by rw [I.ok.kind]; rfl
 have hiσ:i < σ.length:=by rw [I.len]; exact (List.getElem?_eq_some_iff.mp hi).1
 have cne:=I.cne;have tracked:∀ {a:Addr} {h':Heap},(∃ o,s.heap.get? a=some o∧H a=none)→Heap.SameBut a s.heap h'→Zj X.prog X.w H h':=fun {a h'} ha hs b ob e=>by
  obtain ⟨_,_,hfree⟩:=ha;refine (I.hok b ob e).stay (fun c w' hc q=>(hs.2 c ?_).trans q) (fun _ q=>q) fun _ _ q=>q
  rintro rfl;rcases hc with rfl | hc
  ·rw [hfree] at e; cases e
  ·rw [hfree] at hc; cases hc
 rcases hx with hk | hk
 ·refine wpAny_storeName_local hk hn (fun h' hn' hs=>?_) hcls;obtain ⟨oL,_,_,hoL,_⟩:=id hn;refine h _ ⟨I.ok,I.os,I.bare,⟨fun b o e n hb hx=>?_,fun b o e n hb hx=>?_,I.base.free,fun b o e hx=>?_,I.base.tups,I.base.frzs,I.base.tbls⟩,⟨_,hn',fun j y v' e1 e2 e3=>?_⟩,fun y c e=>?_,I.free,I.freeC,fun p hp=>?_,tracked ⟨oL,hoL,I.free⟩ hs,by simpa using I.len⟩ ⟨_,hs,.inl rfl⟩
  ·exact (hs.2 b (Nat.ne_of_lt (Nat.lt_of_lt_of_le (Heap.lt_size e) I.ok.above))).trans (I.base.keep b o e n hb hx)
  ·obtain ⟨sl,e1⟩:=I.base.slot b o e n hb hx;exact ⟨sl,(hs.2 b (Nat.ne_of_lt (Nat.lt_of_lt_of_le (Heap.lt_size e) I.ok.above))).trans e1⟩
  ·obtain ⟨o',e1⟩:=I.base.there b o e hx;exact ⟨o',(hs.2 b (Nat.ne_of_lt (Nat.lt_of_lt_of_le (Heap.lt_size e) I.ok.above))).trans e1⟩
  ·by_cases hj:j=i
   ·subst hj;rw [hi] at e1; cases e1;rw [List.getElem?_set_self hiσ] at e2;cases e2;exact ⟨u,r,.inl ⟨hk,by simp⟩⟩
   ·rw [List.getElem?_set_ne (Ne.symm hj)] at e2;obtain ⟨u',r',q⟩:=hl j y v' e1 e2 e3;refine ⟨u',r',?_⟩;rcases q with ⟨k,e⟩ | ⟨k,c,e,z⟩
    ·refine .inl ⟨k,?_⟩;have:y≠x:=fun e=>hj (Jib hN e1 (e ▸ hi))
     simp [this,e]
    ·exact .inr ⟨k,c,e,z.sameBut hs (cne y c e)⟩
  ·obtain ⟨w',z⟩:=I.cell y c e;exact ⟨w',z.sameBut hs (cne y c e)⟩
  ·obtain ⟨e,n,ne,nf,d⟩:=I.pin p hp;exact ⟨(hs.2 p.1 ne).trans e,n,ne,nf,d⟩
 ·have hfn:X.fn x=true:=by
   rcases hf with z | z
   ·exact z
   ·rw [z] at hk; cases hk
  obtain ⟨c,hc⟩:=I.ok.has x (.inl hk);obtain ⟨w',z⟩:=I.cell x c hc;refine wpAny_storeName_cell I.ok.kind hk hc z (fun h' hc' hs=>?_);obtain ⟨oc,hoc,hocd⟩:=id z;refine h { s with heap:=h' } ⟨I.ok,I.os,I.bare,⟨fun b o e n hb hx=>?_,fun b o e n hb hx=>?_,I.base.free,fun b o e hx=>?_,I.base.tups,I.base.frzs,I.base.tbls⟩,⟨m,hn.sameBut hs (Ne.symm (cne x c hc)),fun j y v' e1 e2 e3=>?_⟩,fun y c' e=>?_,I.free,I.freeC,fun p hp=>?_,tracked ⟨oc,hoc,I.freeC x c hc⟩ hs,by simpa using I.len⟩ ⟨c,hs,.inr hc⟩
  ·exact (hs.2 b (Nat.ne_of_lt (Nat.lt_of_lt_of_le (Heap.lt_size e) (I.ok.cab x c hfn hc)))).trans (I.base.keep b o e n hb hx)
  ·obtain ⟨sl,e1⟩:=I.base.slot b o e n hb hx;exact ⟨sl,(hs.2 b (Nat.ne_of_lt (Nat.lt_of_lt_of_le (Heap.lt_size e) (I.ok.cab x c hfn hc)))).trans e1⟩
  ·obtain ⟨o',e1⟩:=I.base.there b o e hx;exact ⟨o',(hs.2 b (Nat.ne_of_lt (Nat.lt_of_lt_of_le (Heap.lt_size e) (I.ok.cab x c hfn hc)))).trans e1⟩
  ·by_cases hj:j=i
   ·subst hj;rw [hi] at e1; cases e1;rw [List.getElem?_set_self hiσ] at e2;cases e2;exact ⟨u,r,.inr ⟨.inl hk,c,hc,hc'⟩⟩
   ·rw [List.getElem?_set_ne (Ne.symm hj)] at e2;obtain ⟨u',r',q⟩:=hl j y v' e1 e2 e3;refine ⟨u',r',?_⟩;rcases q with q | ⟨k,c',e,z'⟩
    ·exact .inl q
    ·refine .inr ⟨k,c',e,z'.sameBut hs ?_⟩;rintro rfl;exact hj (Jib hN e1 (I.ok.inj _ _ _ e hc ▸ hi))
  ·by_cases hcc:c'=c
   ·subst hcc; exact ⟨_,hc'⟩
   ·obtain ⟨w2,z2⟩:=I.cell y c' e;exact ⟨w2,z2.sameBut hs hcc⟩
  ·obtain ⟨e,n,ne,nf,d⟩:=I.pin p hp;refine ⟨(hs.2 p.1 ?_).trans e,n,ne,nf,d⟩;intro q;rw [q,hoc] at e;have q':oc=p.2:=Option.some.inj e;exact d w' (by rw [← q']; exact hocd)
theorem JhG {M:Model} {A:Around} {E:Value→Shared→Prop} {i:Nat} {x:Str} {v:V} {u:Value} {Q:Unit→Shared→Prop} (I:Jk X pins σ H s) (hN:X.N.Nodup) (hi:X.N[i]?=some x) (hx:Loc X.env.scope x) (r:JF v u)
  (h:∀ s',Jk X pins (σ.set i (some v)) H s'→Q () s') (hf:X.fn x=true∨X.env.scope.names.lookup x=some .local:=by first | exact .inl rfl | exact .inr rfl | assumption):wpAny M A (storeName X.env x u) Q E s :=
 JgX I hN hi hx r (fun s' I' _=>h s' I') hf
theorem Jk.call' {s':Shared} {ch:List Addr} (I:Jk X pins σ H s) (ho:s'.os=s.os) (u:Un (Zi X.stack) ch H H' s.heap s'.heap) (hok:Zj X.prog X.w H' s'.heap) (hg:AllBare s'.gens)
  (hch:∀ b∈ch,(b∈X.ex∨X.s₀.heap.objs.size≤b)∧b≠X.env.locals∧(∀ x c,X.env.cells.lookup x=some c→c≠b)∧∀ p∈X.pn ++ pins,p.1≠b):Jk X pins σ H' s':=by
 obtain ⟨h',g',d',t',o'⟩:=s';have e:o'=s.os:=ho;subst e;exact I.call (g':=g') (t':=t') (d':=d') u hok hg hch
end
abbrev XK:=Value→Option Addr→Hp→Prop
abbrev St:=List (Option V)
abbrev VK:=V→Hp→Prop
abbrev TE:=St→Hp→VK→Prop
abbrev TT:=St→Hp→(Bool→Hp→Prop)→Prop
abbrev TA:=St→Hp→(List V→Hp→Prop)→Prop
structure Jeu where
 nx:St→Hp→Prop
 rt:VK
 bk:St→Hp→Prop:=fun _ _=>False
 ct:St→Hp→Prop:=fun _ _=>False
abbrev TS:=Jeu→St→Hp→Prop
def EP (X:Cx) (pins:List (Addr×Obj)) (σ:St) (Q:VK) (u:Value) (s':Shared):Prop:=∃ v H',Jk X pins σ H' s'∧JF v u∧Q v H'
def TP (X:Cx) (pins:List (Addr×Obj)) (σ:St) (Q:Bool→Hp→Prop) (b:Bool) (s':Shared):Prop:=∃ H',Jk X pins σ H' s'∧Q b H'
def AP (X:Cx) (pins:List (Addr×Obj)) (σ:St) (Q:List V→Hp→Prop) (us:List Value) (s':Shared):Prop:=∃ vs H',Jk X pins σ H' s'∧Jt vs us∧Q vs H'
def SP (X:Cx) (pins:List (Addr×Obj)) (D:Jeu) (f:Flow) (s':Shared):Prop :=
 match f with
 | .next=>∃ σ' H',Jk X pins σ' H' s'∧D.nx σ' H'
 | .brk=>∃ σ' H',Jk X pins σ' H' s'∧D.bk σ' H'
 | .cont=>∃ σ' H',Jk X pins σ' H' s'∧D.ct σ' H'
 | .ret u=>∃ v σ' H',Jk X pins σ' H' s'∧JF v u∧D.rt v H'
def PE (X:Cx) (e:Expr) (t:TE):Prop :=
 ∀ (pins:List (Addr×Obj)) (s:Shared) (σ:St) (H:Hp) (Q:VK),Jk X pins σ H s→t σ H Q→wpAny (model X.prog X.w) X.A (eval e X.env) (EP X pins σ Q) X.xe s
def PT (X:Cx) (e:Expr) (t:TT):Prop :=
 ∀ (pins:List (Addr×Obj)) (s:Shared) (σ:St) (H:Hp) (Q:Bool→Hp→Prop),Jk X pins σ H s→t σ H Q→wpAny (model X.prog X.w) X.A (isTrue e X.env (eval e X.env)) (TP X pins σ Q) X.xe s
def PW (X:Cx) (e:Expr) (t:TT):Prop :=
 ∀ (whole:Sem Value) (pins:List (Addr×Obj)) (s:Shared) (σ:St) (H:Hp) (Q:Bool→Hp→Prop),Jk X pins σ H s→t σ H Q→wpAny (model X.prog X.w) X.A (isTrue e X.env whole) (TP X pins σ Q) X.xe s
theorem PW.pt {X:Cx} {e:Expr} {t:TT} (h:PW X e t):PT X e t:=h _
def PA (X:Cx) (es:List Expr) (t:TA):Prop :=
 ∀ (pos:Pos) (pins:List (Addr×Obj)) (s:Shared) (σ:St) (H:Hp) (Q:List V→Hp→Prop),Jk X pins σ H s→t σ H Q→wpAny (model X.prog X.w) X.A (spliced (backTo pos (starEach es X.env))) (AP X pins σ Q) X.xe s
def PS (X:Cx) (st:Stmt) (t:TS):Prop :=
 ∀ (pins:List (Addr×Obj)) (s:Shared) (σ:St) (H:Hp) (D:Jeu),Jk X pins σ H s→t D σ H→wpAny (model X.prog X.w) X.A (exec st X.env) (SP X pins D) X.xe s
def PSs (X:Cx) (st:List Stmt) (t:TS):Prop :=
 ∀ (pins:List (Addr×Obj)) (s:Shared) (σ:St) (H:Hp) (D:Jeu),Jk X pins σ H s→t D σ H→wpAny (model X.prog X.w) X.A (execs st X.env) (SP X pins D) X.xe s
theorem JJ {α:Type} {t:Sem α} {Q Q':α→Shared→Prop} {M:Model} {A:Around} {E:Value→Shared→Prop} {s:Shared} (h:wpAny M A t Q E s) (hQ:∀ a s,Q a s→Q' a s):wpAny M A t Q' E s:=wpAny_mono h hQ fun _ _ x=>x
end L2
namespace L2
open PySem PySem.Spec PyProof.Rows
section
variable {X:Cx}
def Jjf (i:Nat):TE:=fun σ H Q=>∃ v,σ[i]?=some (some v)∧Q v H
def tC (v:V):TE:=fun _ H Q=>Q v H
theorem JhY {i:Nat} {x:Str} {pos:Pos} (hN:X.N[i]?=some x) (hv:Vis X.env.scope x) (hd:(x == ("__debug__" : Str))=false:=by decide) (hcd:(x == ("__classdict__" : Str))=false:=by decide):PE X (.Name x pos) (Jjf i):=by
 intro pins s σ H Q I h;obtain ⟨v,e,h⟩:=h;obtain ⟨m,hn,hl⟩:=I.loc;obtain ⟨u,r,l⟩:=hl i x v hN e hv;have fin:EP X pins σ Q u s:=⟨v,H,I,r,h⟩
 rcases l with ⟨hk,hm⟩ | ⟨hk,c,hc,hcell⟩
 ·exact wpAny_Name (wpAny_loadName_local I.ok.kind hk hn hm fin) hd
 ·rcases hk with hk | hk
  ·exact wpAny_Name (wpAny_loadName_cell I.ok.kind hk hc hcell fin) hd
  ·exact wpAny_Name (wpAny_loadName_free I.ok.kind hk hc hcell fin hcd) hd
theorem Jb {i j pos}:PE X (.Constant (.int i) j pos) (tC (.int i)):=fun _ _ _ H _ I h=>wpAny_Constant_int ⟨.int i,H,I.tok _,⟨_,rfl⟩,h⟩
theorem JeF {b j pos}:PE X (.Constant (.bool b) j pos) (tC (.bl b)):=fun _ _ _ H _ I h=>Constant_bool ⟨.bl b,H,I,rfl,h⟩
theorem JcJ {j pos}:PE X (.Constant .none j pos) (tC .non):=fun _ _ _ H _ I h=>Constant_none ⟨.non,H,I,rfl,h⟩
theorem JR {x j pos}:PE X (.Constant (.str x) j pos) (tC (.str x)):=fun _ _ _ H _ I h=>Calls.Constant_str ⟨.str x,H,I.tok _,⟨_,rfl⟩,h⟩
def Gl (X:Cx) (x:Str):Prop:=X.env.kindOf x=some .globalImplicit
theorem JeG {E:Value→Shared→Prop} {pins:List (Addr×Obj)} {s:Shared} {σ:St} {H:Hp} {x:Str} {u:Value} {pos:Pos} {Q:Value→Shared→Prop} (I:Jk X pins σ H s) (hg:Gl X x) (hm:X.mg x=some u) (h:Q u s)
  (hd:(x == ("__debug__" : Str))=false:=by decide):wpAny (model X.prog X.w) X.A (eval (.Name x pos) X.env) Q E s :=
 Calls.Name_function_global I.ok.kind hg (Calls.loadGlobal_global (by rw [I.ok.glob]; exact I.mod.glob.keeps I.bk) hm h) hd
theorem Jef {E:Value→Shared→Prop} {pins:List (Addr×Obj)} {s:Shared} {σ:St} {H:Hp} {x:Str} {u:Value} {pos:Pos} {Q:Value→Shared→Prop} (I:Jk X pins σ H s) (hg:Gl X x) (hm:X.mg x=none) (hv:bootBuiltins x=some u) (h:Q u s)
  (hn:x ≠ "__name__":=by decide) (hd:(x == ("__debug__" : Str))=false:=by decide):wpAny (model X.prog X.w) X.A (eval (.Name x pos) X.env) Q E s:=by
 obtain ⟨mb,h1,h2⟩:=I.mod.blt;exact Calls.Name_function_global I.ok.kind hg (Calls.loadGlobal_builtin (by rw [I.ok.glob]; exact I.mod.glob.keeps I.bk) hm (by rw [I.ok.blt]; exact h1.keeps I.bk) ((h2 x hn).trans hv) h) hd
theorem JaA {x:Str} {v:V} {u:Value} {pos:Pos} (hg:Gl X x) (hm:X.mg x=some u) (r:JF v u) (hd:(x == ("__debug__" : Str))=false:=by decide):PE X (.Name x pos) (tC v) :=
 fun _ _ _ H _ I h=>JeG I hg hm ⟨v,H,I,r,h⟩ hd
theorem Jm3 {x:Str} {v:V} {u:Value} {pos:Pos} (hg:Gl X x) (hm:X.mg x=none) (hv:bootBuiltins x=some u) (r:JF v u) (hn:x ≠ "__name__":=by decide) (hd:(x == ("__debug__" : Str))=false:=by decide):PE X (.Name x pos) (tC v) :=
 fun _ _ _ H _ I h=>Jef I hg hm hv ⟨v,H,I,r,h⟩ hn hd
variable {a b:Expr} {ta tb:TE} {pos:Pos}
def PC (X:Cx) (op:CmpOp) (a b:Expr) (t:TE):Prop :=
 ∀ (pins:List (Addr×Obj)) (s:Shared) (σ:St) (H:Hp) (Q:VK),Jk X pins σ H s→t σ H Q →
  wpAny (model X.prog X.w) X.A (eval a X.env) (fun v s₁=>wpAny (model X.prog X.w) X.A (eval b X.env) (fun u s₂=>wpAny (model X.prog X.w) X.A (compareOp op v u) (EP X pins σ Q) X.xe s₂) X.xe s₁) X.xe s
theorem ZA (b:Expr) {op:CmpOp} (h:op≠.In) (h2:op≠.NotIn):behindInMarks op b=false:=by
 have e1:(op == CmpOp.In)=false:=by cases op <;> first | rfl | exact absurd rfl h
 have e2:(op == CmpOp.NotIn)=false:=by cases op <;> first | rfl | exact absurd rfl h2
 cases b <;> simp [behindInMarks,e1,e2]
def Jpa (ta:TE):TE:=fun σ H Q=>ta σ H fun x H1=>Q (.bl (decide (x=.non))) H1
def Jop (ta:TE):TE:=fun σ H Q=>ta σ H fun x H1=>Q (.bl (!decide (x=.non))) H1
theorem JF.none_iff {x:V} {v:Value} (r:JF x v):(v == Value.none)=decide (x=.non):=by
 cases x with
 | non=>cases r; rfl
 | bl _=>cases r; rfl
 | int _=>obtain ⟨t,rfl⟩:=r; rfl
 | str _=>obtain ⟨t,rfl⟩:=r; rfl
 | byt _=>obtain ⟨t,rfl⟩:=r; rfl
 | flt _=>obtain ⟨t,rfl⟩:=r; rfl
 | ref _=>cases r; rfl
 | ty _=>cases r; rfl
theorem Jh3 {j pos'} (ha:PE X a ta):PC X .Is a (.Constant .none j pos') (Jpa ta):=by
 intro pins s σ H Q I h;refine JJ (ha pins s σ H _ I h) fun v s1 ⟨x,H1,I1,r1,q1⟩=>?_
 exact Constant_none (is_none_gen ⟨.bl _,H1,I1,by rw [r1.none_iff]; rfl,q1⟩)
theorem Jds {j pos'} (ha:PE X a ta):PC X .IsNot a (.Constant .none j pos') (Jop ta):=by
 intro pins s σ H Q I h;refine JJ (ha pins s σ H _ I h) fun v s1 ⟨x,H1,I1,r1,q1⟩=>?_
 exact Constant_none (isnot_none_gen ⟨.bl _,H1,I1,by rw [r1.none_iff]; rfl,q1⟩)
def tB (t:TE):TT:=fun σ H Q=>t σ H fun x H1=>∃ c,x=.bl c∧Q c H1
theorem Jh1 {op:CmpOp} {t:TE} (h:PC X op a b t) (h1:behindInMarks op b=false:=by first | exact ZA _ (by decide) (by decide) | rfl):PE X (.Compare a [op] [b] pos) t:=fun pins s σ H Q I hw=>wpAny_Compare1 (h pins s σ H Q I hw) h1
theorem Jd2 {op:CmpOp} {t:TE} (h:PC X op a b t) (h1:behindInMarks op b=false:=by first | exact ZA _ (by decide) (by decide) | rfl):PT X (.Compare a [op] [b] pos) (tB t):=by
 intro pins s σ H Q I hw;refine wpAny_isTrue_Compare1 (JJ (h pins s σ H _ I hw) fun v s1 h1=>JJ h1 fun u s2 h2=>JJ h2 fun c s3 ⟨x,H1,I1,r1,q1⟩=>?_) h1;obtain ⟨d,rfl,q⟩:=q1;cases r1;exact wpAny_truthy_bool ⟨H1,I1,q⟩
theorem JcF {e:Expr} {t:TE} (h:PE X e t) (he:∀ whole,isTrue e X.env whole=(do let v ← whole; standAt e.pos; holding [v] (truthy v)):=by intro _; rfl):PT X e (tB t):=by
 intro pins s σ H Q I hw;refine isTrue_plain (JJ (h pins s σ H _ I hw) fun v s1 ⟨x,H1,I1,r1,q1⟩=>?_) (he _);obtain ⟨d,rfl,q⟩:=q1;cases r1;exact wpAny_truthy_bool ⟨H1,I1,q⟩
variable {tA tB':TT} {rest:List Expr}
def Jpe (t u:TT):TT:=fun σ H Q=>t σ H fun c H1=>if c=true then u σ H1 Q else Q false H1
def tOr (t u:TT):TT:=fun σ H Q=>t σ H fun c H1=>if c=true then Q true H1 else u σ H1 Q
def Jo6 (t:TT):TT:=fun σ H Q=>t σ H fun c H1=>Q (!c) H1
theorem Jgl (ha:PT X a tA):PW X (.BoolOp .And [a] pos) tA:=by
 intro wh pins s σ H Q I h;refine isTrue_and (JJ (ha pins s σ H Q I h) fun c s1 e=>?_);cases c with
 | true=>exact isTrue_and_nil e
 | false=>exact e
theorem JbM (ha:PT X a tA):PW X (.BoolOp .Or [a] pos) tA:=by
 intro wh pins s σ H Q I h;refine isTrue_or (JJ (ha pins s σ H Q I h) fun c s1 e=>?_);cases c with
 | false=>exact isTrue_or_nil e
 | true=>exact e
theorem JhV (ha:PT X a tA) (hb:PW X (.BoolOp .And (b :: rest) pos) tB'):PW X (.BoolOp .And (a :: b :: rest) pos) (Jpe tA tB'):=by
 intro wh pins s σ H Q I h;refine isTrue_and (JJ (ha pins s σ H _ I h) fun c s1 ⟨H1,I1,q1⟩=>?_);cases c with
 | true=>exact hb wh pins s1 σ H1 Q I1 q1
 | false=>exact ⟨H1,I1,q1⟩
theorem Jcg (ha:PT X a tA) (hb:PW X (.BoolOp .Or (b :: rest) pos) tB'):PW X (.BoolOp .Or (a :: b :: rest) pos) (tOr tA tB'):=by
 intro wh pins s σ H Q I h;refine isTrue_or (JJ (ha pins s σ H _ I h) fun c s1 ⟨H1,I1,q1⟩=>?_);cases c with
 | true=>exact ⟨H1,I1,q1⟩
 | false=>exact hb wh pins s1 σ H1 Q I1 q1
theorem JfB (ha:PT X a tA):PT X (.UnaryOp .Not a pos) (Jo6 tA):=by
 intro pins s σ H Q I h;exact isTrue_not (ha pins s σ H (fun c H1=>Q (!c) H1) I h)
def Jow (ta tb:TE):TE:=fun σ H Q=>ta σ H fun x H1=>∃ c,x=.bl c∧if c=true then tb σ H1 Q else Q (.bl false) H1
def Joo (ta:TE):TE:=fun σ H Q=>ta σ H fun x H1=>∃ c,x=.bl c∧Q (.bl (!c)) H1
theorem Jh0 {op} {t:TE} (h:PE X a t):PE X (.BoolOp op [a] pos) t:=fun pins s σ H Q I hw=>BoolOp_one (h pins s σ H Q I hw)
theorem Jh2 (ha:PE X a ta) (hb:PE X (.BoolOp .And (b :: rest) pos) tb):PE X (.BoolOp .And (a :: b :: rest) pos) (Jow ta tb):=by
 intro pins s σ H Q I h;refine BoolOp_and (JJ (ha pins s σ H _ I h) fun v s1 ⟨x,H1,I1,r1,q1⟩=>?_);obtain ⟨c,rfl,q1⟩:=q1;cases r1;refine wpAny_truthy_bool ?_;cases c with
 | true=>exact hb pins s1 σ H1 Q I1 q1
 | false=>exact ⟨.bl false,H1,I1,rfl,q1⟩
theorem JnR (ha:PE X a ta):PE X (.UnaryOp .Not a pos) (Joo ta):=by
 intro pins s σ H Q I h;refine UnaryOp_ (JJ (ha pins s σ H _ I h) fun v s1 ⟨x,H1,I1,r1,q1⟩=>?_);obtain ⟨c,rfl,q1⟩:=q1;cases r1;exact not_of (wpAny_truthy_bool ⟨.bl (!c),H1,I1,rfl,q1⟩)
def tIf (t:TT) (ta tb:TE):TE:=fun σ H Q=>t σ H fun c H1=>if c=true then ta σ H1 Q else tb σ H1 Q
theorem JcK {c:Expr} (hc:PT X c tA) (ha:PE X a ta) (hb:PE X b tb):PE X (.IfExp c a b pos) (tIf tA ta tb):=by
 intro pins s σ H Q I h;refine wpAny_IfExp (JJ (hc pins s σ H _ I h) fun d s1 ⟨H1,I1,q1⟩=>?_);cases d with
 | true=>exact ha pins s1 σ H1 Q I1 q1
 | false=>exact hb pins s1 σ H1 Q I1 q1
end
end L2
namespace L2
open PySem PySem.Spec PyProof.Rows
def Jq (K:PySem.W.Frag) (H:Hp) (a:Addr) (xs:List V):Prop :=
 Rd H a (.lst xs) ∨
  ∃ (o:Obj) (its:Array Value) (n:Nat),K.lookup a=some o∧o.cls=.type "list"∧o.dict=none∧o.data=.seq its n∧its.size≤sizeLine∧Jt xs its.toList
def J0 (K:PySem.W.Frag) (H:Hp) (a:Addr) (xs:List V):Prop :=
 Rd H a (.tup xs) ∨
  ∃ (o:Obj) (its:Array Value) (n:Nat),K.lookup a=some o∧o.cls=.type "tuple"∧o.data=.seq its n∧its.size≤sizeLine∧Jt xs its.toList
def Jpp:Value→Option V
 | .none=>some .non
 | .bool b=>some (.bl b)
 | .int i _=>some (.int i)
 | .str x _=>some (.str x)
 | .bytes b _=>some (.byt b)
 | .float b _=>some (.flt b)
 | .ref a=>some (.ref a)
 | .type n=>some (.ty n)
 | _=>none
theorem JF.abs {x:V} {u:Value} (r:JF x u):Jpp u=some x:=by
 cases x with
 | non=>cases r; rfl
 | bl _=>cases r; rfl
 | int _=>obtain ⟨t,rfl⟩:=r; rfl
 | str _=>obtain ⟨t,rfl⟩:=r; rfl
 | byt _=>obtain ⟨t,rfl⟩:=r; rfl
 | flt _=>obtain ⟨t,rfl⟩:=r; rfl
 | ref _=>cases r; rfl
 | ty _=>cases r; rfl
theorem JF.inj {x y:V} {u:Value} (r:JF x u) (q:JF y u):x=y:=Option.some.inj (r.abs.symm.trans q.abs)
theorem Jt.inj:∀ {xs ys:List V} {us:List Value},Jt xs us→Jt ys us→xs=ys
 | _,_,_,.nil,.nil=>rfl
 | _,_,_,.cons r t,.cons r' t'=>by rw [r.inj r',Jt.inj t t']
section
variable {X:Cx} {pins:List (Addr×Obj)} {σ:St} {H:Hp} {s:Shared} {a:Addr} {xs ys:List V}
theorem Jq.of {K:PySem.W.Frag} (h:H a=some (.lst xs)):Jq K H a xs:=.inl (.inl h)
theorem J0.of {K:PySem.W.Frag} (h:H a=some (.tup xs)):J0 K H a xs:=.inl (.inl h)
theorem Jk.list (I:Jk X pins σ H s) (h:Jq X.K H a xs):∃ its:List Value,Jt xs its∧PlainL s.heap a its.toArray∧xs.length≤sizeLine:=by
 rcases h with h | ⟨o,its,n,hk,hc,hd,hs,hz,r⟩
 ·obtain ⟨z,its,n,r,e⟩:=h.ok I.hok;exact ⟨its,r,⟨_,n,e,rfl,rfl,rfl⟩,z⟩
 ·refine ⟨its.toList,r,⟨o,n,I.kIn a o hk,hc,hd,by simpa using hs⟩,?_⟩;have e:=r.length;simp only [Array.length_toList] at e;omega
theorem Jk.tuple (I:Jk X pins σ H s) (h:J0 X.K H a xs):∃ its:List Value,Jt xs its∧IsTup s.heap a its.toArray∧xs.length≤sizeLine:=by
 rcases h with h | ⟨o,its,n,hk,hc,hs,hz,r⟩
 ·obtain ⟨z,its,r,p⟩:=h.ok I.hok;exact ⟨its,r,p,z⟩
 ·refine ⟨its.toList,r,⟨o,I.kIn a o hk,hc,n,by simpa using hs⟩,?_⟩;have e:=r.length;simp only [Array.length_toList] at e;omega
theorem Jk.list_inj (I:Jk X pins σ H s) (h:Jq X.K H a xs) (h':Jq X.K H a ys):xs=ys:=by
 obtain ⟨its,r,⟨o,n,e,_,_,d⟩,_⟩:=I.list h;obtain ⟨its',r',⟨o',n',e',_,_,d'⟩,_⟩:=I.list h';rw [e] at e'; cases e';rw [d] at d';injection d' with d1 _;have:its=its':=by simpa using congrArg Array.toList d1
 subst this;exact r.inj r'
theorem Jk.tuple_inj (I:Jk X pins σ H s) (h:J0 X.K H a xs) (h':J0 X.K H a ys):xs=ys:=by
 obtain ⟨its,r,⟨o,e,_,n,d⟩,_⟩:=I.tuple h;obtain ⟨its',r',⟨o',e',_,n',d'⟩,_⟩:=I.tuple h';rw [e] at e'; cases e';rw [d] at d';injection d' with d1 _;have:its=its':=by simpa using congrArg Array.toList d1
 subst this;exact r.inj r'
end
abbrev Cx.wish (X:Cx) (E:Value→Shared→Prop):Cx:={ X with xe:=E }
abbrev Cx.nox (X:Cx):Cx:=X.wish fun _ _=>False
theorem Cx.Ok.wish {X:Cx} (ok:X.Ok) (E:Value→Shared→Prop):(X.wish E).Ok :=
 ⟨ok.mod,ok.kind,ok.glob,ok.blt,ok.above,ok.inj,ok.has,ok.cab,ok.hd,ok.frames,ok.stk,ok.exf,ok.bs,ok.bsz,ok.noex,ok.exfs,ok.funs,ok.frf⟩
theorem Cx.Ok.unwish {X:Cx} {E:Value→Shared→Prop} (ok:(X.wish E).Ok):X.Ok :=
 ⟨ok.mod,ok.kind,ok.glob,ok.blt,ok.above,ok.inj,ok.has,ok.cab,ok.hd,ok.frames,ok.stk,ok.exf,ok.bs,ok.bsz,ok.noex,ok.exfs,ok.funs,ok.frf⟩
section
variable {X:Cx} {pins:List (Addr×Obj)} {σ:St} {H:Hp} {s:Shared} {E:Value→Shared→Prop}
theorem Jk.wish (I:Jk X pins σ H s) (E:Value→Shared→Prop):Jk (X.wish E) pins σ H s:=⟨I.ok.wish E,I.os,I.bare,I.base,I.loc,I.cell,I.free,I.freeC,I.pin,I.hok,I.len⟩
theorem Jk.unwish (I:Jk (X.wish E) pins σ H s):Jk X pins σ H s:=⟨I.ok.unwish,I.os,I.bare,I.base,I.loc,I.cell,I.free,I.freeC,I.pin,I.hok,I.len⟩
theorem SP.unwish {D:Jeu} {f:Flow} {s':Shared} (h:SP (X.wish E) pins D f s'):SP X pins D f s':=by
 cases f with
 | next=>obtain ⟨σ',H',I,q⟩:=h; exact ⟨σ',H',I.unwish,q⟩
 | brk=>obtain ⟨σ',H',I,q⟩:=h; exact ⟨σ',H',I.unwish,q⟩
 | cont=>obtain ⟨σ',H',I,q⟩:=h; exact ⟨σ',H',I.unwish,q⟩
 | ret u=>obtain ⟨v,σ',H',I,r,q⟩:=h; exact ⟨v,σ',H',I.unwish,r,q⟩
theorem PE.nox {e:Expr} {t:TE} (h:PE X.nox e t):PE X e t:=fun pins s σ H Q I hw =>
 wpAny_mono (h pins s σ H Q (I.wish _) hw) (fun _ _ ⟨v,H',I',r,q⟩=>⟨v,H',I'.unwish,r,q⟩) fun _ _ z=>False.elim z
theorem PT.nox {e:Expr} {t:TT} (h:PT X.nox e t):PT X e t:=fun pins s σ H Q I hw =>
 wpAny_mono (h pins s σ H Q (I.wish _) hw) (fun _ _ ⟨H',I',q⟩=>⟨H',I'.unwish,q⟩) fun _ _ z=>False.elim z
theorem PSs.nox {st:List Stmt} {t:TS} (h:PSs X.nox st t):PSs X st t:=fun pins s σ H D I hw =>
 wpAny_mono (h pins s σ H D (I.wish _) hw) (fun _ _ q=>q.unwish) fun _ _ z=>False.elim z
end
section
variable {X:Cx} {st:Stmt} {rest:List Stmt} {t u:TS} {e:Expr} {te:TE} {pos:Pos}
def Joq:TS:=fun D σ H=>D.nx σ H
def Jo4 (t u:TS):TS:=fun D σ H=>@Jeu.rec (fun _=>Prop) (fun nx rt bk ct=>t ⟨u ⟨nx,rt,bk,ct⟩,rt,bk,ct⟩ σ H) D
theorem Jw:PSs X [] Joq:=fun _ _ σ H _ I h=>wpAny_execs_nil ⟨σ,H,I,h⟩
theorem Jd (h1:PS X st t) (h2:PSs X rest u):PSs X (st :: rest) (Jo4 t u):=by
 intro pins s σ H D I h;refine wpAny_execs_cons (JJ (h1 pins s σ H { D with nx:=u D } I h) fun f s1 q=>?_);cases f with
 | next =>
  obtain ⟨σ',H',I',q⟩:=q;exact h2 pins s1 σ' H' D I' q
 | ret v=>exact q
 | brk=>exact q
 | cont=>exact q
theorem Jh (h1:PS X st t):PSs X [st] t:=by
 intro pins s σ H D I h;refine wpAny_execs_cons (JJ (h1 pins s σ H D I h) fun f s1 q=>?_);cases f with
 | next=>exact wpAny_execs_nil q
 | ret v=>exact q
 | brk=>exact q
 | cont=>exact q
def Jnw:TS:=fun D σ H=>D.bk σ H
theorem JlM:PS X (.Break pos) Jnw:=fun _ _ σ H _ I h=>wpAny_Break ⟨σ,H,I,h⟩
theorem Jk.quiet {pins:List (Addr×Obj)} {σ:St} {H:Hp} {s:Shared} (I:Jk X pins σ H s):interactive X.env=false:=by simp [interactive,I.ok.kind]
def Jot (te:TE):TS:=fun D σ H=>te σ H fun _ H1=>D.nx σ H1
theorem Jy (he:PE X e te) (hs:swapsWith e none pos.line X.env=pure false:=by rfl):PS X (.Expr e pos) (Jot te):=by
 intro pins s σ H D I h;exact wpAny_Expr_any (JJ (he pins s σ H _ I h) fun v s1 ⟨x,H1,I1,r1,q1⟩=>⟨σ,H1,I1,q1⟩) I.quiet hs
def Jo5 (te:TE):TS:=fun D σ H=>te σ H D.rt
theorem JA (he:PE X e te):PS X (.Return (some e) pos) (Jo5 te):=by
 intro pins s σ H D I h;exact wpAny_Return_some (JJ (he pins s σ H _ I h) fun v s1 ⟨x,H1,I1,r1,q1⟩=>⟨x,σ,H1,I1,r1,q1⟩)
def Jpb (c:TT) (t u:TS):TS:=fun D σ H=>c σ H fun b H1=>if b=true then t D σ H1 else u D σ H1
theorem JN {c:Expr} {a b:List Stmt} {tc:TT} (hc:PT X c tc) (ha:PSs X a t) (hb:PSs X b u):PS X (.If c a b pos) (Jpb tc t u):=by
 intro pins s σ H D I h;refine wpAny_If (JJ (hc pins s σ H _ I h) fun d s1 ⟨H1,I1,q1⟩=>?_);cases d with
 | true=>exact ha pins s1 σ H1 D I1 q1
 | false=>exact hb pins s1 σ H1 D I1 q1
def Jnt:TS:=fun _ _ _=>False
theorem JdI:PS X st Jnt:=fun _ _ _ _ _ _ h=>h.elim
end
abbrev TG:=V→St→Hp→(St→Hp→Prop)→Prop
abbrev TGs:=List V→St→Hp→(St→Hp→Prop)→Prop
def PG (X:Cx) (target:Expr) (t:TG):Prop :=
 ∀ (pins:List (Addr×Obj)) (s:Shared) (σ:St) (H:Hp) (v:V) (u:Value) (Q:St→Hp→Prop),Jk X pins σ H s→JF v u→t v σ H Q →
  wpAny (model X.prog X.w) X.A (assign target X.env u) (fun _ s'=>∃ σ' H',Jk X pins σ' H' s'∧Q σ' H') X.xe s
def PGs (X:Cx) (ts:List Expr) (t:TGs):Prop :=
 ∀ (pins:List (Addr×Obj)) (s:Shared) (σ:St) (H:Hp) (vs:List V) (us:List Value) (Q:St→Hp→Prop),Jk X pins σ H s→Jt vs us→t vs σ H Q →
  wpAny (model X.prog X.w) X.A (assignInOrder ((assignEach ts X.env).map (·.2)) us) (fun _ s'=>∃ σ' H',Jk X pins σ' H' s'∧Q σ' H') X.xe s
abbrev Jmm:=V→V→V→Hp→(Hp→Prop)→Prop
def Joi (X:Cx) (t:Jmm):Prop :=
 ∀ (pins:List (Addr×Obj)) (s:Shared) (σ:St) (H:Hp) (o i v:V) (ov iv u:Value) (Q:Hp→Prop),Jk X pins σ H s→JF o ov→JF i iv→JF v u→t o i v H Q →
  wpAny (model X.prog X.w) X.A (setItem ov iv u) (fun _ s'=>∃ H',Jk X pins σ H' s'∧Q H') X.xe s
section
variable {X:Cx} {pos:Pos}
def ZN (i:Nat):TG:=fun v σ H Q=>Q (σ.set i (some v)) H
theorem Yj {i:Nat} {x:Str} (hN:X.N.Nodup) (hi:X.N[i]?=some x) (hx:Loc X.env.scope x) (hf:X.fn x=true∨X.env.scope.names.lookup x=some .local:=by first | exact .inl rfl | exact .inr rfl | assumption):PG X (.Name x pos) (ZN i):=by
 intro pins s σ H v u Q I r h;exact wpAny_assign_Name (JhG I hN hi hx r (fun s' I'=>⟨_,H,I',h⟩) hf)
def Jn7:TGs:=fun vs σ H Q=>vs=[]∧Q σ H
def JjE (t:TG) (u:TGs):TGs:=fun vs σ H Q=>∃ v r,vs=v :: r∧t v σ H fun σ' H'=>u r σ' H' Q
theorem Jm1:PGs X [] Jn7:=by
 intro pins s σ H vs us Q I r h;obtain ⟨e,h⟩:=h;subst e;cases r;exact assignInOrder_nil ⟨σ,H,I,h⟩
theorem JhX {e:Expr} {es:List Expr} {t:TG} {u:TGs} (h1:PG X e t) (h2:PGs X es u)
  (hs:(assignEach (e :: es) X.env).map (·.2)=assign e X.env :: (assignEach es X.env).map (·.2):=by rfl):PGs X (e :: es) (JjE t u):=by
 intro pins s σ H vs us Q I r h;obtain ⟨v,vr,e1,h⟩:=h;subst e1;cases r with
 | cons r rr =>
  rw [hs];refine assignInOrder_cons (JJ (h1 pins s σ H _ _ _ I r h) fun _ s1 ⟨σ1,H1,I1,q1⟩=>?_);exact h2 pins s1 σ1 H1 _ _ Q I1 rr q1
def Jl9 (K:PySem.W.Frag) (n:Nat) (t:TGs):TG:=fun v σ H Q=>∃ a xs,v=.ref a∧J0 K H a xs∧xs.length=n∧t xs σ H Q
theorem JnP {es:List Expr} {k:Nat} {t:TGs} {n:Nat} (hc:X.calm=true) (h:PGs X es t)
  (hn:(assignEach es X.env).length=n:=by rfl) (hst:(assignEach es X.env).findIdx? (·.1)=none:=by rfl):PG X (.Tuple es k pos) (Jl9 X.K n t):=by
 intro pins s σ H v u Q I r hw;obtain ⟨a,xs,e1,hq,hl,hw⟩:=hw;subst e1;cases r;obtain ⟨its,rv,ht,hz⟩:=I.tuple hq;refine assign_Tuple_tuple (I.ok.hd hc) ht (by simp [hn,← hl,rv.length]) hst fun h' hx=>?_
 have I1:Jk X pins σ H { s with heap:=h' }:=I.kept (t':=s.toks) fun b o e=>hx b o (Nat.ne_of_lt (Heap.lt_size e)) e
 exact h pins _ σ H xs _ Q I1 (by simpa using rv) hw
def Jpo (to ti:TE) (t:Jmm):TG:=fun v σ H Q=>to σ H fun o H1=>ti σ H1 fun i H2=>t o i v H2 fun H3=>Q σ H3
theorem JnQ {o i:Expr} {to ti:TE} {t:Jmm} (ho:PE X o to) (hi:PE X i ti) (hs:Joi X t)
  (ha:∀ v,assign (.Subscript o i pos) X.env v=(do
   let ov ← holding [v] (eval o X.env);let iv ← holding [v,ov] (eval i X.env)
   standAt pos
   holding [v,ov,iv] (setItem ov iv v)
   release [v,ov,iv] []):=by intro _; rfl):PG X (.Subscript o i pos) (Jpo to ti t):=by
 intro pins s σ H v u Q I r h;rw [ha];refine wpAny_bind (wpAny_holding (JJ (ho pins s σ H _ I h) fun ov s1 ⟨x,H1,I1,r1,q1⟩=>?_));refine wpAny_bind (wpAny_holding (JJ (hi pins s1 σ H1 _ I1 q1) fun iv s2 ⟨y,H2,I2,r2,q2⟩=>?_));refine wpAny_bind (wpAny_standAt (wpAny_bind (wpAny_holding (JJ (hs pins s2 σ H2 x y v ov iv u _ I2 r1 r2 r q2) fun _ s3 ⟨H3,I3,q3⟩=>?_))));exact wpAny_release ⟨σ,H3,I3,q3⟩
def Jld (te:TE) (g:TG):TS:=fun D σ H=>te σ H fun x H1=>g x σ H1 D.nx
theorem JnO {tg e:Expr} {te:TE} {g:TG} (he:PE X e te) (hg:PG X tg g) (hs:swapsWithSole [tg] e pos.line X.env=pure false:=by rfl) (hw:swappedStores [tg] e X.env=pure none:=by rfl)
  (h1:(assignEach [tg] X.env).map (·.2)=[assign tg X.env]:=by rfl):PS X (.Assign [tg] e pos) (Jld te g):=by
 intro pins s σ H D I h;refine wpAny_Assign_stores (JJ (he pins s σ H _ I h) fun v s1 ⟨x,H1,I1,r1,q1⟩=>?_) hs hw;rw [h1];exact JJ (hg pins s1 σ H1 x v _ I1 r1 q1) fun _ s2 q=>q
theorem Ju {i:Nat} {x:Str} {e:Expr} {te:TE} {pos':Pos} (hN:X.N.Nodup) (hi:X.N[i]?=some x) (hx:Loc X.env.scope x) (he:PE X e te) (hs:swapsWith e (some (.Name x pos')) pos.line X.env=pure false:=by rfl) (hf:X.fn x=true∨X.env.scope.names.lookup x=some .local:=by first | exact .inl rfl | exact .inr rfl | assumption) :
  PS X (.Assign [.Name x pos'] e pos) (Jld te (ZN i)):=by
 intro pins s σ H D I h;refine wpAny_Assign_Name (JJ (he pins s σ H _ I h) fun v s1 ⟨y,H1,I1,r1,q1⟩=>?_) hs;exact JhG I1 hN hi hx r1 (fun s2 I2=>⟨_,H1,I2,q1⟩) hf
end
structure It where
 go:Nat→Hp→Prop
 yld:Nat→Hp→V→Hp→Prop
 stop:Nat→Hp→Prop
def JcZ (X:Cx) (pins:List (Addr×Obj)) (H:Hp) (b:Addr):Prop :=
 H b=none∧b≠X.env.locals∧b∉X.fs∧(b∈X.ex∨X.s₀.heap.objs.size≤b)∧(∀ x c,X.env.cells.lookup x=some c→c≠b)∧∀ p∈X.pn ++ pins,p.1≠b
theorem Jk.fpOk {X:Cx} {pins:List (Addr×Obj)} {σ:St} {H H':Hp} {s:Shared} {b:Addr} (I:Jk X pins σ H s) (hb:s.heap.objs.size≤b) (hn:H' b=none):JcZ X pins H' b:=by
 refine ⟨hn,Nat.ne_of_gt (Nat.lt_of_lt_of_le I.lt hb),I.nofs hb,.inr (Nat.le_trans I.sz hb),fun x c e z=>?_,fun p hp z=>?_⟩
 ·obtain ⟨v,q⟩:=I.cell x c e;exact absurd (Nat.lt_of_lt_of_le q.lt (by rw [z]; exact hb)) (Nat.lt_irrefl _)
 ·exact absurd (Nat.lt_of_lt_of_le (Heap.lt_size (I.pin p hp).1) (by rw [z]; exact hb)) (Nat.lt_irrefl _)
structure JgH (P:Program) (w:World) (K:PySem.W.Frag) (tg:Expr) (J:It) (fp:List Addr) (it:Addr) (tn:Nat→Heap→Prop):Prop where
 mem:it∈fp
 obj:∀ i h,tn i h→∀ b∈fp,∃ o,h.get? b=some o∧∀ v,o.data≠.cell v
 keep:∀ i h h',tn i h→(∀ b∈fp,∀ o,h.get? b=some o→h'.get? b=some o)→tn i h'
 item:∀ (X:Cx),X.prog=P→X.w=w→X.K=K→X.calm=true→∀ (i:Nat) (pins:List (Addr×Obj)) (s:Shared) (σ:St) (H:Hp) (E:Value→Shared→Prop),Jk X pins σ H s→(∀ b∈fp,JcZ X pins H b)→tn i s.heap→J.go i H →
  wpAny (model P w) X.A (pyNext (.ref it)) (fun r s1=>∃ u,r=some u ∧
   wpAny (model P w) X.A (letOwnedTupleGo tg (.ref it) u) (fun _ s2=>∃ x H',Jk X pins σ H' s2∧JF x u∧J.yld i H x H'∧tn (i + 1) s2.heap∧∀ b∈fp,H' b=none) E s1) E s
 done:∀ (X:Cx),X.prog=P→X.w=w→X.K=K→X.calm=true→∀ (i:Nat) (pins:List (Addr×Obj)) (s:Shared) (σ:St) (H:Hp) (E:Value→Shared→Prop),Jk X pins σ H s→(∀ b∈fp,JcZ X pins H b)→tn i s.heap→J.stop i H →
  wpAny (model P w) X.A (pyNext (.ref it)) (fun r s1=>r=none∧Jk X pins σ H s1) E s
 self:∀ (A:Around) (i:Nat) (s:Shared) (Q:Value→Shared→Prop) (E:Value→Shared→Prop),tn i s.heap→Q (.ref it) s→wpAny (model P w) A (pyIter (.ref it)) Q E s
abbrev TI:=St→Hp→(It→Hp→Prop)→Prop
def PIE (X:Cx) (pins:List (Addr×Obj)) (σ:St) (tg:Expr) (R:It→Hp→Prop) (itv:Value) (s2:Shared):Prop :=
 ∃ (it:Addr) (fp:List Addr) (tn:Nat→Heap→Prop) (J:It) (H':Hp),itv=.ref it∧Jk X pins σ H' s2∧JgH X.prog X.w X.K tg J fp it tn∧tn 0 s2.heap∧(∀ b∈fp,JcZ X pins H' b)∧R J H'
def PI (X:Cx) (tg iter:Expr) (wi:TI):Prop :=
 ∀ (pins:List (Addr×Obj)) (s:Shared) (σ:St) (H:Hp) (R:It→Hp→Prop),Jk X pins σ H s→wi σ H R →
  wpAny (model X.prog X.w) X.A (eval iter X.env) (fun v s1=>wpAny (model X.prog X.w) X.A (pyIter v) (PIE X pins σ tg R) X.xe s1) X.xe s
theorem JhA {M:Model} {A:Around} {E:Value→Shared→Prop} {s:Shared} {tg:Expr} {it:Addr} {u:Value} {o:Obj} {n:String} {vs:Array Value} {Q:Unit→Shared→Prop} (ho:s.heap.get? it=some o) (hc:o.cls=.type n) (hd:o.data=.fields vs)
    (hn:["enumerate", "zip", "dict_itemiterator", "dict_reverseitemiterator", "odict_iterator", "itertools.zip_longest", "itertools.pairwise"].contains n=false) (hQ:Q () s):wpAny M A (letOwnedTupleGo tg (.ref it) u) Q E s:=by
  unfold letOwnedTupleGo;cases tg <;> first
    | exact wpAny_pure hQ
    | (cases u <;> first
        | exact wpAny_pure hQ
        | (refine wpAny_bind (wpAny_load ho ?_)
           rw [hc,hd];show wpAny M A (if (["enumerate", "zip", "dict_itemiterator", "dict_reverseitemiterator", "odict_iterator", "itertools.zip_longest", "itertools.pairwise"].contains n && vs[0]? == some (rawInt _))=true then _ else _) Q E s;rw [if_neg (by intro h; rw [hn,Bool.false_and] at h; cases h)];exact wpAny_pure hQ))
def Itl (K:PySem.W.Frag) (a:Addr):It :=
 ⟨fun i H=>∃ xs x,Jq K H a xs∧xs[i]?=some x,fun i H x H'=>H'=H∧∀ xs,Jq K H a xs→xs[i]?=some x,fun i H=>∃ xs,Jq K H a xs∧xs.length≤i⟩
def Itt (K:PySem.W.Frag) (a:Addr):It :=
 ⟨fun i H=>∃ xs x,J0 K H a xs∧xs[i]?=some x,fun i H x H'=>H'=H∧∀ xs,J0 K H a xs→xs[i]?=some x,fun i H=>∃ xs,J0 K H a xs∧xs.length≤i⟩
def Itr (lo:Int) (n:Nat):It:=⟨fun i _=>i < n,fun i H x H'=>H'=H∧x=.int (lo + i),fun i _=>n≤i⟩
theorem JjX {P:Program} {w:World} {K:PySem.W.Frag} {tg:Expr} (a it:Addr):JgH P w K tg (Itl K a) [it] it (fun i h=>h.IsListIter it a i) where
 mem:=by simp
 obj:=fun i h st b hb=>by
  have e:b=it:=by simpa using hb
  subst e;obtain ⟨o,e,c,d⟩:=st;exact ⟨o,e,fun v z=>by rw [d] at z; cases z⟩
 keep:=fun i h h' st k=>st.at fun o e=>k it (by simp) o e
 item:=by
  intro X hP hw hK hc i pins s σ H E I hf st hg;subst hP hw hK;obtain ⟨xs,x,hq,hx⟩:=hg;obtain ⟨its,rv,p,hz⟩:=I.list hq;obtain ⟨u,hu,ru⟩:=rv.get hx;obtain ⟨f0,f1,f2,f3,f4,f5⟩:=hf it (by simp);refine wpAny_pyNext_list_item st p.isList (x:=u) (by simpa using hu) fun h' st' sb=>?_
  have I1:Jk X pins σ H { s with heap:=h' }:=I.turned (t':=s.toks) (fun b o hb e=>(sb.2 b hb).trans e) f0 f1 f3 f4 f5;obtain ⟨o,e,c,d⟩:=id st';exact ⟨u,rfl,JhA (s:={ s with heap:=h' }) e c d (by decide) ⟨x,H,I1,ru,⟨rfl,fun ys hy=>by rw [I.list_inj hy hq]; exact hx⟩,st',fun b hb=>(hf b hb).1⟩⟩
 done:=by
  intro X hP hw hK hc i pins s σ H E I hf st hg;subst hP hw hK;obtain ⟨xs,hq,hx⟩:=hg;obtain ⟨its,rv,p,hz⟩:=I.list hq;obtain ⟨f0,f1,f2,f3,f4,f5⟩:=hf it (by simp);have hl:=rv.length;exact wpAny_pyNext_list_end (I.ok.hd hc) st p.isList (by simp; omega) fun h' eb=>⟨rfl,I.turned (t':=s.toks) (fun b o hb e=>eb b o hb e) f0 f1 f3 f4 f5⟩
 self:=fun _ _ _ _ _ st h=>wpAny_pyIter_listiter st h
theorem Jjb {P:Program} {w:World} {K:PySem.W.Frag} {tg:Expr} (a it:Addr):JgH P w K tg (Itt K a) [it] it (fun i h=>h.IsTupleIter it a i) where
 mem:=by simp
 obj:=fun i h st b hb=>by
  have e:b=it:=by simpa using hb
  subst e;obtain ⟨o,e,c,d⟩:=st;exact ⟨o,e,fun v z=>by rw [d] at z; cases z⟩
 keep:=fun i h h' st k=>st.at fun o e=>k it (by simp) o e
 item:=by
  intro X hP hw hK hc i pins s σ H E I hf st hg;subst hP hw hK;obtain ⟨xs,x,hq,hx⟩:=hg;obtain ⟨its,rv,p,hz⟩:=I.tuple hq;obtain ⟨u,hu,ru⟩:=rv.get hx;obtain ⟨f0,f1,f2,f3,f4,f5⟩:=hf it (by simp);refine wpAny_pyNext_tuple_item st (show s.heap.IsTuple a its.toArray from p) (x:=u) (by simpa using hu) fun h' st' sb=>?_
  have I1:Jk X pins σ H { s with heap:=h' }:=I.turned (t':=s.toks) (fun b o hb e=>(sb.2 b hb).trans e) f0 f1 f3 f4 f5;obtain ⟨o,e,c,d⟩:=id st';exact ⟨u,rfl,JhA (s:={ s with heap:=h' }) e c d (by decide) ⟨x,H,I1,ru,⟨rfl,fun ys hy=>by rw [I.tuple_inj hy hq]; exact hx⟩,st',fun b hb=>(hf b hb).1⟩⟩
 done:=by
  intro X hP hw hK hc i pins s σ H E I hf st hg;subst hP hw hK;obtain ⟨xs,hq,hx⟩:=hg;obtain ⟨its,rv,p,hz⟩:=I.tuple hq;obtain ⟨f0,f1,f2,f3,f4,f5⟩:=hf it (by simp);have hl:=rv.length;exact wpAny_pyNext_tuple_end (I.ok.hd hc) st (show s.heap.IsTuple a its.toArray from p) (by simp; omega) fun h' eb=>⟨rfl,I.turned (t':=s.toks) (fun b o hb e=>eb b o hb e) f0 f1 f3 f4 f5⟩
 self:=fun _ _ _ _ _ st h=>wpAny_pyIter_tupleiter st h
theorem Jjc {P:Program} {w:World} {K:PySem.W.Frag} {tg:Expr} (it:Addr) (lo:Int) (n:Nat):JgH P w K tg (Itr lo n) [it] it (fun i h=>IsRangeIter h it (lo + (i:Nat) * 1) ((n:Int) - (i:Nat)) 1) where
 mem:=by simp
 obj:=fun i h st b hb=>by
  have e:b=it:=by simpa using hb
  subst e;exact ⟨_,st,fun v z=>by
   have z':Data.fields _=Data.cell v:=z;cases z'⟩
 keep:=fun i h h' st k=>k it (by simp) _ st
 item:=by
  intro X hP hw hK hc i pins s σ H E I hf st hg;subst hP hw hK;obtain ⟨f0,f1,f2,f3,f4,f5⟩:=hf it (by simp);have W:=Walks.range (prog:=X.prog) (w:=X.w) (I.ok.hd hc) it lo 1 n;refine W.item i s _ _ hg st fun v h' tk hv st' kk=>?_
  obtain ⟨t,rfl⟩:=hv;have I1:Jk X pins σ H { s with heap:=h',toks:=tk }:=I.turned (fun b o hb e=>kk b o (by simpa using hb) e) f0 f1 f3 f4 f5;refine ⟨_,rfl,JhA (s:={ s with heap:=h',toks:=tk }) (n := "range_iterator") st' rfl rfl (by decide) ⟨.int (lo + i),H,I1,⟨t,?_⟩,⟨rfl,rfl⟩,st',fun b hb=>(hf b hb).1⟩⟩;rw [Int.mul_one]
 done:=by
  intro X hP hw hK hc i pins s σ H E I hf st hg;subst hP hw hK;obtain ⟨f0,f1,f2,f3,f4,f5⟩:=hf it (by simp);exact wpAny_pyNext_range_end (I.ok.hd hc) st (by have:n≤i:=hg; omega) fun h' eb=>⟨rfl,I.turned (t':=s.toks) (fun b o hb e=>eb b o hb e) f0 f1 f3 f4 f5⟩
 self:=fun _ _ _ _ _ st h=>wpAny_pyIter_rangeiter st h
end L2
namespace L2
open PySem PySem.Spec PyProof.Rows
section
variable {X:Cx} {tg:Expr}
def JoL (K:PySem.W.Frag) (tl:TE):TI:=fun σ H R=>tl σ H fun x H1=>∃ a,x=.ref a∧(∃ xs,Jq K H1 a xs)∧R (Itl K a) H1
def Jpm (K:PySem.W.Frag) (tl:TE):TI:=fun σ H R=>tl σ H fun x H1=>∃ a,x=.ref a∧(∃ xs,J0 K H1 a xs)∧R (Itt K a) H1
theorem Yv {l:Expr} {tl:TE} (hl:PE X l tl):PI X tg l (JoL X.K tl):=by
 intro pins s σ H R I h;refine JJ (hl pins s σ H _ I h) fun v s1 ⟨x,H1,I1,r1,q1⟩=>?_
 obtain ⟨a,e,⟨xs,hq⟩,q⟩:=q1;subst e;cases r1;obtain ⟨its,rv,p,hz⟩:=I1.list hq;refine wpAny_pyIter_list p.isList ?_;refine ⟨s1.heap.objs.size,[s1.heap.objs.size],_,_,H1,rfl,I1.kept (t':=s1.toks) fun b o e=>Heap.get?_push_of_some _ e,JjX a _,⟨_,Heap.get?_push_size _ rfl,rfl,rfl⟩,fun b hb=>?_,q⟩;have e:b=s1.heap.objs.size:=by simpa using hb
 subst e;exact I1.fpOk (Nat.le_refl _) (I1.hok.fresh (Nat.le_refl _))
theorem JcI {l:Expr} {tl:TE} (hl:PE X l tl):PI X tg l (Jpm X.K tl):=by
 intro pins s σ H R I h;refine JJ (hl pins s σ H _ I h) fun v s1 ⟨x,H1,I1,r1,q1⟩=>?_
 obtain ⟨a,e,⟨xs,hq⟩,q⟩:=q1;subst e;cases r1;obtain ⟨its,rv,p,hz⟩:=I1.tuple hq;refine wpAny_pyIter_tuple (show s1.heap.IsTuple a its.toArray from p) ?_;refine ⟨s1.heap.objs.size,[s1.heap.objs.size],_,_,H1,rfl,I1.kept (t':=s1.toks) fun b o e=>Heap.get?_push_of_some _ e,Jjb a _,⟨_,Heap.get?_push_size _ rfl,rfl,rfl⟩,fun b hb=>?_,q⟩;have e:b=s1.heap.objs.size:=by simpa using hb
 subst e;exact I1.fpOk (Nat.le_refl _) (I1.hok.fresh (Nat.le_refl _))
theorem JhT {pins:List (Addr×Obj)} {σ:St} {H:Hp} {s:Shared} {R:It→Hp→Prop} {E:Value→Shared→Prop} {lo hi:Int} {t u v:Tok} {tk:Nat} (I:Jk X pins σ H s) (h1:-(2 ^ 62)≤lo) (h2:lo < 2 ^ 62) (h3:-(2 ^ 62)≤hi) (h4:hi < 2 ^ 62)
  (q:R (Itr lo (hi - lo).toNat) H):wpAny (model X.prog X.w) X.A (pyIter (.ref s.heap.objs.size)) (PIE X pins σ tg R) E { s with heap:=s.heap.push { cls:=.type "range",data:=.fields #[.int lo t,.int hi u,.int 1 v] },toks:=tk }:=by
 refine wpAny_pyIter_range (IsRange.new ..) (small_one h1 h2 h3 h4) ?_;have I1:Jk X pins σ H { s with heap:=s.heap.push { cls:=.type "range",data:=.fields #[.int lo t,.int hi u,.int 1 v] },toks:=tk }:=I.kept fun b o e=>Heap.get?_push_of_some _ e
 refine ⟨(s.heap.push { cls:=.type "range",data:=.fields #[.int lo t,.int hi u,.int 1 v] }).objs.size,[(s.heap.push { cls:=.type "range",data:=.fields #[.int lo t,.int hi u,.int 1 v] }).objs.size],_,_,H,rfl,
  I1.kept (t':=tk) fun b o e=>Heap.get?_push_of_some _ e,Jjc _ lo (hi - lo).toNat,?_,fun b hb=>?_,q⟩
 ·have e1:lo + ((0:Nat):Int) * 1=lo:=by simp
  have e2:(((hi - lo).toNat:Nat):Int) - ((0:Nat):Int)=Builtin.Range.rangeSize lo hi 1:=by rw [rangeSize_one]; split <;> omega
  show IsRangeIter _ _ (lo + ((0:Nat):Int) * 1) ((((hi - lo).toNat:Nat):Int) - ((0:Nat):Int)) 1;rw [e1,e2];exact Heap.get?_push_size _ rfl
 ·have e:b=(s.heap.push { cls:=.type "range",data:=.fields #[.int lo t,.int hi u,.int 1 v] }).objs.size:=by simpa using hb
  subst e;exact I1.fpOk (Nat.le_refl _) (I1.hok.fresh (Nat.le_refl _))
def JoK (ta:TA):TI:=fun σ H R=>ta σ H fun vs H1=>∃ j:Int,vs=[.int j]∧-(2 ^ 62)≤j∧j < 2 ^ 62∧R (Itr 0 j.toNat) H1
def JoJ (ta:TA):TI:=fun σ H R=>ta σ H fun vs H1=>∃ i j:Int,vs=[.int i,.int j]∧(-(2 ^ 62)≤i∧i < 2 ^ 62∧-(2 ^ 62)≤j∧j < 2 ^ 62)∧R (Itr i (j - i).toNat) H1
theorem Jah {a:Expr} {ta:TA} {p pos:Pos} (hg:Gl X "range") (hm:X.mg "range" = none) (ha:PA X [a] ta) (hs:starEach [a] X.env=[(false,eval a X.env)]:=by rfl):PI X tg (.Call (.Name "range" p) [a] [] pos) (JoK ta):=by
 intro pins s σ H R I h;refine Call_ (Jef I hg hm boot_range (PyProof.Rows.callWith_type1 (JJ (ha pos pins s σ H _ I h) fun us s1 ⟨vs,H1,I1,r1,q1⟩=>?_) hs rfl));obtain ⟨j,e,q1,q2,q⟩:=q1;subst e;cases r1 with
 | cons r rr =>
  cases rr;obtain ⟨t,rfl⟩:=r;exact call_range_1 (JhT I1 (by omega) (by omega) q1 q2 (by simpa using q))
theorem Jkh {a b:Expr} {ta:TA} {p pos:Pos} (hg:Gl X "range") (hm:X.mg "range" = none) (ha:PA X [a,b] ta) (hs:starEach [a,b] X.env=[(false,eval a X.env),(false,eval b X.env)]:=by rfl) (hs2:starEach [b] X.env=[(false,eval b X.env)]:=by rfl) :
  PI X tg (.Call (.Name "range" p) [a,b] [] pos) (JoJ ta):=by
 intro pins s σ H R I h;refine Call_ (Jef I hg hm boot_range (PyProof.Rows.callWith_type1 (JJ (ha pos pins s σ H _ I h) fun us s1 ⟨vs,H1,I1,r1,q1⟩=>?_) (by rw [hs,hs2]) (by rw [hs2]; rfl)));obtain ⟨i,j,e,⟨q1,q2,q3,q4⟩,q⟩:=q1;subst e;cases r1 with
 | cons r rr =>
  cases rr with
  | cons r' rr =>
   cases rr;obtain ⟨t,rfl⟩:=r;obtain ⟨t',rfl⟩:=r';exact call_range_2 (JhT I1 q1 q2 q3 q4 q)
def Jpc (wi:TI) (g:TG) (tb:TS):TS:=fun D σ H=>@Jeu.rec (fun _=>Prop) (fun dn dr _ _=>wi σ H fun J H1=>∃ W:Nat→Nat→St→Hp→Prop,(∃ m,W 0 m σ H1)∧∀ i m σ H,W i m σ H →
 (J.stop i H∧dn σ H)∨(J.go i H∧∃ N:St→Hp→Prop,(∀ σ' H',N σ' H'→∃ m',m' < m∧W (i + 1) m' σ' H')∧∀ x H',J.yld i H x H'→g x σ H' fun σ2 H2=>tb ⟨N,dr,dn,N⟩ σ2 H2)) D
def Jd3 (fp:List Addr) (h:Heap):List (Addr×Obj):=fp.filterMap fun b=>(h.get? b).map fun o=>(b,o)
theorem Jcj {fp:List Addr} {h:Heap} {b:Addr} {o:Obj} (hb:b∈fp) (e:h.get? b=some o):(b,o)∈Jd3 fp h:=List.mem_filterMap.mpr ⟨b,hb,by rw [e]; rfl⟩
theorem Jkn {fp:List Addr} {h:Heap} {p:Addr×Obj} (hp:p∈Jd3 fp h):p.1∈fp∧h.get? p.1=some p.2:=by
 obtain ⟨b,hb,e⟩:=List.mem_filterMap.mp hp;cases q:h.get? b with
 | none=>rw [q] at e; cases e
 | some o =>
  rw [q] at e;have e':(b,o)=p:=Option.some.inj e;subst e';exact ⟨hb,q⟩
theorem Jk.pinned {pins:List (Addr×Obj)} {σ:St} {H:Hp} {s:Shared} {fp:List Addr} (I:Jk X pins σ H s) (hf:∀ b∈fp,JcZ X pins H b) (ho:∀ b∈fp,∃ o,s.heap.get? b=some o∧∀ v,o.data≠.cell v):Jk X (pins ++ Jd3 fp s.heap) σ H s :=
 I.pins_of fun p hp=>(List.mem_append.mp hp).elim (fun z=>I.pin p (List.mem_append_right _ z)) fun z=>by
  obtain ⟨hb,e⟩:=Jkn z;obtain ⟨f0,f1,f2,_⟩:=hf p.1 hb;obtain ⟨o,e',d⟩:=ho p.1 hb;rw [e] at e'; cases e';exact ⟨e,f0,f1,f2,d⟩
theorem Jk.unpinned {pins pl:List (Addr×Obj)} {σ:St} {H:Hp} {s:Shared} (I:Jk X (pins ++ pl) σ H s):Jk X pins σ H s:=I.pins_of fun p hp=>I.pin p (List.mem_append_right _ (List.mem_append_left _ hp))
theorem YH {iter:Expr} {body:List Stmt} {wi:TI} {g:TG} {tb:TS} {pos:Pos} (hp:PassesOwn (model X.prog X.w) X.A X.env X.xe) (hc:X.calm=true) (hi:PI X tg iter wi) (hg:PG X tg g) (hb:PSs X body tb)
  (hs:∀ x,foldedSetIterable iter X.env x=pure x:=by intro _; rfl):PS X (.For tg iter body [] pos) (Jpc wi g tb):=by
 intro pins s σ H D I h;refine wpAny_For (JJ (hi pins s σ H _ I h) fun v s1 h1=>JJ h1 fun itv s2 h2=>?_) hs;obtain ⟨it,fp,tn,J,H2,e,I2,T,st2,f2,W,⟨m0,w0⟩,turn⟩:=h2;subst e;have stat:∀ {H':Hp},(∀ b∈fp,H' b=none)→∀ b∈fp,JcZ X pins H' b:=fun hn b hb=>⟨hn b hb,(f2 b hb).2⟩
 refine codeAny_forLoop_any (fun n s'=>∃ i σ' H',Jk X pins σ' H' s'∧tn i s'.heap∧(∀ b∈fp,H' b=none)∧W i n σ' H') ?_ m0 ⟨0,σ,H2,I2,st2,fun b hb=>(f2 b hb).1,w0⟩;rintro n s3 ⟨i,σ3,H3,I3,st3,fr3,w3⟩;rcases turn i n σ3 H3 w3 with ⟨stop,qn⟩ | ⟨go,N,hN,step⟩
 ·refine wpAny_passesOwn hp (JJ (T.done X rfl rfl rfl hc i pins s3 σ3 H3 X.xe I3 (stat fr3) st3 stop) fun r s4 ⟨hr,I4⟩=>?_);subst hr;exact wpAny_execs_nil ⟨σ3,H3,I4,qn⟩
 ·refine wpAny_passesOwn hp (JJ (T.item X rfl rfl rfl hc i pins s3 σ3 H3 X.xe I3 (stat fr3) st3 go) fun r s4 ⟨u,hr,h4⟩=>?_);subst hr;refine wpAny_passesOwn hp (JJ h4 fun _ s5 ⟨x,H5,I5,r5,y5,st5,fr5⟩=>?_);have I5':=I5.pinned (stat fr5) (T.obj _ _ st5);refine wpAny_passesOwn hp (JJ (hg _ s5 σ3 H5 x u _ I5' r5 (step x H5 y5)) fun _ s6 ⟨σ6,H6,I6,q6⟩=>?_);refine wpAny_passesOwn hp (JJ (hb _ s6 σ6 H6 _ I6 q6) fun f s7 q7=>?_);have again:∀ {σ7:St} {H7:Hp},Jk X (pins ++ Jd3 fp s5.heap) σ7 H7 s7→N σ7 H7→∃ m,m < n∧∃ i σ' H',Jk X pins σ' H' s7∧tn i s7.heap∧(∀ b∈fp,H' b=none)∧W i m σ' H':=fun {σ7 H7} I7 n7=>by
   obtain ⟨m',hm,w7⟩:=hN σ7 H7 n7;refine ⟨m',hm,i + 1,σ7,H7,I7.unpinned,T.keep _ _ _ st5 fun b hb o e=>(I7.pin (b,o) (List.mem_append_right _ (List.mem_append_right _ (Jcj hb e)))).1,fun b hb=>?_,w7⟩;obtain ⟨o,e,d⟩:=T.obj _ _ st5 b hb;exact (I7.pin (b,o) (List.mem_append_right _ (List.mem_append_right _ (Jcj hb e)))).2.1
  cases f with
  | next=>obtain ⟨σ7,H7,I7,n7⟩:=q7; exact again I7 n7
  | cont=>obtain ⟨σ7,H7,I7,n7⟩:=q7; exact again I7 n7
  | brk=>obtain ⟨σ7,H7,I7,q7⟩:=q7; exact ⟨σ7,H7,I7.unpinned,q7⟩
  | ret v=>obtain ⟨x7,σ7,H7,I7,r7,q7⟩:=q7; exact ⟨x7,σ7,H7,I7.unpinned,r7,q7⟩
end
theorem Jaq {K:PySem.W.Frag} {a:Addr} {xs:List V} {g:TG} {tb:TS} {dn:St→Hp→Prop} {dr:VK} {σ:St} {H:Hp} (Pv:Nat→St→Hp→Prop) (h0:Pv 0 σ H) (hl:∀ i σ H,i≤xs.length→Pv i σ H→Jq K H a xs)
  (hs:∀ i x σ H,xs[i]?=some x→Pv i σ H→g x σ H fun σ2 H2=>tb ⟨Pv (i + 1),dr,dn,Pv (i + 1)⟩ σ2 H2) (hd:∀ σ H,Pv xs.length σ H→dn σ H) :
  ∃ W:Nat→Nat→St→Hp→Prop,(∃ m,W 0 m σ H)∧∀ i m σ H,W i m σ H →
   ((Itl K a).stop i H∧dn σ H)∨((Itl K a).go i H∧∃ N:St→Hp→Prop,(∀ σ' H',N σ' H'→∃ m',m' < m∧W (i + 1) m' σ' H')∧∀ x H',(Itl K a).yld i H x H'→g x σ H' fun σ2 H2=>tb ⟨N,dr,dn,N⟩ σ2 H2):=by
 refine ⟨fun i m σ H=>m=xs.length - i∧i≤xs.length∧Pv i σ H,⟨xs.length,by simp,Nat.zero_le _,h0⟩,?_⟩;rintro i m σ H ⟨rfl,hi,p⟩;have q:=hl i σ H hi p;by_cases hlt:i < xs.length
 ·refine .inr ⟨⟨xs,xs[i],q,by simp [hlt]⟩,Pv (i + 1),fun σ' H' p'=>⟨xs.length - (i + 1),by omega,rfl,hlt,p'⟩,fun x H' y=>?_⟩;obtain ⟨e,y⟩:=y;subst e;exact hs i x σ _ (y xs q) p
 ·have e:i=xs.length:=by omega
  subst e;exact .inl ⟨⟨xs,q,Nat.le_refl _⟩,hd σ H p⟩
theorem JeJ {K:PySem.W.Frag} {a:Addr} {xs:List V} {g:TG} {tb:TS} {dn:St→Hp→Prop} {dr:VK} {σ:St} {H:Hp} (Pv:Nat→St→Hp→Prop) (h0:Pv 0 σ H) (hl:∀ i σ H,i≤xs.length→Pv i σ H→J0 K H a xs)
  (hs:∀ i x σ H,xs[i]?=some x→Pv i σ H→g x σ H fun σ2 H2=>tb ⟨Pv (i + 1),dr,dn,Pv (i + 1)⟩ σ2 H2) (hd:∀ σ H,Pv xs.length σ H→dn σ H) :
  ∃ W:Nat→Nat→St→Hp→Prop,(∃ m,W 0 m σ H)∧∀ i m σ H,W i m σ H →
   ((Itt K a).stop i H∧dn σ H)∨((Itt K a).go i H∧∃ N:St→Hp→Prop,(∀ σ' H',N σ' H'→∃ m',m' < m∧W (i + 1) m' σ' H')∧∀ x H',(Itt K a).yld i H x H'→g x σ H' fun σ2 H2=>tb ⟨N,dr,dn,N⟩ σ2 H2):=by
 refine ⟨fun i m σ H=>m=xs.length - i∧i≤xs.length∧Pv i σ H,⟨xs.length,by simp,Nat.zero_le _,h0⟩,?_⟩;rintro i m σ H ⟨rfl,hi,p⟩;have q:=hl i σ H hi p;by_cases hlt:i < xs.length
 ·refine .inr ⟨⟨xs,xs[i],q,by simp [hlt]⟩,Pv (i + 1),fun σ' H' p'=>⟨xs.length - (i + 1),by omega,rfl,hlt,p'⟩,fun x H' y=>?_⟩;obtain ⟨e,y⟩:=y;subst e;exact hs i x σ _ (y xs q) p
 ·have e:i=xs.length:=by omega
  subst e;exact .inl ⟨⟨xs,q,Nat.le_refl _⟩,hd σ H p⟩
theorem Jap {lo:Int} {n:Nat} {g:TG} {tb:TS} {dn:St→Hp→Prop} {dr:VK} {σ:St} {H:Hp} (Pv:Nat→St→Hp→Prop) (h0:Pv 0 σ H)
  (hs:∀ i σ H,i < n→Pv i σ H→g (.int (lo + i)) σ H fun σ2 H2=>tb ⟨Pv (i + 1),dr,dn,Pv (i + 1)⟩ σ2 H2) (hd:∀ σ H,Pv n σ H→dn σ H) :
  ∃ W:Nat→Nat→St→Hp→Prop,(∃ m,W 0 m σ H)∧∀ i m σ H,W i m σ H →
   ((Itr lo n).stop i H∧dn σ H)∨((Itr lo n).go i H∧∃ N:St→Hp→Prop,(∀ σ' H',N σ' H'→∃ m',m' < m∧W (i + 1) m' σ' H')∧∀ x H',(Itr lo n).yld i H x H'→g x σ H' fun σ2 H2=>tb ⟨N,dr,dn,N⟩ σ2 H2):=by
 refine ⟨fun i m σ H=>m=n - i∧i≤n∧Pv i σ H,⟨n,by simp,Nat.zero_le _,h0⟩,?_⟩;rintro i m σ H ⟨rfl,hi,p⟩;by_cases hlt:i < n
 ·refine .inr ⟨hlt,Pv (i + 1),fun σ' H' p'=>⟨n - (i + 1),by omega,rfl,hlt,p'⟩,fun x H' y=>?_⟩;obtain ⟨e,y⟩:=y;subst e y;exact hs i σ _ hlt p
 ·have e:i=n:=by omega
  subst e;exact .inl ⟨Nat.le_refl _,hd σ H p⟩
end L2
namespace L2
open PySem PySem.Spec PyProof.Rows
abbrev R2:=V→V→Hp→VK→Prop
def ZB (X:Cx) (f:Value→Value→Sem Value) (r:R2):Prop :=
 ∀ (pins:List (Addr×Obj)) (s:Shared) (σ:St) (H:Hp) (x y:V) (v u:Value) (Q:VK),Jk X pins σ H s→JF x v→JF y u→r x y H Q →
  wpAny (model X.prog X.w) X.A (f v u) (EP X pins σ Q) X.xe s
def Zb (X:Cx) (f:Value) (r:List V→Hp→VK→Prop):Prop :=
 ∀ (pins:List (Addr×Obj)) (s:Shared) (σ:St) (H:Hp) (xs:List V) (us:List Value) (Q:VK),Jk X pins σ H s→Jt xs us→r xs H Q →
  wpAny (model X.prog X.w) X.A (call f us) (EP X pins σ Q) X.xe s
def tOp (r:R2) (ta tb:TE):TE:=fun σ H Q=>ta σ H fun x H1=>tb σ H1 fun y H2=>r x y H2 Q
def rI (C:Int→Int→Prop) (g:Int→Int→V):R2:=fun x y H Q=>∃ i j,x=.int i∧y=.int j∧C i j∧Q (g i j) H
def rI0 (g:Int→Int→V):R2:=fun x y H Q=>∃ i j,x=.int i∧y=.int j∧Q (g i j) H
section
variable {X:Cx} {a b c:Expr} {ta tb tc:TE} {pos:Pos}
theorem Jmh (ha:PE X a ta) (hb:PE X b tb) {pins:List (Addr×Obj)} {s:Shared} {σ:St} {H:Hp} {R:V→V→Hp→Prop} (I:Jk X pins σ H s)
  (h:ta σ H fun x H1=>tb σ H1 fun y H2=>R x y H2) {Q:Value→Shared→Prop} {f:Value→Value→Sem Value}
  (hf:∀ v u s2 x y H2,Jk X pins σ H2 s2→JF x v→JF y u→R x y H2→wpAny (model X.prog X.w) X.A (f v u) Q X.xe s2) :
  wpAny (model X.prog X.w) X.A (eval a X.env) (fun v s₁=>wpAny (model X.prog X.w) X.A (eval b X.env) (fun u s₂=>wpAny (model X.prog X.w) X.A (f v u) Q X.xe s₂) X.xe s₁) X.xe s:=by
 refine JJ (ha pins s σ H _ I h) fun v s1 ⟨x,H1,I1,r1,q1⟩=>?_
 refine JJ (hb pins s1 σ H1 _ I1 q1) fun u s2 ⟨y,H2,I2,r2,q2⟩=>?_
 exact hf v u s2 x y H2 I2 r1 r2 q2
theorem Ji {op:Operator} {r:R2} (ho:ZB X (binaryOp op) r) (ha:PE X a ta) (hb:PE X b tb):PE X (.BinOp a op b pos) (tOp r ta tb):=by
 intro pins s σ H Q I h;exact wpAny_BinOp (Jmh ha hb I h fun v u s2 x y H2 I2 rx ry q=>ho pins s2 σ H2 x y v u Q I2 rx ry q)
theorem opI {f:Value→Value→Sem Value} {C:Int→Int→Prop} {g:Int→Int→Int}
  (rule:∀ (i j:Int) (t u:Tok) (s:Shared) (Q:Value→Shared→Prop) (E:Value→Shared→Prop),C i j→Q (.int (g i j) s.toks) { s with toks:=s.toks + 1 }→wpAny (model X.prog X.w) X.A (f (.int i t) (.int j u)) Q E s) :
  ZB X f (rI C fun i j=>.int (g i j)):=by
 intro pins s σ H x y v u Q I rx ry h;obtain ⟨i,j,rfl,rfl,hc,q⟩:=h;obtain ⟨t,rfl⟩:=rx;obtain ⟨t',rfl⟩:=ry;exact rule i j t t' s _ _ hc ⟨.int (g i j),H,I.tok _,⟨_,rfl⟩,q⟩
theorem JnV {f:Value→Value→Sem Value} {g:Int→Int→Int}
  (rule:∀ (i j:Int) (t u:Tok) (s:Shared) (Q:Value→Shared→Prop) (E:Value→Shared→Prop),Q (.int (g i j) s.toks) { s with toks:=s.toks + 1 }→wpAny (model X.prog X.w) X.A (f (.int i t) (.int j u)) Q E s) :
  ZB X f (rI0 fun i j=>.int (g i j)):=by
 intro pins s σ H x y v u Q I rx ry h;obtain ⟨i,j,rfl,rfl,q⟩:=h;obtain ⟨t,rfl⟩:=rx;obtain ⟨t',rfl⟩:=ry;exact rule i j t t' s _ _ ⟨.int (g i j),H,I.tok _,⟨_,rfl⟩,q⟩
theorem Jjt {f:Value→Value→Sem Value} {g:Int→Int→Bool}
  (rule:∀ (i j:Int) (t u:Tok) (s:Shared) (Q:Value→Shared→Prop) (E:Value→Shared→Prop),Q (.bool (g i j)) s→wpAny (model X.prog X.w) X.A (f (.int i t) (.int j u)) Q E s) :
  ZB X f (rI0 fun i j=>.bl (g i j)):=by
 intro pins s σ H x y v u Q I rx ry h;obtain ⟨i,j,rfl,rfl,q⟩:=h;obtain ⟨t,rfl⟩:=rx;obtain ⟨t',rfl⟩:=ry;exact rule i j t t' s _ _ ⟨.bl (g i j),H,I,rfl,q⟩
def Jmq (i j:Int):Prop:=0 < j∧j < 1073741824
def Jmp (i j:Int):Prop:=(-(2 ^ 64) < i∧i < 2 ^ 64)∨(-(2 ^ 64) < j∧j < 2 ^ 64)
theorem Jmp.ok {i j:Int} (h:Jmp i j):IntMulOk i j:=by
 rcases h with ⟨h1,h2⟩ | ⟨h1,h2⟩
 ·exact .of_left (intBits_le_64 h1 h2)
 ·exact .of_right (intBits_le_64 h1 h2)
theorem JQ:ZB X (binaryOp .Add) (rI0 fun i j=>.int (i + j)):=JnV fun _ _ _ _ _ _ _ q=>add_int q
theorem Y3:ZB X (binaryOp .Sub) (rI0 fun i j=>.int (i - j)):=JnV fun _ _ _ _ _ _ _ q=>sub_int q
theorem ZS:ZB X (binaryOp .Mult) (rI Jmp fun i j=>.int (i * j)):=opI fun _ _ _ _ _ _ _ hc q=>mul_int q hc.ok
theorem Yq:ZB X (binaryOp .FloorDiv) (rI Jmq fun i j=>.int (i / j)):=opI fun i j _ _ _ _ _ hc q=>by
 have h1:(0:Int) < j:=hc.1;have h2:j < 1073741824:=hc.2;exact floordiv_int (by omega) (by rw [Int.fdiv_eq_ediv_of_nonneg i (by omega)]; exact q) (.inl (PyProof.noPylong_small (by omega)))
theorem JL:ZB X (binaryOp .Mod) (rI (fun _ j=>0 < j) fun i j=>.int (i % j)):=opI fun i j _ _ _ _ _ hc q=>by
 have h1:(0:Int) < j:=hc;exact mod_int' (by omega) (by rw [Int.fmod_eq_emod_of_nonneg i (by omega)]; exact q)
end
def JnD:V→V→Bool
 | .non,.non=>true | .non,.int _=>true | .int _,.non=>true | .non,.bl _=>true | .bl _,.non=>true | .non,.str _=>true | .str _,.non=>true
 | .int _,.int _=>true | .bl _,.bl _=>true | .str _,.str _=>true | .byt _,.byt _=>true
 | .int _,.str _=>true | .str _,.int _=>true | .bl _,.str _=>true | .str _,.bl _=>true
 | _,_=>false
def rEq:R2:=fun x y H Q=>JnD x y=true∧Q (.bl (decide (x=y))) H
def rNe:R2:=fun x y H Q=>JnD x y=true∧Q (.bl (!decide (x=y))) H
theorem Ji1 {i j:Int}:decide (V.int i=V.int j)=(i == j):=by
 rw [Bool.eq_iff_iff];simp
theorem JkP {i j:Bool}:decide (V.bl i=V.bl j)=(i == j):=by
 rw [Bool.eq_iff_iff];simp
theorem Ji0 {i j:Str}:decide (V.str i=V.str j)=(i == j):=by
 rw [Bool.eq_iff_iff];simp
theorem Ji2 {i j:Array UInt8}:decide (V.byt i=V.byt j)=(i.toList == j.toList):=by
 rw [Bool.eq_iff_iff];cases i;cases j;simp
section
variable {X:Cx} {a b c:Expr} {ta tb tc:TE} {pos:Pos}
theorem J3 {pins:List (Addr×Obj)} {σ:St} {H:Hp} {s:Shared} {Q:VK} {k k':Bool} (I:Jk X pins σ H s) (q:Q (.bl k) H) (e:k=k'):EP X pins σ Q (.bool k') s:=by
 subst e;exact ⟨.bl k,H,I,rfl,q⟩
theorem Yi:ZB X (compareOp .Eq) rEq:=by
 intro pins s σ H x y v u Q I rx ry h;obtain ⟨hs,q⟩:=h;cases x with
 | non =>
  cases rx;cases y with
  | non=>cases ry; exact PySem.EqNone.eq_none_none (J3 I q (by simp))
  | bl j=>cases ry; exact PySem.EqNone.eq_none_bool (J3 I q (by simp))
  | int j=>obtain ⟨t',rfl⟩:=ry; exact PySem.EqNone.eq_none_int (J3 I q (by simp))
  | str j=>obtain ⟨t',rfl⟩:=ry; exact PySem.EqNone.eq_none_str (J3 I q (by simp))
  | _=>exact absurd (show false=true from hs) Bool.false_ne_true
 | bl i =>
  cases rx;cases y with
  | non=>cases ry; exact PySem.EqNone.eq_bool_none (J3 I q (by simp))
  | bl j=>cases ry; exact eq_bool (J3 I q JkP)
  | str j=>obtain ⟨t',rfl⟩:=ry; exact PySem.EqMixed.eq_bool_str (J3 I q (by simp))
  | _=>exact absurd (show false=true from hs) Bool.false_ne_true
 | int i =>
  obtain ⟨t,rfl⟩:=rx;cases y with
  | non=>cases ry; exact PySem.EqNone.eq_int_none (J3 I q (by simp))
  | int j=>obtain ⟨t',rfl⟩:=ry; exact eq_int (J3 I q Ji1)
  | str j=>obtain ⟨t',rfl⟩:=ry; exact PySem.EqMixed.eq_int_str (J3 I q (by simp))
  | _=>exact absurd (show false=true from hs) Bool.false_ne_true
 | str i =>
  obtain ⟨t,rfl⟩:=rx;cases y with
  | non=>cases ry; exact PySem.EqNone.eq_str_none (J3 I q (by simp))
  | bl j=>cases ry; exact PySem.EqMixed.eq_str_bool (J3 I q (by simp))
  | int j=>obtain ⟨t',rfl⟩:=ry; exact PySem.EqMixed.eq_str_int (J3 I q (by simp))
  | str j=>obtain ⟨t',rfl⟩:=ry; exact eq_str (J3 I q Ji0)
  | _=>exact absurd (show false=true from hs) Bool.false_ne_true
 | byt i =>
  obtain ⟨t,rfl⟩:=rx;cases y with
  | byt j=>obtain ⟨t',rfl⟩:=ry; exact PySem.W.eq_bytes (J3 I q Ji2)
  | _=>exact absurd (show false=true from hs) Bool.false_ne_true
 | _=>cases y <;> exact absurd (show false=true from hs) Bool.false_ne_true
theorem JoF:ZB X (compareOp .NotEq) rNe:=by
 intro pins s σ H x y v u Q I rx ry h;obtain ⟨hs,q⟩:=h;cases x with
 | non =>
  cases rx;cases y with
  | non=>cases ry; exact PySem.EqNone.ne_none_none (J3 I q (by simp))
  | bl j=>cases ry; exact PySem.EqNone.ne_none_bool (J3 I q (by simp))
  | int j=>obtain ⟨t',rfl⟩:=ry; exact PySem.EqNone.ne_none_int (J3 I q (by simp))
  | str j=>obtain ⟨t',rfl⟩:=ry; exact PySem.EqNone.ne_none_str (J3 I q (by simp))
  | _=>exact absurd (show false=true from hs) Bool.false_ne_true
 | bl i =>
  cases rx;cases y with
  | non=>cases ry; exact PySem.EqNone.ne_bool_none (J3 I q (by simp))
  | bl j=>cases ry; exact ne_bool (J3 I q (congrArg not JkP))
  | str j=>obtain ⟨t',rfl⟩:=ry; exact PySem.EqMixed.ne_bool_str (J3 I q (by simp))
  | _=>exact absurd (show false=true from hs) Bool.false_ne_true
 | int i =>
  obtain ⟨t,rfl⟩:=rx;cases y with
  | non=>cases ry; exact PySem.EqNone.ne_int_none (J3 I q (by simp))
  | int j=>obtain ⟨t',rfl⟩:=ry; exact ne_int (J3 I q (congrArg not Ji1))
  | str j=>obtain ⟨t',rfl⟩:=ry; exact PySem.EqMixed.ne_int_str (J3 I q (by simp))
  | _=>exact absurd (show false=true from hs) Bool.false_ne_true
 | str i =>
  obtain ⟨t,rfl⟩:=rx;cases y with
  | non=>cases ry; exact PySem.EqNone.ne_str_none (J3 I q (by simp))
  | bl j=>cases ry; exact PySem.EqMixed.ne_str_bool (J3 I q (by simp))
  | int j=>obtain ⟨t',rfl⟩:=ry; exact PySem.EqMixed.ne_str_int (J3 I q (by simp))
  | str j=>obtain ⟨t',rfl⟩:=ry; exact ne_str (J3 I q (congrArg not Ji0))
  | _=>exact absurd (show false=true from hs) Bool.false_ne_true
 | byt i =>
  obtain ⟨t,rfl⟩:=rx;cases y with
  | byt j=>obtain ⟨t',rfl⟩:=ry; exact PySem.W.ne_bytes (J3 I q (congrArg not Ji2))
  | _=>exact absurd (show false=true from hs) Bool.false_ne_true
 | _=>cases y <;> exact absurd (show false=true from hs) Bool.false_ne_true
theorem Ja9:ZB X (compareOp .Lt) (rI0 fun i j=>.bl (decide (i < j))):=Jjt fun _ _ _ _ _ _ _ q=>lt_int q
theorem JoG:ZB X (compareOp .LtE) (rI0 fun i j=>.bl (decide (i≤j))):=Jjt fun _ _ _ _ _ _ _ q=>le_int q
theorem Jch:ZB X (compareOp .Gt) (rI0 fun i j=>.bl (decide (j < i))):=Jjt fun _ _ _ _ _ _ _ q=>gt_int q
theorem JoH:ZB X (compareOp .GtE) (rI0 fun i j=>.bl (decide (j≤i))):=Jjt fun _ _ _ _ _ _ _ q=>ge_int q
theorem JB (b:Expr) {op:CmpOp} (h:op≠.In:=by decide) (h2:op≠.NotIn:=by decide):behindInMarks op b=false:=by
 have e1:(op == CmpOp.In)=false:=by cases op <;> first | rfl | exact absurd rfl h
 have e2:(op == CmpOp.NotIn)=false:=by cases op <;> first | rfl | exact absurd rfl h2
 cases b <;> simp [behindInMarks,e1,e2]
theorem JeE {op:CmpOp} {r:R2} (ho:ZB X (compareOp op) r) (ha:PE X a ta) (hb:PE X b tb) (hm:behindInMarks op b=false):PE X (.Compare a [op] [b] pos) (tOp r ta tb):=by
 intro pins s σ H Q I h;exact wpAny_Compare1 (Jmh ha hb I h fun v u s2 x y H2 I2 rx ry q=>ho pins s2 σ H2 x y v u Q I2 rx ry q) hm
def Jom (t:TE):TT:=fun σ H Q=>t σ H fun x H'=>∃ k,x=.bl k∧Q k H'
theorem Jr {op:CmpOp} {r:R2} (ho:ZB X (compareOp op) r) (ha:PE X a ta) (hb:PE X b tb) (hm:behindInMarks op b=false):PT X (.Compare a [op] [b] pos) (Jom (tOp r ta tb)):=by
 intro pins s σ H Q I h;refine wpAny_isTrue_Compare1 (JJ (ha pins s σ H _ I h) fun v s1 ⟨x,H1,I1,r1,q1⟩=>JJ (hb pins s1 σ H1 _ I1 q1) fun u s2 ⟨y,H2,I2,r2,q2⟩ =>
  JJ (ho pins s2 σ H2 x y v u _ I2 r1 r2 q2) fun c s3 ⟨z,H3,I3,r3,k,e,q3⟩=>?_) hm
 subst e;cases r3;exact wpAny_truthy_bool ⟨H3,I3,q3⟩
def Jnv (r r':R2) (ta tb tc:TE):TE:=fun σ H Q=>ta σ H fun x H1=>tb σ H1 fun y H2=>r x y H2 fun z H3=>∃ k,z=.bl k ∧
 (if k=true then tc σ H3 fun w' H4=>r' y w' H4 Q else Q (.bl false) H3)
theorem JlP {op op':CmpOp} {r r':R2} (ho:ZB X (compareOp op) r) (ho':ZB X (compareOp op') r') (ha:PE X a ta) (hb:PE X b tb) (hc:PE X c tc)
  (hm:lastMarks [op,op'] [b,c]=false:=by with_unfolding_all rfl):PE X (.Compare a [op,op'] [b,c] pos) (Jnv r r' ta tb tc):=by
 intro pins s σ H Q I h;refine Compare_chain (JJ (ha pins s σ H _ I h) fun v s1 ⟨x,H1,I1,r1,q1⟩=>chain_link (JJ (hb pins s1 σ H1 _ I1 q1) fun u s2 ⟨y,H2,I2,r2,q2⟩ =>
  JJ (ho pins s2 σ H2 x y v u _ I2 r1 r2 q2) fun d s3 ⟨z,H3,I3,r3,k,e,q3⟩=>?_)) hm
 subst e;cases r3;refine wpAny_truthy_bool ?_;cases k with
 | false=>exact ite_ff ⟨.bl false,H3,I3,rfl,q3⟩
 | true=>exact ite_tt (chain_last (JJ (hc pins s3 σ H3 _ I3 q3) fun w' s4 ⟨z',H4,I4,r4,q4⟩=>ho' pins s4 σ H4 y z' u w' Q I4 r2 r4 q4))
theorem Jdv:(sizeLine:Nat) < 2 ^ 63:=by rw [sizeLine_eq]; decide
theorem JfE:ZB X (binaryOp .Add) (fun x y H Q=>∃ i j,x=.str i∧y=.str j∧i.length + j.length≤sizeLine∧Q (.str (i ++ j)) H):=by
 intro pins s σ H x y v u Q I rx ry h;obtain ⟨i,j,rfl,rfl,hz,q⟩:=h;obtain ⟨t,rfl⟩:=rx;obtain ⟨t',rfl⟩:=ry;exact add_str (fun t' tk=>⟨.str (i ++ j),H,I.tok _,⟨_,rfl⟩,q⟩) hz
theorem Jex {x:V} {us:List Value} (r:Jt [x] us):∃ u,us=[u]∧JF x u:=by
 cases r with
 | cons r1 r2=>cases r2; exact ⟨_,rfl,r1⟩
theorem Jmr {x y:V} {us:List Value} (r:Jt [x,y] us):∃ u w',us=[u,w']∧JF x u∧JF y w':=by
 cases r with
 | cons r1 r2 =>
  cases r2 with
  | cons r3 r4=>cases r4; exact ⟨_,_,rfl,r1,r3⟩
theorem JbN (hc:X.calm=true):Zb X (.builtin "max") (fun xs H Q=>∃ i j,xs=[.int i,.int j]∧Q (.int (if j > i then j else i)) H):=by
 intro pins s σ H xs us Q I r h;obtain ⟨i,j,rfl,q⟩:=h;obtain ⟨u,w',rfl,⟨t,rfl⟩,⟨t',rfl⟩⟩:=Jmr r;refine max_two_ints (I.ok.hd hc) fun h' tk k=>⟨_,H,I.kept k,?_,q⟩
 by_cases hj:j > i
 ·rw [if_pos hj,if_pos hj]; exact ⟨_,rfl⟩
 ·rw [if_neg hj,if_neg hj]; exact ⟨_,rfl⟩
theorem JkX (hc:X.calm=true):Zb X (.builtin "min") (fun xs H Q=>∃ i j,xs=[.int i,.int j]∧Q (.int (if j < i then j else i)) H):=by
 intro pins s σ H xs us Q I r h;obtain ⟨i,j,rfl,q⟩:=h;obtain ⟨u,w',rfl,⟨t,rfl⟩,⟨t',rfl⟩⟩:=Jmr r;refine min_two_ints (I.ok.hd hc) fun h' tk k=>⟨_,H,I.kept k,?_,q⟩
 by_cases hj:j < i
 ·rw [if_pos hj,if_pos hj]; exact ⟨_,rfl⟩
 ·rw [if_neg hj,if_neg hj]; exact ⟨_,rfl⟩
theorem JkZ:Zb X (.type "int") (fun xs H Q=>(∃ i,xs=[.int i]∧Q (.int i) H)∨∃ k,xs=[.bl k]∧Q (.int (if k then 1 else 0)) H):=by
 intro pins s σ H xs us Q I r h;rcases h with ⟨i,rfl,q⟩ | ⟨k,rfl,q⟩
 ·obtain ⟨u,rfl,t,rfl⟩:=Jex r;exact call_int_int ⟨.int i,H,I,⟨_,rfl⟩,q⟩
 ·obtain ⟨u,rfl,r1⟩:=Jex r;cases r1;exact call_int_bool ⟨.int (if k then 1 else 0),H,I.tok _,⟨_,rfl⟩,q⟩
end
end L2
namespace L2
open PySem PySem.Spec PyProof.Rows
structure Jfq (h:Heap) (x dx C:Addr) (mA:Str→Option Value):Prop where
 obj:h.get? x=some (PySem.W.instObj C dx)
 ns:h.Ns1 dx mA
 ne:dx≠x
theorem Jkw {h:Heap} {dx:Addr} {mA:Str→Option Value} (n:h.Ns1 dx mA):∃ od,h.get? dx=some od∧∀ name,PySem.W.lookIn name od=some (mA name):=by
 obtain ⟨o,es,ep,ho,hd,hk,_,hm⟩:=n;refine ⟨o,ho,fun name=>?_⟩;have e:=hm name;unfold nsFind findBy at e;rw [← Array.find?_toList] at e;unfold PySem.W.lookIn;rw [hd];dsimp only;split
 ·rename_i y q;rw [q] at e;exact congrArg some e
 ·rename_i q;rw [q] at e;have a:es.toList.any (·.refKey)=false:=by
   rw [List.any_eq_false];intro y hy;obtain ⟨z,t,hkey⟩:=hk y (Array.mem_toList_iff.mp hy);simp [DictEntry.refKey,hkey]
  have a':¬ es.toList.any (·.refKey)=true:=by rw [a]; exact Bool.false_ne_true
  rw [if_neg a'];exact congrArg some e
theorem Jfq.look {h:Heap} {x dx C:Addr} {mA:Str→Option Value} (I:Jfq h x dx C mA):∃ od,PySem.W.InstAt h x (PySem.W.instObj C dx) C (some od)∧∀ name,PySem.W.lookIn name od=some (mA name) :=
 let ⟨od,ho,hl⟩:=Jkw I.ns
 ⟨od,⟨I.obj,rfl,rfl,ho⟩,hl⟩
section
variable {prog:Program} {w:World} {A:Around} {E:Value→Shared→Prop} {s:Shared} {K:PySem.W.Frag} {x dx C f:Addr} {mA:Str→Option Value} {name:Str} {v:Value}
theorem Jni {expr:Bool} {Q:Value→Shared→Prop} (X:K.In s.heap) (I:Jfq s.heap x dx C mA) (hg:PySem.W.plainGet K C name=true) (hh:PySem.W.hasDictIn K C=true)
  (ha:PySem.W.findIn K (.ref C) name=some none) (hv:mA name=some v) (hv':PySem.W.handedIn v=true) (h:Q v { s with toks:=s.toks + 1 }) :
  wpAny (model prog w) A (getAttr (.ref x) name expr) Q E s:=by
 obtain ⟨od,J,hl⟩:=I.look;exact PySem.W.get_value X J (PySem.W.plainGet_of hg).1 (PySem.W.findObj_own hh ha rfl (by rw [hl,hv])) hv' h
theorem Jl8 {pl:Sem Bool} {Q:Value×List Value→Shared→Prop} (X:K.In s.heap) (I:Jfq s.heap x dx C mA) (hg:PySem.W.plainGet K C name=true)
  (hf:PySem.W.findIn K (.ref C) name=some (some (.ref f))) (ht:PySem.W.isFn K (.ref f)=true) (hv:mA name=none) (h:Q (.ref f,[.ref x]) s) :
  wpAny (model prog w) A (getMethod (.ref x) name pl) Q E s:=by
 obtain ⟨od,J,hl⟩:=I.look;exact PySem.W.method_fn X J (PySem.W.plainGet_of hg).1 (PySem.W.plainGet_of hg).2 hf (beq_iff_eq.mp ht) (by show (PySem.W.lookIn name od).map (·.isSome)=some false; rw [hl,hv]; rfl) h
theorem JmV {ns:List Str} {Q:Unit→Shared→Prop} (X:K.In s.heap) (I:Jfq s.heap x dx C mA)
  (hs:PySem.W.findIn K (.ref C) "__setattr__" = some (some (.builtin "object.__setattr__"))) (hp:PySem.W.plainOver K C=true) (ht:PySem.W.takerIn K C name=some none) (hh:PySem.W.hasDictIn K C=true)
  (hw:PySem.Within mA ns) (hsz:ns.length≤sizeLine)
  (h:∀ h',Jfq h' x dx C (fun y=>if y=name then some v else mA y)→Heap.SameBut dx s.heap h'→Q () { s with heap:=h',toks:=s.toks + 2 }) :
  wpAny (model prog w) A (setAttr (.ref x) name v) Q E s:=by
 obtain ⟨od,J,hl⟩:=I.look;refine PySem.W.set_plain X J hs (PySem.W.osa_open (s:={ s with toks:=s.toks + 1 }) (r:=none) X J hp ht fun b=>?_);obtain ⟨cd,hc,hd'⟩:=PySem.W.any_some hh;have hx:s.heap.get? x=some ⟨.ref C,some dx,.plain,#[]⟩:=I.obj;refine wpAny_bind (wpAny_pure (wpAny_bind (wpAny_bind (wpAny_loadPart hx (wpAny_bind (PySem.W.Looks.here (s:={ s with toks:=s.toks + 1 }) (PySem.W.looks_clsIn X hc) ?_))))));rw [hd'];refine wpAny_pure (a:=some dx) (wpAny_bind (wpAny_pure (wpAny_bind ?_)));refine wpAny_nsSet1 (s:={ s with toks:=s.toks + 1 }) I.ns fun h' hn2 hs2=>?_
 obtain ⟨oD,esD,epD,hoD,hdD,hcD⟩:=hn2.count (PySem.Within.cons name v hw);refine wpAny_bind (wpAny_lookBehind hoD (by rw [hdD]; exact pastItsLine_dict (Nat.le_trans hcD (by rw [List.length_cons]; omega))) ?_);exact wpAny_pure (h _ ⟨(hs2.2 _ (Ne.symm I.ne)).trans I.obj,hn2,I.ne⟩ hs2)
theorem Jl2 {R:Result→Shared→Prop} {vs:List Value} {kw:List (Str×Value)} (X:K.In s.heap) (hm:PySem.W.makesIn K C=true)
  (hi:PySem.W.findIn K (.ref C) "__init__" = some (some (.ref f))) (hf:PySem.W.typeIn K (.ref f)=some (.type "function"))
  (h:codeAny (model prog w) (A.under (.builtin "type.__call__" ⟨.ref C :: vs,kw⟩)) (.call (.ref f) ⟨.ref (s.heap.objs.size + 1) :: vs,kw⟩) (PySem.W.InitBack (s.heap.objs.size + 1) R)
   { s with heap:=(s.heap.push PySem.W.emptyDict).push (PySem.W.instObj C s.heap.objs.size) }) :
  codeAny (model prog w) A (.call (.ref C) ⟨vs,kw⟩) R s:=by
 obtain ⟨hh,g,d,t,os⟩:=s;exact PySem.W.make_core (PySem.W.makes_of X hm) (PySem.W.looks_findIn X hi) (fun self=>PySem.W.bind_fn X self hf) (.inl rfl) h
end
def J8 (f:Str) (v:V):List (Str×V)→List (Str×V)
 | []=>[(f,v)]
 | (g,x) :: r=>if g=f then (g,v) :: r else (g,x) :: J8 f v r
theorem JeU (f g:Str) (v:V):∀ fs:List (Str×V),(J8 f v fs).lookup g=if g=f then some v else fs.lookup g
 | []=>by
  show List.lookup g [(f,v)]=_;by_cases h:g=f
  ·have hb:(g == f)=true:=beq_iff_eq.mpr h;simp only [List.lookup,hb,if_pos h]
  ·have hb:(g == f)=false:=beq_eq_false_iff_ne.mpr h;simp only [List.lookup,hb,if_neg h]
 | (k,x) :: r=>by
  have ih:=JeU f g v r;rw [show J8 f v ((k,x) :: r)=(if k=f then (k,v) :: r else (k,x) :: J8 f v r) from rfl];by_cases hk:k=f
  ·rw [if_pos hk];by_cases h:g=k
   ·have hb:(g == k)=true:=beq_iff_eq.mpr h;simp only [List.lookup,hb,if_pos (h.trans hk)]
   ·have hb:(g == k)=false:=beq_eq_false_iff_ne.mpr h;simp only [List.lookup,hb,if_neg (fun e:g=f=>h (e.trans hk.symm))]
  ·rw [if_neg hk];by_cases h:g=k
   ·have hb:(g == k)=true:=beq_iff_eq.mpr h;simp only [List.lookup,hb,if_neg (fun e:g=f=>hk (h.symm.trans e))]
   ·have hb:(g == k)=false:=beq_eq_false_iff_ne.mpr h;simp only [List.lookup,hb];exact ih
theorem Jeg (f:Str) (v:V):∀ fs:List (Str×V),f∈(J8 f v fs).map (·.1)∧∀ g,g∈fs.map (·.1)→g∈(J8 f v fs).map (·.1)
 | []=>⟨by simp [J8],fun g h=>by simp at h⟩
 | (k,x) :: r=>by
  obtain ⟨i1,i2⟩:=Jeg f v r;rw [show J8 f v ((k,x) :: r)=(if k=f then (k,v) :: r else (k,x) :: J8 f v r) from rfl];by_cases hk:k=f
  ·rw [if_pos hk];subst hk;exact ⟨by simp,fun g h=>by simpa using h⟩
  ·rw [if_neg hk];refine ⟨?_,fun g h=>?_⟩
   ·rw [List.map_cons];exact List.mem_cons_of_mem _ i1
   ·rw [List.map_cons] at h ⊢;rcases List.mem_cons.mp h with e | e
    ·exact List.mem_cons.mpr (.inl e)
    ·exact List.mem_cons_of_mem _ (i2 g e)
theorem JeW (f:Str) (v:V):∀ fs:List (Str×V),(J8 f v fs).length≤fs.length + 1
 | []=>by simp [J8]
 | (k,x) :: r=>by
  have ih:=JeW f v r;rw [show J8 f v ((k,x) :: r)=(if k=f then (k,v) :: r else (k,x) :: J8 f v r) from rfl];by_cases hk:k=f
  ·rw [if_pos hk,List.length_cons,List.length_cons]; omega
  ·rw [if_neg hk,List.length_cons,List.length_cons]; omega
theorem Z1.some_of {v:V} {o:Option Value} (r:Z1 (some v) o):∃ u,o=some u∧JF v u:=by
 cases o with
 | none=>exact (show False from r).elim
 | some u=>exact ⟨u,rfl,r⟩
theorem Z1.none_of {o:Option Value} (r:Z1 none o):o=none:=by
 cases o with
 | none=>rfl
 | some u=>exact (show False from r).elim
theorem JkJ {v:V} {u:Value} (r:JF v u):PySem.W.handedIn u=true:=by
 cases v with
 | non=>cases (show u=Value.none from r); rfl
 | bl b=>cases (show u=Value.bool b from r); rfl
 | int i=>obtain ⟨t,e⟩:=(show ∃ t,u=Value.int i t from r); cases e; rfl
 | str x=>obtain ⟨t,e⟩:=(show ∃ t,u=Value.str x t from r); cases e; rfl
 | byt b=>obtain ⟨t,e⟩:=(show ∃ t,u=Value.bytes b t from r); cases e; rfl
 | flt b=>obtain ⟨t,e⟩:=(show ∃ t,u=Value.float b t from r); cases e; rfl
 | ref a=>cases (show u=Value.ref a from r); rfl
 | ty n=>cases (show u=Value.type n from r); rfl
section
variable {P:Program} {w:World} {H H':Hp} {h h':Heap} {a C dx:Addr} {fs fs':List (Str×V)}
theorem JeI (hok:Zj P w H h) (e:H a=some (.ins C dx fs)):∃ mA,Jfq h a dx C mA∧(∀ f,Z1 (fs.lookup f) (mA f))∧PySem.Within mA (fs.map (·.1))∧fs.length≤1000∧H dx=some (.own a):=by
 obtain ⟨d,z,ne,ob,mA,n,r,q⟩:=(show J9 P w H h a (.ins C dx fs) from hok a _ e)
 exact ⟨mA,⟨ob,n,ne⟩,r,q,z,d⟩
end
structure Cls (K:PySem.W.Frag) (C:Addr):Prop where
 pg:PySem.W.plainGet K C Str.empty=true
 hd:PySem.W.hasDictIn K C=true
 po:PySem.W.plainOver K C=true
 sa:PySem.W.findIn K (.ref C) "__setattr__" = some (some (.builtin "object.__setattr__"))
theorem Cls.get {K:PySem.W.Frag} {C:Addr} (c:Cls K C) (f:Str):PySem.W.plainGet K C f=true:=c.pg
def ZK (K:PySem.W.Frag) (C:Addr) (f:Str):Prop:=PySem.W.findIn K (.ref C) f=some none
theorem ZK.taker {K:PySem.W.Frag} {C:Addr} {f:Str} (n:ZK K C f):PySem.W.takerIn K C f=some none:=by
 unfold PySem.W.takerIn;rw [show PySem.W.findIn K (.ref C) f=some none from n];rfl
structure Jmo (K:PySem.W.Frag) (C:Addr) (m:Str) (f:Addr):Prop where
 at_:PySem.W.findIn K (.ref C) m=some (some (.ref f))
 fn:PySem.W.isFn K (.ref f)=true
 kp:PySem.W.keepIn K (.ref f)=true
section
variable {X:Cx} {pins:List (Addr×Obj)} {σ:St} {H:Hp} {s:Shared} {a C dx:Addr} {fs:List (Str×V)} {f:Str} {v:V} {A:Around} {E:Value→Shared→Prop}
theorem JjD {b:Bool} {Q:Value→Shared→Prop} (I:Jk X pins σ H s) (e:H a=some (.ins C dx fs)) (c:Cls X.K C) (n:ZK X.K C f) (l:fs.lookup f=some v)
  (h:∀ u s',Jk X pins σ H s'→JF v u→Q u s'):wpAny (model X.prog X.w) A (getAttr (.ref a) f b) Q E s:=by
 obtain ⟨mA,O,r,_,_,_⟩:=JeI I.hok e;obtain ⟨u,hu,ru⟩:=Z1.some_of (v:=v) (o:=mA f) (by rw [← l]; exact r f);exact Jni I.kIn O (c.get f) c.hd n hu (JkJ ru) (h u _ (I.tok _) ru)
theorem JjC {m:Str} {g:Addr} {pl:Sem Bool} {Q:Value×List Value→Shared→Prop} (I:Jk X pins σ H s) (e:H a=some (.ins C dx fs)) (c:Cls X.K C) (k:Jmo X.K C m g) (l:fs.lookup m=none)
  (h:Q (.ref g,[.ref a]) s):wpAny (model X.prog X.w) A (getMethod (.ref a) m pl) Q E s:=by
 obtain ⟨mA,O,r,_,_,_⟩:=JeI I.hok e;have hn:mA m=none:=Z1.none_of (by rw [← l]; exact r m);exact Jl8 I.kIn O (c.get m) k.at_ k.fn hn h
theorem Jjl {y:V} {u:Value} {Q:Unit→Shared→Prop} (I:Jk X pins σ H s) (e:H a=some (.ins C dx fs)) (c:Cls X.K C) (n:ZK X.K C f) (hl:fs.length < 1000) (ry:JF y u)
  (h:∀ s',Jk X pins σ (upd H a (.ins C dx (J8 f y fs))) s'→Q () s'):wpAny (model X.prog X.w) A (setAttr (.ref a) f u) Q E s:=by
 obtain ⟨mA,O,r,wi,_,ho⟩:=JeI I.hok e;have hz:(fs.map (·.1)).length≤sizeLine:=by rw [List.length_map,sizeLine_eq]; omega
 refine JmV I.kIn O c.sa c.po n.taker c.hd wi hz fun h' O' sb=>h _ ?_
 have hd:∃ o,h'.get? dx=some o:=let ⟨o,_,_,e',_⟩:=O'.ns; ⟨o,e'⟩;refine I.write (x:=a) (e:=dx) (by rw [e]; exact True.intro) (.inr ho) (fun b q hb z=>(sb.2 b hb).trans z) hd ?_;refine ⟨by rw [Jl O.ne]; exact ho,?_,O.ne,O'.obj,_,O'.ns,fun g=>?_,fun g hg=>?_⟩
 ·have:=JeW f y fs; omega
 ·show Z1 ((J8 f y fs).lookup g) (if g=f then some u else mA g);rw [JeU];by_cases q:g=f
  ·rw [if_pos q,if_pos q]; exact ry
  ·rw [if_neg q,if_neg q]; exact r g
 ·by_cases q:g=f
  ·rw [q]; exact (Jeg f y fs).1
  ·refine (Jeg f y fs).2 g (wi g fun z=>hg ?_);show (if g=f then some u else mA g)=none;rw [if_neg q]; exact z
theorem Jk.made (I:Jk X pins σ H s):Jk X pins σ (upd (upd H s.heap.objs.size (.own (s.heap.objs.size + 1))) (s.heap.objs.size + 1) (.ins C s.heap.objs.size []))
  { s with heap:=(s.heap.push PySem.W.emptyDict).push (PySem.W.instObj C s.heap.objs.size) }:=by
 have e1:(s.heap.push PySem.W.emptyDict).get? s.heap.objs.size=some PySem.W.emptyDict:=Heap.get?_push_size s.heap rfl;have e2:((s.heap.push PySem.W.emptyDict).push (PySem.W.instObj C s.heap.objs.size)).get? (s.heap.objs.size + 1)=some (PySem.W.instObj C s.heap.objs.size):=by
  have:=Heap.get?_push_size (s.heap.push PySem.W.emptyDict) (o:=PySem.W.instObj C s.heap.objs.size) rfl;rwa [Heap.size_push] at this
 have e3:(s.heap.push PySem.W.emptyDict).Ns s.heap.objs.size (fun _=>none):=⟨PySem.W.emptyDict,#[],_,e1,rfl,(fun e he=>absurd he (by simp)),fun _=>rfl⟩
 have I1:=I.laid (a:=s.heap.objs.size) (o:=.own (s.heap.objs.size + 1)) (h':=s.heap.push PySem.W.emptyDict) (t':=s.toks) (fun b u q=>Heap.get?_push_of_some _ q) (Nat.le_refl _) ⟨_,e1⟩;refine I1.laid (a:=s.heap.objs.size + 1) (o:=.ins C s.heap.objs.size []) (t':=s.toks) (fun b u q=>Heap.get?_push_of_some _ q) (Nat.le_of_eq (Heap.size_push _ _)) ?_;have ne:s.heap.objs.size≠s.heap.objs.size + 1:=Nat.ne_of_lt (Nat.lt_succ_self _);refine ⟨by rw [Jl ne,Jf],Nat.zero_le _,ne,e2,fun _=>none,(Heap.Ns1.of_empty e3).at fun o q=>Heap.get?_push_of_some _ q,fun _=>True.intro,fun y hy=>absurd rfl hy⟩
theorem Jnm {prog:Program} {w:World} {env:Env} {e:Expr} {f:Str} {pos:Pos} {s:Shared} {Q:Value→Shared→Prop} (hb:attributeBase e f env (eval e env)=eval e env)
  (h:wpAny (model prog w) A (eval e env) (fun o s₁=>wpAny (model prog w) A (getAttr o f true) Q E s₁) E s):wpAny (model prog w) A (eval (.Attribute e f pos) env) Q E s :=
 Attribute_any_ h (by rw [arm_eval_Attribute,hb])
end
def Jpd (K:PySem.W.Frag) (ta:TE) (f:Str):TE:=fun σ H Q=>ta σ H fun x H1=>∃ a C dx fs v,x=.ref a∧H1 a=some (.ins C dx fs)∧Cls K C∧ZK K C f∧fs.lookup f=some v∧Q v H1
def Jpf (K:PySem.W.Frag) (ta tv:TE) (f:Str):TS:=fun D σ H=>tv σ H fun y H1=>ta σ H1 fun x H2=>∃ a C dx fs,x=.ref a∧H2 a=some (.ins C dx fs)∧Cls K C∧ZK K C f∧fs.length < 1000 ∧
 D.nx σ (upd H2 a (.ins C dx (J8 f y fs)))
section
variable {X:Cx} {o e value:Expr} {f:Str} {pos pos' tpos:Pos} {ta tv:TE}
theorem Yg (he:PE X e ta) (hb:attributeBase e f X.env (eval e X.env)=eval e X.env):PE X (.Attribute e f pos) (Jpd X.K ta f):=by
 intro pins s σ H Q I h;refine Jnm hb (JJ (he pins s σ H _ I h) fun u s1 ⟨x,H1,I1,rx,a,C,dx,fs,v,ex,ea,c,n,l,q⟩=>?_);subst ex;obtain rfl:u=Value.ref a:=rx;exact JjD I1 ea c n l fun u' s2 I2 ru=>⟨v,H1,I2,ru,q⟩
theorem JcH (ha:PE X o ta) (hv:PE X value tv) (hs:swapsWith value (some (.Attribute o f pos')) pos.line X.env=pure false):PS X (.Assign [.Attribute o f pos'] value pos) (Jpf X.K ta tv f):=by
 intro pins s σ H D I h;refine plainObj_wpAny_Assign_Attribute (JJ (hv pins s σ H _ I h) fun u s1 ⟨y,H1,I1,ry,q⟩=>JJ (ha pins s1 σ H1 _ I1 q) fun ov s2 ⟨x,H2,I2,rx,a,C,dx,fs,ex,ea,c,n,l,q2⟩=>?_) hs;subst ex;obtain rfl:ov=Value.ref a:=rx;exact Jjl I2 ea c n l ry fun s3 I3=>⟨σ,_,I3,q2⟩
end
section
variable {X:Cx} {pins:List (Addr×Obj)} {σ:St} {H:Hp} {s:Shared} {A:Around} {E:Value→Shared→Prop} {Q:Value→Shared→Prop} {c:Value} {b:Bool}
inductive JbF (K:PySem.W.Frag) (H:Hp):V→Value→Prop where
 | non:JbF K H .non (.type "NoneType")
 | bl (x:Bool):JbF K H (.bl x) (.type "bool")
 | int (i:Int):JbF K H (.int i) (.type "int")
 | str (x:Str):JbF K H (.str x) (.type "str")
 | flt (x:UInt64):JbF K H (.flt x) (.type "float")
 | lst {a:Addr} {xs:List V} (e:H a=some (.lst xs)):JbF K H (.ref a) (.type "list")
 | frz {a:Addr} {o:Obj} {xs:List V} (e:H a=some (.frz o (.lst xs))):JbF K H (.ref a) (.type "list")
 | tup {a:Addr} {xs:List V} (e:H a=some (.tup xs)):JbF K H (.ref a) (.type "tuple")
 | dK {a:Addr} {kvs:List (JP×V)} (e:H a=some (.dK kvs)):JbF K H (.ref a) (.type "dict")
 | dT {a:Addr} {kvs:List (List JP×V)} (e:H a=some (.dT kvs)):JbF K H (.ref a) (.type "dict")
 | ins {a C dx:Addr} {fs:List (Str×V)} (e:H a=some (.ins C dx fs)) (cl:Cls K C) (ha:PySem.W.findIn K (.ref C) "__class__" = some (some (.builtin "object.__class__")))
   (hn:PySem.W.specialIn K (.builtin "object.__class__") "__get__" = some (some (.builtin "getset_descriptor.__get__"))) (htk:PySem.W.takesIn K (.builtin "object.__class__")=some true)
   (hm:PySem.W.mroIn K C (.type "object")=some true):JbF K H (.ref a) (.ref C)
theorem JkE {x:V} {u t:Value} (I:Jk X pins σ H s) (rx:JF x u) (ty:JbF X.K H x t) (e:PySem.W.kitOne X.K t c=some b) (h:∀ tk,Q (.bool b) { s with toks:=tk }) :
  wpAny (model X.prog X.w) A (call (.builtin "isinstance") [u,c]) Q E s:=by
 cases ty with
 | non=>cases (show u=Value.none from rx); exact PySem.W.kia_one PySem.W.kitx_none I.kIn True.intro e (fun z=>nomatch z) h
 | bl y=>cases (show u=Value.bool y from rx); exact PySem.W.kia_one PySem.W.kitx_bool I.kIn True.intro e (fun z=>nomatch z) h
 | int i=>obtain ⟨t,q⟩:=(show ∃ t,u=Value.int i t from rx); cases q; exact PySem.W.kia_one PySem.W.kitx_int I.kIn True.intro e (fun z=>nomatch z) h
 | str y=>obtain ⟨t,q⟩:=(show ∃ t,u=Value.str y t from rx); cases q; exact PySem.W.kia_one PySem.W.kitx_str I.kIn True.intro e (fun z=>nomatch z) h
 | flt y=>obtain ⟨t,q⟩:=(show ∃ t,u=Value.float y t from rx); cases q; exact PySem.W.kia_one PySem.W.kitx_float I.kIn True.intro e (fun z=>nomatch z) h
 | @lst a xs ea =>
  cases (show u=Value.ref a from rx);obtain ⟨_,_,n,_,h1⟩:=(show J9 X.prog X.w H s.heap a (.lst xs) from I.hok a _ ea)
  exact PySem.W.kia_one PySem.W.kitx_list I.kIn ⟨_,h1,rfl⟩ e (fun z=>nomatch z) h
 | @frz a ob xs ea =>
  cases (show u=Value.ref a from rx);obtain ⟨_,_,_,n,_,h1⟩:=(show J9 X.prog X.w H s.heap a (.frz ob (.lst xs)) from I.hok a _ ea)
  exact PySem.W.kia_one PySem.W.kitx_list I.kIn ⟨_,h1,rfl⟩ e (fun z=>nomatch z) h
 | @tup a xs ea =>
  cases (show u=Value.ref a from rx);obtain ⟨_,_,_,p⟩:=(show J9 X.prog X.w H s.heap a (.tup xs) from I.hok a _ ea)
  obtain ⟨o,h1,h2,_⟩:=p;exact PySem.W.kia_one PySem.W.kitx_tuple I.kIn ⟨o,h1,h2⟩ e (fun z=>nomatch z) h
 | @dK a kvs ea =>
  cases (show u=Value.ref a from rx);obtain ⟨_,_,vs,_,p⟩:=(show J9 X.prog X.w H s.heap a (.dK kvs) from I.hok a _ ea)
  obtain ⟨o,es,ep,h1,h2,_⟩:=p;exact PySem.W.kia_one PySem.W.kitx_dict I.kIn ⟨o,h1,h2.1⟩ e (fun z=>nomatch z) h
 | @dT a kvs ea =>
  cases (show u=Value.ref a from rx);obtain ⟨_,_,xs,_,o,es,ep,h1,h2,_⟩:=(show J9 X.prog X.w H s.heap a (.dT kvs) from I.hok a _ ea)
  exact PySem.W.kia_one PySem.W.kitx_dict I.kIn ⟨o,h1,h2.1⟩ e (fun z=>nomatch z) h
 | @ins a C dx fs ea cl ha hn htk hm =>
  cases (show u=Value.ref a from rx);obtain ⟨mA,O,_⟩:=JeI I.hok ea;obtain ⟨od,J,_⟩:=O.look;exact PySem.W.kia_one (PySem.W.kitx_own (cl.get _) cl.hd ha hn htk hm) I.kIn J e (fun z=>nomatch z) h
end
end L2
namespace L2
open PySem PySem.Spec PyProof.Rows
structure YA (k:Nat) (A:Around):Prop where
 hd:A.handled=none
 dp:A.depth + 3 * k + 5 < recursionLimit
 un:A.units + 16 * k + 200 < cLine
theorem YA.mono {j k:Nat} {A:Around} (r:YA k A) (h:j≤k):YA j A:=⟨r.hd,by have:=r.dp; omega,by have:=r.un; omega⟩
theorem YA.deeper {k:Nat} {A:Around} (r:YA (k + 1) A) (env:Env):YA k (A.deeper env) :=
 ⟨r.hd,by have:=r.dp; show A.depth + 1 + 3 * k + 5 < _; omega,by have:=r.un; show A.units + 3 + 16 * k + 200 < _; omega⟩
theorem YA.in1 {k:Nat} {A:Around} (r:YA (k + 1) A):YA k A.in1 :=
 ⟨r.hd,by have:=r.dp; show A.depth + 3 * k + 5 < _; omega,by have:=r.un; show A.units + 1 + 16 * k + 200 < _; omega⟩
theorem JjA {A:Around} {C:Addr} {us:List Value} {kw:List (Str×Value)}:(A.under (.builtin "type.__call__" ⟨.ref C :: us,kw⟩)).depth=A.depth + 1:=by
 first | rfl | simp [Around.under,Code.weight,Code.isCreation,Code.isGuard,Code.isCaller,Code.frames,Code.isFrame,guardIds]
theorem Jjz {A:Around} {C:Addr} {us:List Value} {kw:List (Str×Value)}:(A.under (.builtin "type.__call__" ⟨.ref C :: us,kw⟩)).units=A.units + 1:=by
 first | rfl | simp [Around.under,Code.cUnits,Code.frames,Code.isFrame]
theorem YA.make {k:Nat} {A:Around} (r:YA (k + 1) A) (C:Addr) (us:List Value) (kw:List (Str×Value)):YA k (A.under (.builtin "type.__call__" ⟨.ref C :: us,kw⟩)) :=
 ⟨r.hd,by have:=r.dp; rw [JjA]; omega,by have:=r.un; rw [Jjz]; omega⟩
theorem YA.depth {k:Nat} {A:Around} (r:YA k A):A.depth < recursionLimit:=by have:=r.dp; omega
theorem YA.units {k:Nat} {A:Around} (r:YA k A):A.units + 64 < cLine:=by have:=r.un; omega
theorem YA.units0 {k:Nat} {A:Around} (r:YA k A):A.units < cLine:=by have:=r.un; omega
def Jo7:TA:=fun _ H Q=>Q [] H
def Jov (ta:TE) (tr:TA):TA:=fun σ H Q=>ta σ H fun x H1=>tr σ H1 fun xs H2=>Q (x :: xs) H2
section
variable {X:Cx} {e:Expr} {es:List Expr} {te:TE} {t:TA} {pos:Pos}
theorem Jc:PA X [] Jo7:=fun _ _ _ _ H Q I h=>Calls.spliced_nil ⟨[],H,I,.nil,h⟩
theorem Ja (ha:PE X e te) (hr:PA X es t) (hs:starEach (e :: es) X.env=(false,eval e X.env) :: starEach es X.env:=by rfl):PA X (e :: es) (Jov te t):=by
 intro pos pins s σ H Q I h;rw [hs];show wpAny _ _ (spliced ((false,eval e X.env) :: backTo pos (starEach es X.env))) _ _ s;refine Calls.spliced_cons (JJ (ha pins s σ H _ I h) fun u s1 ⟨x,H1,I1,r1,q1⟩=>?_);exact JJ (hr pos pins s1 σ H1 _ I1 q1) fun us s2 ⟨xs,H2,I2,r2,q2⟩=>⟨x :: xs,H2,I2,.cons r1 r2,q2⟩
def Jo3 (t:TA):TE:=fun σ H Q=>t σ H fun xs H1=>xs.length≤sizeLine∧∀ p,H1 p=none→Q (.ref p) (upd H1 p (.tup xs))
def Jo9 (t:TA):TE:=fun σ H Q=>t σ H fun xs H1=>xs.length≤sizeLine∧∀ p,H1 p=none→Q (.ref p) (upd H1 p (.lst xs))
theorem YI {x1} (h:PA X es t):PE X (.Tuple es x1 pos) (Jo3 t):=by
 intro pins s σ H Q I hq;refine wpAny_Tuple_spliced (JJ (h pos pins s σ H _ I hq) fun us s1 ⟨xs,H1,I1,r,z,q⟩=>⟨by rw [← r.length]; exact z,?_⟩);have hf:H1 s1.heap.objs.size=none:=I1.hok.fresh (Nat.le_refl _);refine ⟨.ref s1.heap.objs.size,upd H1 s1.heap.objs.size (.tup xs),I1.laid (t':=s1.toks) (fun b u e=>Heap.get?_push_of_some _ e) (Nat.le_refl _) ?_,rfl,q _ hf⟩;exact ⟨z,us,r,⟨_,Heap.get?_push_size _ rfl,rfl,_,rfl⟩⟩
theorem YC (h:PA X es t):PE X (.List es pos) (Jo9 t):=by
 intro pins s σ H Q I hq;refine wpAny_List_spliced (JJ (h pos pins s σ H _ I hq) fun us s1 ⟨xs,H1,I1,r,z,q⟩=>⟨by rw [← r.length]; exact z,?_⟩);have hf:H1 s1.heap.objs.size=none:=I1.hok.fresh (Nat.le_refl _);refine ⟨.ref s1.heap.objs.size,upd H1 s1.heap.objs.size (.lst xs),I1.laid (t':=s1.toks) (fun b u e=>Heap.get?_push_of_some _ e) (Nat.le_refl _) ?_,rfl,q _ hf⟩;exact ⟨z,us,0,r,Heap.get?_push_size _ rfl⟩
end
abbrev Sp:=List V→Hp→VK→XK→Prop
abbrev CXT:=List Env→Hp→Shared→XK→Value→Shared→Prop
structure Jdi (P:Program) (w:World) (K:PySem.W.Frag) (mg:Str→Option Value) (base:Heap) (A:Around) (outer:List Env) (s:Shared) (H:Hp):Prop where
 frames:A.frames=some outer
 mod:Mod K mg base
 bs:∀ b o,base.get? b=some o→s.heap.get? b=some o∧H b=none
 bsz:base.objs.size≤s.heap.objs.size
 funs:s.heap.FunFrames base outer
 frf:∀ b∈Zi outer,H b=none
 hok:Zj P w H s.heap
 bare:AllBare s.gens
def CE (outer:List Env) (P:Program) (w:World) (H:Hp) (s:Shared) (Q:VK) (u:Value) (s':Shared):Prop :=
 ∃ v H',s'.os=s.os∧AllBare s'.gens∧Un (Zi outer) [] H H' s.heap s'.heap∧Zj P w H' s'.heap∧JF v u∧Q v H'
def CR (CX:CXT) (outer:List Env) (P:Program) (w:World) (H:Hp) (s:Shared) (Q:VK) (E:XK) (r:Result) (s':Shared):Prop :=
 match r with
 | .ok (.ret u)=>CE outer P w H s Q u s'
 | .ok _=>False
 | .error e=>CX outer H s E e s'
structure JM (P:Program) (w:World) (K:PySem.W.Frag) (mg:Str→Option Value) (base:Heap) (CX:CXT) (k:Nat) (f:Addr) (fd:FuncData) (ps:List Str) (sp:Sp):Prop where
 len:∀ vs H Q E,sp vs H Q E→vs.length=ps.length
 run:∀ (A:Around) (outer:List Env) (s:Shared) (H:Hp) (args:Args) (us:List Value) (vs:List V) (Q:VK) (E:XK),YA k A→Jdi P w K mg base A outer s H→BindsTo s fd args (ps.zip us)→Jt vs us→sp vs H Q E →
  codeAny (model P w) A (.call (.ref f) args) (CR CX outer P w H s Q E) s
theorem JM.mono {P:Program} {w:World} {K:PySem.W.Frag} {mg:Str→Option Value} {base:Heap} {CX:CXT} {j k:Nat} {f:Addr} {fd:FuncData} {ps:List Str} {sp:Sp} (F:JM P w K mg base CX j f fd ps sp) (h:j≤k) :
  JM P w K mg base CX k f fd ps sp:=⟨F.len,fun A outer s H args us vs Q E hr=>F.run A outer s H args us vs Q E (hr.mono h)⟩
theorem JM.imp {P:Program} {w:World} {K:PySem.W.Frag} {mg:Str→Option Value} {base:Heap} {CX:CXT} {k:Nat} {f:Addr} {fd:FuncData} {ps:List Str} {sp sp':Sp} (F:JM P w K mg base CX k f fd ps sp)
  (h:∀ vs H Q E,sp' vs H Q E→sp vs H Q E):JM P w K mg base CX k f fd ps sp' :=
 ⟨fun vs H Q E q=>F.len vs H Q E (h _ _ _ _ q),fun A outer s H args us vs Q E hr he hb hv hs=>F.run A outer s H args us vs Q E hr he hb hv (h _ _ _ _ hs)⟩
theorem Jdi.make {P:Program} {w:World} {K:PySem.W.Frag} {mg:Str→Option Value} {base:Heap} {A:Around} {outer:List Env} {s:Shared} {H:Hp} (e:Jdi P w K mg base A outer s H) (C:Addr) (us:List Value) (kw:List (Str×Value)) :
  Jdi P w K mg base (A.under (.builtin "type.__call__" ⟨.ref C :: us,kw⟩)) outer s H:=⟨by first | exact e.frames | (simpa [Around.under,Code.envs,Code.isFrame,pushEnvs] using e.frames),e.mod,e.bs,e.bsz,e.funs,e.frf,e.hok,e.bare⟩
theorem Jdi.in1 {P:Program} {w:World} {K:PySem.W.Frag} {mg:Str→Option Value} {base:Heap} {A:Around} {outer:List Env} {s:Shared} {H:Hp} (e:Jdi P w K mg base A outer s H) :
  Jdi P w K mg base A.in1 outer s H:=⟨e.frames,e.mod,e.bs,e.bsz,e.funs,e.frf,e.hok,e.bare⟩
section
variable {X:Cx} {pins:List (Addr×Obj)} {σ:St} {H:Hp} {s s':Shared}
theorem Jk.env0 (I:Jk X pins σ H s):Jdi X.prog X.w X.K X.mg X.base X.A X.stack s H :=
 ⟨I.ok.frames,I.ok.mod,I.bs,Nat.le_trans I.ok.bsz I.sz,I.stack,I.stkFree,I.hok,I.bare⟩
theorem Jk.after {Q:VK} {u:Value} (I:Jk X pins σ H s) (h:CE X.stack X.prog X.w H s Q u s'):EP X pins σ Q u s':=by
 obtain ⟨v,H',os,bare,un,hok,r,q⟩:=h;obtain ⟨hh,g,d,t,os'⟩:=s';obtain rfl:os'=s.os:=os;exact ⟨v,H',I.call (h':=hh) (g':=g) (d':=d) (t':=t) (ch:=[]) un hok bare (fun b z=>absurd z (by simp)),r,q⟩
end
def Jmv (sp:Sp) (dvs:List V) (E:XK) (t:TA):TE:=fun σ H Q=>t σ H fun vs H1=>sp (vs ++ dvs) H1 Q E
def Jor (C:Addr) (m:Str) (sp:Sp) (dvs:List V) (E:XK) (ta:TE) (t:TA):TE:=fun σ H Q=>ta σ H fun x H1=>∃ a dx fs,x=.ref a∧H1 a=some (.ins C dx fs)∧fs.lookup m=none ∧
 t σ H1 fun vs H2=>sp (x :: (vs ++ dvs)) H2 Q E
def Jos (C:Addr) (sp:Sp) (dvs:List V) (E:XK) (t:TA):TE:=fun σ H Q=>t σ H fun vs H1=>∀ x dx,H1 x=none→H1 dx=none→dx≠x →
 sp (.ref x :: (vs ++ dvs)) (upd (upd H1 dx (.own x)) x (.ins C dx [])) (fun v H2=>v=.non∧Q (.ref x) H2) E
def JbL (K:PySem.W.Frag) (fd:FuncData) (ps:List Str) (ds:List Value):Prop :=
 ∀ (s:Shared) (us:List Value),K.In s.heap→(us ++ ds).length=ps.length→BindsTo s fd ⟨us,[]⟩ (ps.zip (us ++ ds))
theorem JbL.all {K:PySem.W.Frag} {fd:FuncData} {ps:List Str} (h:∀ us:List Value,us.length=ps.length→bindArgs fd ⟨us,[]⟩=pure (ps.zip us)):JbL K fd ps []:=fun s us _ hl=>by
 rw [List.append_nil] at hl ⊢;exact .of_eq (h us hl)
def Jbk (CX:CXT) (X:Cx) (E:XK):Prop:=∀ (pins:List (Addr×Obj)) (σ:St) (H:Hp) (s:Shared) (e:Value) (s':Shared),Jk X pins σ H s→CX X.stack H s E e s'→X.xe e s'
section
variable {X:Cx} {CX:CXT} {k:Nat} {f C:Addr} {fd:FuncData} {ps:List Str} {sp:Sp} {dvs:List V} {ds:List Value} {E:XK} {x m:Str} {p pos apos:Pos} {e o:Expr} {es:List Expr} {ta:TE} {t:TA}
theorem Jkd {pins:List (Addr×Obj)} {σ:St} {H:Hp} {s:Shared} {Q:VK} {us:List Value} {vs:List V} (F:JM X.prog X.w X.K X.mg X.base CX k f fd ps sp) (hr:YA k X.A) (hb:JbL X.K fd ps ds) (hd:Jt dvs ds) (hx:Jbk CX X E)
  (I:Jk X pins σ H s) (r:Jt vs us) (h:sp (vs ++ dvs) H Q E):wpAny (model X.prog X.w) X.A (call (.ref f) us) (EP X pins σ Q) X.xe s:=by
 have r2:Jt (vs ++ dvs) (us ++ ds):=r.append hd;have hl:(us ++ ds).length=ps.length:=by rw [← r2.length]; exact F.len _ _ _ _ h
 refine wpAny_call (codeAny_mono (F.run X.A X.stack s H ⟨us,[]⟩ (us ++ ds) (vs ++ dvs) Q E hr I.env0 (hb s us I.kIn hl) r2 h) fun r s' hq=>?_);cases r with
 | error e=>exact hx pins σ H s e s' I hq
 | ok fl =>
  cases fl with
  | ret u=>exact I.after hq
  | next=>exact False.elim hq
  | brk=>exact False.elim hq
  | cont=>exact False.elim hq
theorem Jm2 (F:JM X.prog X.w X.K X.mg X.base CX k f fd ps sp) (hr:YA k X.A) (hg:Gl X x) (hm:X.mg x=some (.ref f)) (hk:PySem.W.keepIn X.K (.ref f)=true) (hb:JbL X.K fd ps ds) (hd:Jt dvs ds) (hx:Jbk CX X E)
  (ha:PA X (e :: es) t) (hdb:(x == ("__debug__" : Str))=false:=by decide) (he:starEach (e :: es) X.env=(false,eval e X.env) :: starEach es X.env:=by rfl) (hpl:(backTo pos (starEach es X.env)).any (·.1)=false:=by rfl) :
  PE X (.Call (.Name x p) (e :: es) [] pos) (Jmv sp dvs E t):=by
 intro pins s σ H Q I h;refine wpAny_Call_Name_kw (JeG I hg hm ?_ hdb);refine PySem.W.callWith_K (h₀:=X.base) I.ok.mod.kin hk (JJ (ha pos pins s σ H _ I h) fun us s1 ⟨vs,H1,I1,r,q⟩=>⟨I1.kIn,?_⟩) he hpl;exact Jkd F hr hb hd hx I1 r q
theorem JS {pl:Sem Bool} (he:PE X o ta) (c:Cls X.K C) (hm:Jmo X.K C m f) (F:JM X.prog X.w X.K X.mg X.base CX k f fd ps sp) (hr:YA k X.A) (hb:JbL X.K fd ps ds) (hd:Jt dvs ds) (hx:Jbk CX X E) (ha:PA X (e :: es) t)
  (hst:starEach (e :: es) X.env=(false,eval e X.env) :: starEach es X.env:=by rfl) (hpl:(backTo pos (starEach es X.env)).any (·.1)=false:=by rfl)
  (ht:eval (.Call (.Attribute o m apos) (e :: es) [] pos) X.env=(do
   let ov ← eval o X.env
   standAt apos.atName
   let (f,first) ← holding [ov] (getMethod ov m pl)
   callWith pos f first (backTo pos (starEach (e :: es) X.env)) (backToKw pos (keywordEach [] X.env))):=by rfl) :
  PE X (.Call (.Attribute o m apos) (e :: es) [] pos) (Jor C m sp dvs E ta t):=by
 intro pins s σ H Q I h;refine PySem.W.methodCall_KW (pl:=pl) (JJ (he pins s σ H _ I h) fun u s1 ⟨x,H1,I1,rx,a,dx,fs,ex,ea,l,q⟩=>?_) ht;subst ex;obtain rfl:u=Value.ref a:=rx;refine JjC I1 ea c hm l ?_;refine PySem.W.callWith_K (first:=[.ref a]) (h₀:=X.base) I.ok.mod.kin hm.kp (JJ (ha pos pins s1 σ H1 _ I1 q) fun us s2 ⟨vs,H2,I2,r,q2⟩=>⟨I2.kIn,?_⟩) hst hpl;exact Jkd (us:=.ref a :: us) (vs:=.ref a :: vs) F hr hb hd hx I2 (.cons rfl r) q2
structure Mk (K:PySem.W.Frag) (C f:Addr):Prop where
 makes:PySem.W.makesIn K C=true
 init:PySem.W.findIn K (.ref C) "__init__" = some (some (.ref f))
 fn:PySem.W.isFn K (.ref f)=true
 kp:PySem.W.keepIn K (.ref C)=true
theorem JlK {pins:List (Addr×Obj)} {σ:St} {H:Hp} {s:Shared} {Q:VK} {us:List Value} {vs:List V} (M:Mk X.K C f) (F:JM X.prog X.w X.K X.mg X.base CX k f fd ps sp) (hr:YA (k + 1) X.A) (hb:JbL X.K fd ps ds) (hd:Jt dvs ds)
  (hx:Jbk CX X E) (I:Jk X pins σ H s) (r:Jt vs us)
  (h:∀ x dx,H x=none→H dx=none→dx≠x→sp (.ref x :: (vs ++ dvs)) (upd (upd H dx (.own x)) x (.ins C dx [])) (fun v H2=>v=.non∧Q (.ref x) H2) E) :
  wpAny (model X.prog X.w) X.A (call (.ref C) us) (EP X pins σ Q) X.xe s:=by
 have hq:=h (s.heap.objs.size + 1) s.heap.objs.size (I.hok.fresh (Nat.le_succ _)) (I.hok.fresh (Nat.le_refl _)) (Nat.ne_of_lt (Nat.lt_succ_self _));have I2:=Jk.made (C:=C) I;have r2:Jt (V.ref (s.heap.objs.size + 1) :: (vs ++ dvs)) (Value.ref (s.heap.objs.size + 1) :: (us ++ ds)):=.cons rfl (r.append hd);have hl:(Value.ref (s.heap.objs.size + 1) :: us ++ ds).length=ps.length:=by
  have e:=r2.length;rw [F.len _ _ _ _ hq] at e;exact e.symm
 refine wpAny_call (Jl2 (f:=f) I.kIn M.makes M.init (beq_iff_eq.mp M.fn) (codeAny_mono (F.run _ X.stack _ _ ⟨Value.ref (s.heap.objs.size + 1) :: us,[]⟩ (Value.ref (s.heap.objs.size + 1) :: (us ++ ds)) _ _ E (hr.make C us [])
  (I2.env0.make C us []) (hb _ (Value.ref (s.heap.objs.size + 1) :: us) I2.kIn hl) r2 hq) fun r s' hq'=>?_))
 cases r with
 | error e=>exact hx pins σ _ _ e s' I2 hq'
 | ok fl =>
  cases fl with
  | ret u =>
   obtain ⟨v,H',I3,rv,ev,q3⟩:=I2.after hq';subst ev;exact ⟨rv,⟨V.ref (s.heap.objs.size + 1),H',I3,rfl,q3⟩⟩
  | next=>exact False.elim hq'
  | brk=>exact False.elim hq'
  | cont=>exact False.elim hq'
theorem JiO (M:Mk X.K C f) (F:JM X.prog X.w X.K X.mg X.base CX k f fd ps sp) (hr:YA (k + 1) X.A) (hg:Gl X x) (hm:X.mg x=some (.ref C)) (hb:JbL X.K fd ps ds) (hd:Jt dvs ds) (hx:Jbk CX X E)
  (ha:PA X (e :: es) t) (hdb:(x == ("__debug__" : Str))=false:=by decide) (he:starEach (e :: es) X.env=(false,eval e X.env) :: starEach es X.env:=by rfl) (hpl:(backTo pos (starEach es X.env)).any (·.1)=false:=by rfl) :
  PE X (.Call (.Name x p) (e :: es) [] pos) (Jos C sp dvs E t):=by
 intro pins s σ H Q I h;refine wpAny_Call_Name_kw (JeG I hg hm ?_ hdb);refine PySem.W.callWith_K (h₀:=X.base) I.ok.mod.kin M.kp (JJ (ha pos pins s σ H _ I h) fun us s1 ⟨vs,H1,I1,r,q⟩=>⟨I1.kIn,?_⟩) he hpl;exact JlK M F hr hb hd hx I1 r q
end
structure Jx (N P:List Str) (sc:Scope):Prop where
 kind:sc.kind=.function
 co:sc.isCoroutine=false
 gen:sc.isGenerator=false
 nd:N.Nodup
 pre:N.take P.length=P
 par:∀ x∈P,sc.names.lookup x=some .local∨sc.names.lookup x=some .cell
 nofree:∀ y∈sc.names,y.2≠.free
theorem Jhi {kindOf:Str→Option NameKind} {x:Str}:∀ {binds:List (Str×Value)} {m:Str→Option Value},(∀ v,(x,v)∉binds)→bindL kindOf binds m x=m x
 | [],_,_=>rfl
 | (n,v) :: r,m,h=>by
  unfold bindL;rw [Jhi fun w hw=>h w (List.mem_cons_of_mem _ hw)];split
  ·have:x≠n:=by rintro rfl; exact h v List.mem_cons_self
   simp [this]
  ·rfl
theorem Jhk {kindOf:Str→Option NameKind} {x:Str}:∀ {binds:List (Str×Value)} {m:Str→Option Value},(∀ v,(x,v)∉binds)→bindC kindOf binds m x=m x
 | [],_,_=>rfl
 | (n,v) :: r,m,h=>by
  unfold bindC;rw [Jhk fun w hw=>h w (List.mem_cons_of_mem _ hw)];split
  ·rfl
  ·have:x≠n:=by rintro rfl; exact h v List.mem_cons_self
   simp [this]
theorem Jhj {kindOf:Str→Option NameKind} {x:Str} {v:Value}:∀ {P:List Str} {vs:List Value} {i:Nat} {m:Str→Option Value},P.Nodup→P[i]?=some x→vs[i]?=some v→kindOf x=some .local →
  bindL kindOf (P.zip vs) m x=some v
 | [],_,_,_,_,h,_,_=>by simp at h
 | _ :: _,[],_,_,_,_,h,_=>by simp at h
 | p :: P,w :: vs,0,m,nd,h1,h2,hk=>by
  simp at h1 h2; subst h1; subst h2;show bindL kindOf ((p,w) :: P.zip vs) m p=_;unfold bindL;rw [Jhi fun v hv=>(List.nodup_cons.mp nd).1 (List.of_mem_zip hv).1,if_pos hk];simp
 | p :: P,w :: vs,i + 1,m,nd,h1,h2,hk=>by
  show bindL kindOf ((p,w) :: P.zip vs) m x=_;unfold bindL;exact Jhj (i:=i) (List.nodup_cons.mp nd).2 (by simpa using h1) (by simpa using h2) hk
theorem Jhl {kindOf:Str→Option NameKind} {x:Str} {v:Value}:∀ {P:List Str} {vs:List Value} {i:Nat} {m:Str→Option Value},P.Nodup→P[i]?=some x→vs[i]?=some v→kindOf x≠some .local →
  bindC kindOf (P.zip vs) m x=some v
 | [],_,_,_,_,h,_,_=>by simp at h
 | _ :: _,[],_,_,_,_,h,_=>by simp at h
 | p :: P,w :: vs,0,m,nd,h1,h2,hk=>by
  simp at h1 h2; subst h1; subst h2;show bindC kindOf ((p,w) :: P.zip vs) m p=_;unfold bindC;rw [Jhk fun v hv=>(List.nodup_cons.mp nd).1 (List.of_mem_zip hv).1,if_neg hk];simp
 | p :: P,w :: vs,i + 1,m,nd,h1,h2,hk=>by
  show bindC kindOf ((p,w) :: P.zip vs) m x=_;unfold bindC;exact Jhl (i:=i) (List.nodup_cons.mp nd).2 (by simpa using h1) (by simpa using h2) hk
def Ye (N:List Str) (vs:List V):St:=vs.map some ++ List.replicate (N.length - vs.length) none
def Zp (CX:CXT) (P:Program) (w:World) (K:PySem.W.Frag) (mg:Str→Option Value) (base:Heap) (N:List Str) (qual:Str) (scope:Scope) (f:Addr) (cd:Value) (A:Around) (outer:List Env) (s:Shared) (H:Hp) (E:XK):Cx where
 prog:=P
 w:=w
 K:=K
 mg:=mg
 base:=base
 A:=A.deeper (envOfC qual scope s.heap.objs.size f cd)
 N:=N
 s₀:=s
 H₀:=H
 env:=envOfC qual scope s.heap.objs.size f cd
 outer:=outer
 stack:=envOfC qual scope s.heap.objs.size f cd :: outer
 ex:=[]
 calm:=true
 fn:=fun _=>true
 pn:=[]
 xe:=fun e s'=>wpAny (model P w) (A.deeper (envOfC qual scope s.heap.objs.size f cd)) (leaving (envOfC qual scope s.heap.objs.size f cd) e) (fun _ s''=>CX outer H s E e s'') (fun e' s''=>CX outer H s E e' s'') s'
theorem Jir {sc:Scope} {n:Nat} {x:Str} (h:sc.names.lookup x=some .cell):∃ c,(cellsFrom n sc.names []).lookup x=some c:=by
 have q:=PySem.W.cellsFrom_some sc.names n [] (.inl h);exact Option.isSome_iff_exists.mp q
theorem JkF {CX:CXT} {P:Program} {w:World} {K:PySem.W.Frag} {mg:Str→Option Value} {base:Heap} {N ps:List Str} {qual:Str} {scope:Scope} {f:Addr} {cd:Value} {A:Around} {outer:List Env} {s s1:Shared} {H:Hp} {E:XK} {us:List Value} {vs:List V}
  (S:Jx N ps scope) (hd:A.handled=none) (e0:Jdi P w K mg base A outer s H) (hl:vs.length=ps.length) (r:Jt vs us)
  (x:InCallC s s.heap.objs.size (bindL (envOfC qual scope s.heap.objs.size f cd).kindOf (ps.zip us) fun _=>none) (cellsFrom (s.heap.objs.size + 1) scope.names []) (bindC (envOfC qual scope s.heap.objs.size f cd).kindOf (ps.zip us) fun _=>none) s1) :
  Jk (Zp CX P w K mg base N qual scope f cd A outer s H E) [] (Ye N vs) H s1:=by
 have hpl:ps.length≤N.length:=by have:=congrArg List.length S.pre; rw [List.length_take] at this; omega
 obtain ⟨h1,tk,rfl,hk⟩:=x.done;have noA:∀ b:Addr,b∉(Zp CX P w K mg base N qual scope f cd A outer s H E).ex:=fun b z=>absurd (show b∈([]:List Addr) from z) (by simp)
 refine ⟨⟨e0.mod,S.kind,rfl,rfl,Nat.le_refl _,fun y z c h1 h2=>?_,fun y hy=>?_,fun y c _ h=>?_,fun _=>hd,Around.frames_deeper e0.frames,.inr ⟨rfl,rfl⟩,fun b z=>absurd z (noA b),e0.bs,e0.bsz,fun b _ _=>noA b,fun b z=>absurd z (noA b),e0.funs,e0.frf⟩,
  rfl,e0.bare,Un.kept hk,⟨_,x.toInCall.ns,fun i y v h1 h2 h3=>?_⟩,fun y c h=>⟨_,x.cell y c h⟩,e0.hok.fresh (Nat.le_refl _),fun y c h=>?_,fun p hp=>absurd (show p∈([]:List (Addr×Obj)) from hp) (by simp),e0.hok.kept hk,?_⟩
 ·exact name_of_addr x.apart (PySem.mem_of_lookup h1) (PySem.mem_of_lookup h2)
 ·have hy:scope.names.lookup y=some .cell∨scope.names.lookup y=some .free:=hy;rcases hy with hy | hy
  ·exact Jir hy
  ·exact absurd rfl (S.nofree _ (PySem.mem_of_lookup hy))
 ·exact Nat.le_of_lt (x.above y c (PySem.mem_of_lookup h))
 ·have hi:i < vs.length:=by
   unfold Ye at h2;by_cases hi:i < vs.length
   ·exact hi
   ·rw [List.getElem?_append_right (by simpa using hi)] at h2;rw [List.getElem?_replicate] at h2;split at h2 <;> cases h2
  have ha:vs[i]?=some v:=by
   unfold Ye at h2;rw [List.getElem?_append_left (by simpa using hi),List.getElem?_map] at h2;cases e:vs[i]? with
   | none=>rw [e] at h2; cases h2
   | some a=>rw [e] at h2; cases h2; rfl
  obtain ⟨u,hu,rv⟩:=r.get ha;have hp:ps[i]?=some y:=by
   rw [← S.pre,List.getElem?_take_of_lt (by omega)]; exact h1
  have ndP:ps.Nodup:=by rw [← S.pre]; exact S.nd.sublist (List.take_sublist _ _)
  refine ⟨u,rv,?_⟩;rcases S.par y (List.mem_of_getElem? hp) with k | k
  ·exact .inl ⟨k,Jhj ndP hp hu k⟩
  ·obtain ⟨c,e⟩:=Jir (n:=s.heap.objs.size + 1) k;refine .inr ⟨.inl k,c,e,?_⟩;have q:=x.cell y c e;rw [Jhl ndP hp hu (by show scope.names.lookup y≠_; rw [k]; decide)] at q;exact q
 ·exact e0.hok.fresh (Nat.le_of_lt (x.above y c (PySem.mem_of_lookup h)))
 ·unfold Ye;show _=N.length;rw [List.length_append,List.length_map,List.length_replicate];omega
theorem JmC {CX:CXT} {P:Program} {w:World} {K:PySem.W.Frag} {mg:Str→Option Value} {base:Heap} {k:Nat} {f:Addr} {name qual:Str} {params:Arguments} {body:List Stmt} {scope:Scope} {dV kV doc pm cdv ct oc:Value} {an od:Option Addr}
  {osl:Array (Option Value)} {N ps:List Str} {sp:Sp} (lk:K.lookup f=some ⟨oc,od,.func (PySem.W.fnOf name qual params body scope dV kV doc pm an cdv ct),osl⟩) (hcd:PySem.W.codeIn K cdv qual=true) (S:Jx N ps scope)
  (len:∀ vs H Q E,sp vs H Q E→vs.length=ps.length)
  (hbody:∀ (A:Around) (outer:List Env) (s:Shared) (H:Hp) (vs:List V) (Q:VK) (E:XK),YA k (A.deeper (envOfC qual scope s.heap.objs.size f cdv))→sp vs H Q E →
   ∃ t,PSs (Zp CX P w K mg base N qual scope f cdv A outer s H E) body t∧t { nx:=fun _ H'=>Q .non H',rt:=Q } (Ye N vs) H) :
  JM P w K mg base CX (k + 1) f (PySem.W.fnOf name qual params body scope dV kV doc pm an cdv ct) ps sp:=by
 refine ⟨len,fun A outer s H args us vs Q E hr e0 hb r hsp=>?_⟩;have hl:=len _ _ _ _ hsp;have KX:K.In s.heap:=e0.mod.kin.keeps fun b o e=>(e0.bs b o e).1
 have lim:s.heap.NoLimit:=e0.mod.nolimit.keeps fun b o e=>(e0.bs b o e).1
 have hkind:∀ y∈ps.zip us,scope.names.lookup y.1=some .local∨(scope.names.lookup y.1=some .cell∧((cellsFrom (s.heap.objs.size + 1) scope.names []).lookup y.1).isSome=true):=fun ⟨n,v⟩ hy=>by
  rcases S.par n (List.of_mem_zip hy).1 with q | q
  ·exact .inl q
  ·exact .inr ⟨q,PySem.W.cellsFrom_some _ _ _ (.inl q)⟩
 refine codeAny_call_function hr.depth (KX _ _ lk) rfl S.co S.gen rfl (PySem.W.codeRec_of KX hcd) (hb _ _ _ _ ?_);refine wpAny_newFunctionEnv_cells S.kind hkind fun env he s1 x=>?_
 subst he;refine ⟨lim.keeps x.toInCall.keep,codeAny_func ?_⟩;obtain ⟨t,ht,hq⟩:=hbody A outer s H vs Q E (hr.deeper _) hsp;have I:Jk (Zp CX P w K mg base N qual scope f cdv A outer s H E) [] (Ye N vs) H s1:=JkF S hr.hd e0 hl r x;refine wpAny_mono (ht [] s1 (Ye N vs) H _ I hq) (fun fl s' hs=>?_) fun e s' hs=>hs
 have fin:∀ {σ':St} {H':Hp} {v:V} {u:Value},Jk (Zp CX P w K mg base N qual scope f cdv A outer s H E) [] σ' H' s'→JF v u→Q v H'→CE outer P w H s Q u s' :=
  fun {σ' H' v u} J rv q=>⟨v,H',J.os,J.bare,J.base,J.hok,rv,q⟩
 cases fl with
 | ret u =>
  obtain ⟨v,σ',H',J,rv,q⟩:=hs;exact fin J rv q
 | next =>
  obtain ⟨σ',H',J,q⟩:=hs;exact fin (v:=V.non) (u:=Value.none) J rfl q
 | brk =>
  obtain ⟨_,_,_,q⟩:=hs;exact False.elim q
 | cont =>
  obtain ⟨_,_,_,q⟩:=hs;exact False.elim q
end L2
namespace L2
open PySem PySem.Spec PyProof.Rows
section
variable {X:Cx} {x:Str} {p pos:Pos} {e:Expr} {es:List Expr} {t:TA} {id T:String} {r:List V→Hp→VK→Prop}
def tCB (r:List V→Hp→VK→Prop) (t:TA):TE:=fun σ H Q=>t σ H fun vs H1=>r vs H1 Q
theorem JO (hc:Zb X (.builtin id) r) (hg:Gl X x) (hm:X.mg x=none) (hv:bootBuiltins x=some (.builtin id)) (ha:PA X (e :: es) t) (hn:x ≠ "__name__":=by decide) (hdb:(x == ("__debug__" : Str))=false:=by decide)
  (he:starEach (e :: es) X.env=(false,eval e X.env) :: starEach es X.env:=by rfl) (hpl:(backTo pos (starEach es X.env)).any (·.1)=false:=by rfl):PE X (.Call (.Name x p) (e :: es) [] pos) (tCB r t):=by
 intro pins s σ H Q I h;refine wpAny_Call_Name_kw (Jef I hg hm hv ?_ hn hdb);exact PyProof.Rows.callWith_builtin1 (JJ (ha pos pins s σ H _ I h) fun us s1 ⟨vs,H1,I1,r1,q1⟩=>hc pins s1 σ H1 vs us Q I1 r1 q1) he hpl
theorem YO (hc:Zb X (.type T) r) (hg:Gl X x) (hm:X.mg x=none) (hv:bootBuiltins x=some (.type T)) (ha:PA X (e :: es) t) (hn:x ≠ "__name__":=by decide) (hdb:(x == ("__debug__" : Str))=false:=by decide)
  (he:starEach (e :: es) X.env=(false,eval e X.env) :: starEach es X.env:=by rfl) (hpl:(backTo pos (starEach es X.env)).any (·.1)=false:=by rfl):PE X (.Call (.Name x p) (e :: es) [] pos) (tCB r t):=by
 intro pins s σ H Q I h;refine wpAny_Call_Name_kw (Jef I hg hm hv ?_ hn hdb);exact PyProof.Rows.callWith_type1 (JJ (ha pos pins s σ H _ I h) fun us s1 ⟨vs,H1,I1,r1,q1⟩=>hc pins s1 σ H1 vs us Q I1 r1 q1) he hpl
end
end L2
namespace HT
open PySem PyProof.Rows
section
variable {prog:Program} {w:World} {A:Around} {E:Value→Shared→Prop} {s:Shared}
def sIx (n d:Nat):Option Int→Nat
 | none=>d
 | some v=>if v < 0 then (v + (n:Int)).toNat else min v.toNat n
theorem JlJ (n d:Nat):sIx n d none=d:=rfl
theorem JiL (n d k:Nat):sIx n d (some (k:Int))=min k n:=by
 show (if (k:Int) < 0 then ((k:Int) + (n:Int)).toNat else min (k:Int).toNat n)=min k n;rw [if_neg (by omega),Int.toNat_natCast]
end
end HT
namespace L2
open PySem PySem.Spec PyProof.Rows
abbrev TO:=St→Hp→(Option Int→Hp→Prop)→Prop
def PO (X:Cx) (e:Option Expr) (t:TO):Prop :=
 ∀ (pins:List (Addr×Obj)) (s:Shared) (σ:St) (H:Hp) (Q:Option Int→Hp→Prop),Jk X pins σ H s→t σ H Q →
  wpAny (model X.prog X.w) X.A (evalPart e X.env) (fun u s'=>∃ o H',Jk X pins σ H' s'∧IsPart u o∧Q o H') X.xe s
def JmM:TO:=fun _ H Q=>Q none H
def Jon (t:TE):TO:=fun σ H Q=>t σ H fun x H1=>∃ i,x=.int i∧Q (some i) H1
section
variable {X:Cx} {e:Expr} {te:TE} {lo hi:Option Expr} {tl th:TO} {pos p2:Pos}
theorem Jgm:PO X none JmM:=by
 intro pins s σ H Q I h;rw [evalPart_none];exact wpAny_pure ⟨none,H,I,.none,h⟩
theorem Jdr (h:PE X e te):PO X (some e) (Jon te):=by
 intro pins s σ H Q I hw;rw [evalPart_some];refine JJ (h pins s σ H _ I hw) fun u s1 ⟨x,H1,I1,r1,q1⟩=>?_
 obtain ⟨i,rfl,q⟩:=q1;obtain ⟨t,rfl⟩:=r1;exact ⟨some i,H1,I1,.int i t,q⟩
def SlR (X:Cx) (r:V→Option Int→Option Int→Hp→VK→Prop):Prop :=
 ∀ (pins:List (Addr×Obj)) (s:Shared) (σ:St) (H:Hp) (x:V) (v vl vu:Value) (lo hi:Option Int) (sl:Addr) (Q:VK),Jk X pins σ H s→JF x v→s.heap.IsSliceOf sl vl vu .none→IsPart vl lo→IsPart vu hi→r x lo hi H Q →
  ∃ T id,typeLookup (.type T) "__getitem__" = pure (some (.builtin id))∧s.TypeIs v T∧wpAny (model X.prog X.w) X.A (getItem v (.ref sl)) (EP X pins σ Q) X.xe s
def tSl (r:V→Option Int→Option Int→Hp→VK→Prop) (te:TE) (tl th:TO):TE:=fun σ H Q=>te σ H fun x H1=>tl σ H1 fun l H2=>th σ H2 fun u H3=>r x l u H3 Q
theorem JdK {r:V→Option Int→Option Int→Hp→VK→Prop} (hr:SlR X r) (he:PE X e te) (hl:PO X lo tl) (hu:PO X hi th):PE X (.Subscript e (.Slice lo hi none p2) pos) (tSl r te tl th):=by
 intro pins s σ H Q I h;refine Subscript_ (JJ (he pins s σ H _ I h) fun v s1 ⟨x,H1,I1,r1,q1⟩=>?_);refine wpAny_Slice (JJ (hl pins s1 σ H1 _ I1 q1) fun vl s2 ⟨l,H2,I2,pl,q2⟩=>JJ (hu pins s2 σ H2 _ I2 q2) fun vu s3 ⟨u,H3,I3,pu,q3⟩=>?_);rw [evalPart_none];refine wpAny_pure ?_;have I4:Jk X pins σ H3 { s3 with heap:=s3.heap.push { cls:=.type "slice",data:=.fields #[vl,vu,.none] } }:=I3.kept (t':=s3.toks) fun b ob q=>Heap.get?_push_of_some _ q
 obtain ⟨T,id,hT,ht,hg⟩:=hr pins { s3 with heap:=s3.heap.push { cls:=.type "slice",data:=.fields #[vl,vu,.none] } } σ H3 x v vl vu l u s3.heap.objs.size Q I4 r1 (Heap.IsSliceOf.new ..) pl pu q3;show wpAny (model X.prog X.w) X.A (subscriptTail e (.Slice lo hi none p2) v (.ref s3.heap.objs.size)) (EP X pins σ Q) X.xe { s3 with heap:=s3.heap.push { cls:=.type "slice",data:=.fields #[vl,vu,.none] } };exact tail_any (ops:=[.ref s3.heap.objs.size,v]) ht hT hg (by with_unfolding_all rfl)
def JaO (xs:List V) (lo hi:Option Int):List V:=(xs.drop (HT.sIx xs.length 0 lo)).take (HT.sIx xs.length xs.length hi - HT.sIx xs.length 0 lo)
theorem JiH (xs:List V) (lo hi:Option Int):(JaO xs lo hi).length≤xs.length:=by
 unfold JaO;rw [List.length_take,List.length_drop];omega
end
end L2
namespace L2
open PySem PySem.Spec PyProof.Rows
def ixN (n:Nat) (i:Int):Option Nat:=if 0≤i then (if i < n then some i.toNat else none) else if -(n:Int)≤i then some (i + n).toNat else none
def atI {α:Type} (xs:List α) (i:Int):Option α:=(ixN xs.length i).bind fun j=>xs[j]?
theorem JiS {n:Nat} {i:Int} {j:Nat} (h:ixN n i=some j):seqIndex? i n=some j∧j < n∧-(n:Int)≤i∧i < n:=by
 unfold ixN at h;by_cases h0:0≤i
 ·rw [if_pos h0] at h;by_cases h1:i < n
  ·rw [if_pos h1] at h;have e:i.toNat=j:=Option.some.inj h;exact ⟨by rw [seqIndex_of h0 h1,e],by omega,by omega,h1⟩
  ·rw [if_neg h1] at h; cases h
 ·rw [if_neg h0] at h;by_cases h1:-(n:Int)≤i
  ·rw [if_pos h1] at h;have e:(i + n).toNat=j:=Option.some.inj h;exact ⟨by rw [seqIndex_neg (by omega) h1,e],by omega,h1,by omega⟩
  ·rw [if_neg h1] at h; cases h
theorem JgG {α:Type} {xs:List α} {i:Int} {v:α} (h:atI xs i=some v):∃ j,seqIndex? i xs.length=some j∧xs[j]?=some v∧j < xs.length∧-(xs.length:Int)≤i∧i < xs.length:=by
 unfold atI at h;cases e:ixN xs.length i with
 | none=>rw [e] at h; cases h
 | some j =>
  rw [e] at h;obtain ⟨h1,h2,h3,h4⟩:=JiS e;exact ⟨j,h1,h,h2,h3,h4⟩
theorem ZU {α:Type} {xs:List α} {j:Nat} {v:α} (h:xs[j]?=some v):atI xs (j:Int)=some v:=by
 have hj:j < xs.length:=(List.getElem?_eq_some_iff.mp h).1;have e:ixN xs.length (j:Int)=some j:=by
  unfold ixN;rw [if_pos (by omega),if_pos (by omega)]; simp
 unfold atI; rw [e]; exact h
def Jnp (b:Expr):Prop:=∀ o i,subscripted b false o i=operate [o,i] (getItem o i)
def IxR (X:Cx) (r:R2):Prop :=
 ∀ (value slice:Expr) (pins:List (Addr×Obj)) (s:Shared) (σ:St) (H:Hp) (x y:V) (v u:Value) (Q:VK),Jk X pins σ H s→JF x v→JF y u→r x y H Q →
  subscripted slice false v u=operate [v,u] (getItem v u)→wpAny (model X.prog X.w) X.A (subscriptTail value slice v u) (EP X pins σ Q) X.xe s
def MtR (X:Cx) (id:String) (r:V→List V→Hp→VK→Prop):Prop :=
 ∀ (pins:List (Addr×Obj)) (s:Shared) (σ:St) (H:Hp) (x:V) (xs:List V) (v:Value) (us:List Value) (Q:VK),Jk X pins σ H s→JF x v→Jt xs us→r x xs H Q →
  wpAny (model X.prog X.w) X.A (call (.builtin id) (v :: us)) (EP X pins σ Q) X.xe s
section
variable {X:Cx} {a b:Expr} {ta tb:TE} {pos:Pos}
theorem JG {r:R2} (hr:IxR X r) (ha:PE X a ta) (hb:PE X b tb) (hs:Jnp b):PE X (.Subscript a b pos) (tOp r ta tb):=by
 intro pins s σ H Q I h;exact Subscript_ (Jmh ha hb I h fun v u s2 x y H2 I2 rx ry q=>hr a b pins s2 σ H2 x y v u Q I2 rx ry q (hs _ _))
def JhU (K:PySem.W.Frag):R2:=fun x y H Q=>∃ p xs i v,x=.ref p∧y=.int i∧Jq K H p xs∧atI xs i=some v∧Q v H
def JlL (K:PySem.W.Frag):R2:=fun x y H Q=>∃ p xs i v,x=.ref p∧y=.int i∧J0 K H p xs∧atI xs i=some v∧Q v H
def Jpi:R2:=fun x y H Q=>∃ z i c,x=.str z∧y=.int i∧z.length≤sizeLine∧atI z.cps.toList i=some c∧Q (.str ⟨#[c]⟩) H
theorem JH:IxR X (JhU X.K):=by
 intro value slice pins s σ H x y v u Q I rx ry h hs;obtain ⟨p,xs,i,z,rfl,rfl,hq,he,q⟩:=h;cases rx;obtain ⟨t,rfl⟩:=ry;obtain ⟨its,r,pl,hz⟩:=I.list hq;obtain ⟨j,h1,h2,h3,h4,h5⟩:=JgG he;obtain ⟨w,ew,rw'⟩:=r.get h2;have hl:=r.length;have hn:=Jdv;have fin:EP X pins σ Q w s:=⟨z,H,I,rw',q⟩
 by_cases h0:0≤i
 ·have hj:i.toNat=j:=by
   rw [seqIndex_of h0 h5] at h1;exact Option.some.inj h1
  exact item_listR pl.isList h0 (by omega) (by rw [hj]; simpa using ew) fin hs
 ·have hj:(i + (its.toArray.size:Int)).toNat=j:=by
   rw [seqIndex_neg (by omega) h4] at h1;rw [List.size_toArray,← hl];exact Option.some.inj h1
  exact subscriptTail_builtinR (x:=w) pl.isList.typeIs slot_list_getitem.lookup
   (wpAny_getItem_list_neg (Q:=fun r s'=>r=w∧EP X pins σ Q r s') pl.isList (by omega) (by rw [List.size_toArray] <;> omega) (by omega) (by rw [hj]; simpa using ew) ⟨rfl,fin⟩) hs
theorem Zy:IxR X (JlL X.K):=by
 intro value slice pins s σ H x y v u Q I rx ry h hs;obtain ⟨p,xs,i,z,rfl,rfl,hq,he,q⟩:=h;cases rx;obtain ⟨t,rfl⟩:=ry;obtain ⟨its,r,pl,hz⟩:=I.tuple hq;obtain ⟨j,h1,h2,h3,h4,h5⟩:=JgG he;obtain ⟨w,ew,rw'⟩:=r.get h2;have hl:=r.length;have hn:=Jdv;have fin:EP X pins σ Q w s:=⟨z,H,I,rw',q⟩
 exact subscriptTail_builtinR (x:=w) pl.typeIs slot_tuple_getitem.lookup
  (getItem_tuple (j:=j) (Q:=fun r s'=>r=w∧EP X pins σ Q r s') pl (by omega) (by omega) (by rw [List.size_toArray,← hl]; exact h1) (by simpa using ew) ⟨rfl,fin⟩) hs
theorem JkD:IxR X Jpi:=by
 intro value slice pins s σ H x y v u Q I rx ry h hs;obtain ⟨z,i,c,rfl,rfl,hz,he,q⟩:=h;obtain ⟨t,rfl⟩:=rx;obtain ⟨t',rfl⟩:=ry;obtain ⟨j,h1,h2,h3,h4,h5⟩:=JgG he;have hl:z.cps.toList.length=z.length:=by simp [Str.length]
 rw [hl] at h1 h4 h5;have hn:=Jdv;exact tail_any (typeIs_str s z t) slot_str_getitem.lookup (getItem_str (c:=c) (by
  have e1:decide (i < -(2 ^ 63:Int))=false:=decide_eq_false (by omega);have e2:decide (i≥2 ^ 63)=false:=decide_eq_false (by omega);rw [e1,e2,Bool.or_false]) (by rw [h1]; simpa using h2) ⟨.str ⟨#[c]⟩,H,I.tok _,⟨_,rfl⟩,q⟩) hs
theorem Jjy (its:List Value) (n j:Nat) (u:Value):Obj.mapSeq (·.setIfInBounds j u) { cls:=.type "list",data:=.seq its.toArray n }={ cls:=.type "list",data:=.seq (its.set j u).toArray n }:=by
 simp [Obj.mapSeq]
theorem Jk.lst {pins:List (Addr×Obj)} {σ:St} {H:Hp} {s:Shared} {p:Addr} {xs:List V} (I:Jk X pins σ H s) (h:H p=some (.lst xs)) :
  ∃ (its:List Value) (n:Nat),Jt xs its∧s.heap.get? p=some { cls:=.type "list",data:=.seq its.toArray n }∧xs.length≤sizeLine:=by
 obtain ⟨z,its,n,r,e⟩:=I.hok p _ h;exact ⟨its,n,r,e,z⟩
theorem Jk.lstUpd {pins:List (Addr×Obj)} {σ:St} {H:Hp} {s:Shared} {p:Addr} {xs ys:List V} {its its':List Value} {n n':Nat} {f:Obj→Obj} (I:Jk X pins σ H s) (h:H p=some (.lst xs))
  (ho:s.heap.get? p=some { cls:=.type "list",data:=.seq its.toArray n }) (hf:f { cls:=.type "list",data:=.seq its.toArray n }={ cls:=.type "list",data:=.seq its'.toArray n' }) (r:Jt ys its') (hz:ys.length≤sizeLine) (t:Nat) :
  Jk X pins σ (upd H p (.lst ys)) { s with heap:=s.heap.update p f,toks:=t }:=by
 have e:(s.heap.update p f).get? p=some { cls:=.type "list",data:=.seq its'.toArray n' }:=by
  rw [Heap.get?_update_self f ho (by rw [hf] <;> rfl),hf]
 refine I.write (x:=p) (e:=p) (by rw [h]; trivial) (.inl rfl) (fun b u hb q=>(Heap.get?_update_other _ _ (Ne.symm hb)).trans q) ⟨_,e⟩ ?_;exact ⟨hz,its',n',r,e⟩
def JoB:V→V→V→Hp→(Hp→Prop)→Prop:=fun o i v H Q=>∃ p xs k j,o=.ref p∧i=.int k∧H p=some (.lst xs)∧ixN xs.length k=some j∧Q (upd H p (.lst (xs.set j v)))
theorem Jlv:Joi X JoB:=by
 intro pins s σ H o i v ov iv u Q I ro ri rv h;obtain ⟨p,xs,k,j,rfl,rfl,hp,hj,q⟩:=h;cases ro;obtain ⟨t,rfl⟩:=ri;obtain ⟨its,n,r,ho,hz⟩:=I.lst hp;obtain ⟨h1,h2,h3,h4⟩:=JiS hj;have hl:=r.length;have hn:=Jdv;have I':Jk X pins σ (upd H p (.lst (xs.set j v))) { s with heap:=s.heap.update p (Obj.mapSeq (·.setIfInBounds j u)) } :=
  I.lstUpd hp ho (Jjy its n j u) (r.set rv j) (by rw [List.length_set]; exact hz) s.toks
 by_cases h0:0≤k
 ·have hk:k.toNat=j:=by
   rw [seqIndex_of h0 h4] at h1;exact Option.some.inj h1
  exact PySem.W.ki_setAt ho h0 (by omega) (by rw [List.size_toArray,← hl]; exact h4) (by rw [hk]; exact ⟨_,I',q⟩)
 ·have hk:(k + (its.toArray.size:Int)).toNat=j:=by
   rw [seqIndex_neg (by omega) h3] at h1;rw [List.size_toArray,← hl];exact Option.some.inj h1
  exact PySem.W.ki_setBack ho (by omega) (by rw [List.size_toArray,← hl]; exact h3) (by omega) (by rw [hk]; exact ⟨_,I',q⟩)
theorem JhN (lo hi:Option Int) (n:Nat):(sliceBounds lo hi none n).1=((HT.sIx n 0 lo:Nat):Int)∧(sliceBounds lo hi none n).2.1=((HT.sIx n n hi:Nat):Int)∧(sliceBounds lo hi none n).2.2=1:=by
 refine ⟨?_,?_,rfl⟩
 ·cases lo with
  | none=>simp [sliceBounds,HT.sIx]
  | some i =>
   simp only [sliceBounds,HT.sIx,Option.getD_none,show (1:Int) > 0 by decide,if_true];by_cases h:i < 0
   ·simp only [h,if_true] <;> omega
   ·simp only [h,if_false] <;> omega
 ·cases hi with
  | none=>simp [sliceBounds,HT.sIx]
  | some i =>
   simp only [sliceBounds,HT.sIx,Option.getD_none,show (1:Int) > 0 by decide,if_true];by_cases h:i < 0
   ·simp only [h,if_true] <;> omega
   ·simp only [h,if_false] <;> omega
theorem Jhr (its:List Value) (lo hi:Option Int):slicePick its.toArray lo hi none=((its.drop (HT.sIx its.length 0 lo)).take (HT.sIx its.length its.length hi - HT.sIx its.length 0 lo)).toArray:=by
 obtain ⟨h1,h2,h3⟩:=JhN lo hi its.toArray.size;unfold slicePick;rw [h1,h2,h3];simp only [sliceRange_one,pick_run,List.size_toArray] <;> rfl
def Jpg (K:PySem.W.Frag):V→Option Int→Option Int→Hp→VK→Prop:=fun x lo hi H Q=>∃ a xs,x=.ref a∧Jq K H a xs∧∀ p,H p=none→Q (.ref p) (upd H p (.lst (JaO xs lo hi)))
theorem Jf8:SlR X (Jpg X.K):=by
 intro pins s σ H x v vl vu lo hi sl Q I rx hs pl pu h;obtain ⟨a,xs,rfl,hx,q⟩:=h;cases rx;obtain ⟨its,r,ht,hz⟩:=I.list hx;have hlen:=r.length;refine ⟨"list",_,slot_list_getitem.lookup,ht.isList.typeIs,?_⟩;refine wpAny_getItem_list_slice ht.isList hs pl pu .none (by simp) ?_ (by rw [List.size_toArray] <;> omega);rw [Jhr,← hlen];refine ⟨.ref s.heap.objs.size,_,I.laid (t':=s.toks) (o:=.lst (JaO xs lo hi)) (fun b ob q=>Heap.get?_push_of_some _ q) (Nat.le_refl _) ?_,rfl,q _ (I.hok.fresh (Nat.le_refl _))⟩;exact ⟨Nat.le_trans (JiH xs lo hi) hz,_,0,(r.drop (HT.sIx xs.length 0 lo)).take (HT.sIx xs.length xs.length hi - HT.sIx xs.length 0 lo),Heap.get?_push_size _ rfl⟩
def Jcl:V→Bool
 | .non=>true
 | .bl _=>true
 | .int _=>true
 | .str _=>true
 | _=>false
def eqV:V→V→Bool
 | .non,.non=>true
 | .bl a,.bl b=>a == b
 | .bl a,.int b=>(if a then 1 else 0) == b
 | .int a,.bl b=>a == (if b then 1 else 0)
 | .int a,.int b=>a == b
 | .str a,.str b=>a == b
 | _,_=>false
theorem Jn8 {A:Around} {s:Shared} {y x:V} {u v:Value} (ry:JF y u) (rx:JF x v) (fy:Jcl y=true) (fx:Jcl x=true):SeqAt.EqAt A s u v (eqV y x):=by
 cases y with
 | non =>
  cases ry;cases x with
  | non=>cases rx; exact SeqAt.EqAt.same _
  | bl b=>cases rx; exact SeqAt.EqAt.none_bool b
  | int b=>obtain ⟨t,rfl⟩:=rx; exact SeqAt.EqAt.none_int b t
  | str b=>obtain ⟨t,rfl⟩:=rx; exact SeqAt.EqAt.none_str b t
  | _=>exact absurd (show false=true from fx) Bool.false_ne_true
 | bl a =>
  cases ry;cases x with
  | non=>cases rx; exact SeqAt.EqAt.bool_none a
  | bl b=>cases rx; exact SeqAt.EqAt.bool_bool a b
  | int b=>obtain ⟨t,rfl⟩:=rx; exact SeqAt.EqAt.bool_int a b t
  | str b=>obtain ⟨t,rfl⟩:=rx; exact SeqAt.EqAt.bool_str a b t
  | _=>exact absurd (show false=true from fx) Bool.false_ne_true
 | int a =>
  obtain ⟨t',rfl⟩:=ry;cases x with
  | non=>cases rx; exact SeqAt.EqAt.int_none a t'
  | bl b=>cases rx; exact SeqAt.EqAt.int_bool a t' b
  | int b=>obtain ⟨t,rfl⟩:=rx; exact SeqAt.EqAt.int_int a t' b t
  | str b=>obtain ⟨t,rfl⟩:=rx; exact SeqAt.EqAt.int_str a t' b t
  | _=>exact absurd (show false=true from fx) Bool.false_ne_true
 | str a =>
  obtain ⟨t',rfl⟩:=ry;cases x with
  | non=>cases rx; exact SeqAt.EqAt.str_none a t'
  | bl b=>cases rx; exact SeqAt.EqAt.str_bool a t' b
  | int b=>obtain ⟨t,rfl⟩:=rx; exact SeqAt.EqAt.str_int a t' b t
  | str b=>obtain ⟨t,rfl⟩:=rx; exact SeqAt.EqAt.str_str a t' b t
  | _=>exact absurd (show false=true from fx) Bool.false_ne_true
 | _=>exact absurd (show false=true from fy) Bool.false_ne_true
def eqU (x:V) (u:Value):Bool:=match u with
 | .none=>eqV .non x
 | .bool b=>eqV (.bl b) x
 | .int i _=>eqV (.int i) x
 | .str z _=>eqV (.str z) x
 | _=>false
theorem JkN {x y:V} {u:Value} (r:JF y u) (f:Jcl y=true):eqU x u=eqV y x:=by
 cases y with
 | non=>cases r; rfl
 | bl b=>cases r; rfl
 | int i=>obtain ⟨t,rfl⟩:=r; rfl
 | str z=>obtain ⟨t,rfl⟩:=r; rfl
 | _=>exact absurd (show false=true from f) Bool.false_ne_true
theorem Jdy {x:V}:∀ {xs:List V} {us:List Value},Jt xs us→xs.all Jcl=true→us.any (eqU x)=xs.any fun y=>eqV y x
 | _,_,.nil,_=>rfl
 | y :: xs,u :: us,.cons r t,f=>by
  rw [List.all_cons,Bool.and_eq_true] at f;rw [List.any_cons,List.any_cons,JkN r f.1,Jdy t f.2]
theorem JcO {A:Around} {s:Shared} {x:V} {v:Value} (rx:JF x v) (fx:Jcl x=true):∀ {xs:List V} {us:List Value},Jt xs us→xs.all Jcl=true→∀ u∈us,SeqAt.EqAt A s u v (eqU x u)
 | _,_,.nil,_=>fun u hu=>by cases hu
 | y :: xs,u :: us,.cons r t,f=>fun u' hu=>by
  rw [List.all_cons,Bool.and_eq_true] at f;rcases List.mem_cons.mp hu with rfl | hu
  ·rw [JkN r f.1]; exact Jn8 r rx f.1 fx
  ·exact JcO rx fx t f.2 u' hu
def inV (x:V) (xs:List V):Bool:=xs.any fun y=>eqV y x
def rIn (K:PySem.W.Frag) (neg:Bool):R2:=fun x y H Q=>∃ p xs,y=.ref p∧(Jq K H p xs∨J0 K H p xs)∧Jcl x=true∧xs.all Jcl=true∧Q (.bl (if neg then !inV x xs else inV x xs)) H
theorem Jkk:ZB X (compareOp .In) (rIn X.K false):=by
 intro pins s σ H x y v u Q I rx ry h;obtain ⟨p,xs,rfl,hq,fx,fs,q⟩:=h;cases ry;rcases hq with hq | hq
 ·obtain ⟨its,r,pl,hz⟩:=I.list hq;refine SeqAt.in_listAt (eqU x) pl.isList (fun w hw=>JcO rx fx r fs w (by simpa using hw)) ⟨.bl _,H,I,rfl,?_⟩;rw [show its.toArray.any (eqU x)=its.any (eqU x) by simp,Jdy r fs];exact q
 ·obtain ⟨its,r,pl,hz⟩:=I.tuple hq;refine SeqAt.in_tupleAt (eqU x) pl (fun w hw=>JcO rx fx r fs w (by simpa using hw)) ⟨.bl _,H,I,rfl,?_⟩;rw [show its.toArray.any (eqU x)=its.any (eqU x) by simp,Jdy r fs];exact q
theorem Jai:ZB X (compareOp .NotIn) (rIn X.K true):=by
 intro pins s σ H x y v u Q I rx ry h;obtain ⟨p,xs,rfl,hq,fx,fs,q⟩:=h;cases ry;rcases hq with hq | hq
 ·obtain ⟨its,r,pl,hz⟩:=I.list hq;refine SeqAt.notIn_listAt (eqU x) pl.isList (fun w hw=>JcO rx fx r fs w (by simpa using hw)) ⟨.bl _,H,I,rfl,?_⟩;rw [show its.toArray.any (eqU x)=its.any (eqU x) by simp,Jdy r fs];exact q
 ·obtain ⟨its,r,pl,hz⟩:=I.tuple hq;refine SeqAt.notIn_tupleAt (eqU x) pl (fun w hw=>JcO rx fx r fs w (by simpa using hw)) ⟨.bl _,H,I,rfl,?_⟩;rw [show its.toArray.any (eqU x)=its.any (eqU x) by simp,Jdy r fs];exact q
theorem Yp:Zb X (.builtin "len") (fun xs H Q=>∃ p ys,xs=[.ref p]∧(Jq X.K H p ys∨J0 X.K H p ys)∧Q (.int ys.length) H):=by
 intro pins s σ H xs us Q I r h;obtain ⟨p,ys,rfl,hq,q⟩:=h;obtain ⟨u,rfl,rx⟩:=Jex r;cases rx;have hn:=Jdv;rcases hq with hq | hq
 ·obtain ⟨its,r',pl,hz⟩:=I.list hq;have hlen:=r'.length;exact Calls.call_len_list pl.isList (by simp only [List.size_toArray] <;> omega) ⟨.int ys.length,H,I.tok _,⟨s.toks + 1,by rw [List.size_toArray,hlen]⟩,q⟩
 ·obtain ⟨its,r',pl,hz⟩:=I.tuple hq;have hlen:=r'.length;exact len_tuple pl (by simp only [List.size_toArray] <;> omega) ⟨.int ys.length,H,I.tok _,⟨s.toks + 1,by rw [List.size_toArray,hlen]⟩,q⟩
theorem Jer:Zb X (.builtin "len") (fun xs H Q=>∃ z,xs=[.str z]∧z.length≤sizeLine∧Q (.int z.length) H):=by
 intro pins s σ H xs us Q I r h;obtain ⟨z,rfl,hz,q⟩:=h;obtain ⟨u,rfl,t,rfl⟩:=Jex r;have hn:=Jdv;exact len_str (by omega) ⟨.int z.length,H,I.tok _,⟨_,rfl⟩,q⟩
theorem ZI:Zb X (.type "list") (fun xs H Q=>∃ p ys,xs=[.ref p]∧(Jq X.K H p ys∨J0 X.K H p ys)∧∀ l,H l=none→Q (.ref l) (upd H l (.lst ys))):=by
 intro pins s σ H xs us Q I r h;obtain ⟨p,ys,rfl,hq,q⟩:=h;obtain ⟨u,rfl,rx⟩:=Jex r;cases rx;have fin:∀ (its:List Value),Jt ys its→ys.length≤sizeLine→∀ (h':Heap) (c':Nat),(∀ b o',s.heap.get? b=some o'→h'.get? b=some o') →
   h'.get? s.heap.objs.size=some { cls:=.type "list",dict:=none,data:=.seq its.toArray c',slots:=#[] }→EP X pins σ Q (.ref s.heap.objs.size) { s with heap:=h' }:=fun its r' hz h' c' kp e =>
  ⟨.ref s.heap.objs.size,_,I.laid (t':=s.toks) kp (Nat.le_refl _) (show J9 X.prog X.w _ h' _ (.lst ys) from ⟨hz,its,c',r',e⟩),rfl,q _ (I.hok.fresh (Nat.le_refl _))⟩
 rcases hq with hq | hq
 ·obtain ⟨its,r',pl,hz⟩:=I.list hq;have hlen:=r'.length;obtain ⟨o,ho,hc,n,hd⟩:=pl.isList;exact call_list_seq p (.inl rfl) ho hc hd (fun h' c' kp e=>fin its r' hz h' c' kp e) (by simp only [List.size_toArray] <;> omega)
 ·obtain ⟨its,r',pl,hz⟩:=I.tuple hq;have hlen:=r'.length;obtain ⟨o,ho,hc,n,hd⟩:=pl;exact call_list_seq p (.inr rfl) ho hc hd (fun h' c' kp e=>fin its r' hz h' c' kp e) (by simp only [List.size_toArray] <;> omega)
theorem JaV:Zb X (.type "tuple") (fun xs H Q=>∃ p ys,xs=[.ref p]∧((Jq X.K H p ys∧∀ l,H l=none→Q (.ref l) (upd H l (.tup ys)))∨(J0 X.K H p ys∧Q (.ref p) H))):=by
 intro pins s σ H xs us Q I r h;obtain ⟨p,ys,rfl,h⟩:=h;obtain ⟨u,rfl,rx⟩:=Jex r;cases rx;rcases h with ⟨hq,q⟩ | ⟨hq,q⟩
 ·obtain ⟨its,r',pl,hz⟩:=I.list hq;have hlen:=r'.length;refine call_tuple_list pl.isList (fun h' kp=>?_) (by simp only [List.size_toArray] <;> omega);have I1:Jk X pins σ H { s with heap:=h' }:=I.kept (t':=s.toks) kp;have I2:Jk X pins σ (upd H h'.objs.size (.tup ys)) { s with heap:=h'.push { cls:=.type "tuple",data:=.seq its.toArray } } :=
   I1.laid (t':=s.toks) (fun b o e=>Heap.get?_push_of_some _ e) (Nat.le_refl _) (show J9 X.prog X.w _ _ _ (.tup ys) from ⟨hz,its,r',IsTup.new _ _⟩)
  exact ⟨.ref h'.objs.size,_,I2,rfl,q _ (I1.hok.fresh (Nat.le_refl _))⟩
 ·obtain ⟨its,r',pl,hz⟩:=I.tuple hq;exact call_tuple_same pl ⟨.ref p,H,I,rfl,q⟩
def tyV (K:PySem.W.Frag) (T:String) (x:V) (H:Hp):Prop:=match x with
 | .str _=>T = "str"
 | .int _=>T = "int"
 | .ref p=>(T = "list"∧∃ xs,Jq K H p xs)∨(T = "tuple"∧∃ o,K.lookup p=some o∧o.cls=.type "tuple"∧o.dict=none) ∨
   (T = "dict"∧((∃ kvs,H p=some (.dK kvs))∨∃ kvs,H p=some (.dT kvs)))∨(T = "set"∧∃ S n,H p=some (.set S n))
 | _=>False
theorem Jnq {pins:List (Addr×Obj)} {σ:St} {H:Hp} {s:Shared} {T:String} {x:V} {v:Value} (I:Jk X pins σ H s) (r:JF x v) (ty:tyV X.K T x H) :
  s.TypeIs v T∧∀ a,v=.ref a→∃ ob,s.heap.get? a=some ob∧ob.dict=none:=by
 cases x with
 | str z =>
  obtain ⟨t,rfl⟩:=r;cases (show T = "str" from ty);exact ⟨typeIs_str s z t,fun _ e=>nomatch e⟩
 | int i =>
  obtain ⟨t,rfl⟩:=r;cases (show T = "int" from ty);exact ⟨typeIs_int s i t,fun _ e=>nomatch e⟩
 | ref p =>
  cases r;rcases ty with ⟨rfl,xs,hq⟩ | ⟨rfl,o,hk,hc,hd⟩ | ⟨rfl,hk⟩ | ⟨rfl,S,n,hk⟩
  ·obtain ⟨its,_,pl,_⟩:=I.list hq;refine ⟨pl.isList.typeIs,fun a e=>?_⟩;cases e;obtain ⟨o,n,e,c,hd,_⟩:=pl;exact ⟨o,e,hd⟩
  ·refine ⟨⟨o,I.kIn p o hk,hc⟩,fun a e=>?_⟩;cases e;exact ⟨o,I.kIn _ o hk,hd⟩
  ·have z:∃ o,s.heap.get? p=some o∧o.ExactDict:=by
    rcases hk with ⟨kvs,hk⟩ | ⟨kvs,hk⟩
    ·obtain ⟨_,_,_,_,o,_,_,e,ex,_⟩:=I.hok p _ hk;exact ⟨o,e,ex⟩
    ·obtain ⟨_,_,_,_,o,_,_,e,ex,_⟩:=I.hok p _ hk;exact ⟨o,e,ex⟩
   obtain ⟨o,e,ex⟩:=z;refine ⟨⟨o,e,ex.1⟩,fun a e2=>?_⟩;cases e2;exact ⟨o,e,ex.2.1⟩
  ·obtain ⟨o,_,_,_,e,ex,_⟩:=I.hok p _ hk;refine ⟨⟨o,e,ex.1⟩,fun a e2=>?_⟩;cases e2;exact ⟨o,e,ex.2.1⟩
 | _=>exact False.elim ty
def tBM (K:PySem.W.Frag) (T:String) (r:V→List V→Hp→VK→Prop) (to:TE) (t:TA):TE:=fun σ H Q=>to σ H fun x H1=>tyV K T x H1∧t σ H1 fun xs H2=>r x xs H2 Q
variable {o e:Expr} {es:List Expr} {to:TE} {t:TA} {name:Str} {apos cpos:Pos} {T id:String} {r:V→List V→Hp→VK→Prop}
theorem Zm (pa:PlainAttrs T) (slot:Slot T name id) (hty:typeOf (.builtin id)=pure (.type "method_descriptor")) (hm:MtR X id r) (ho:PE X o to) (ha:PA X (e :: es) t)
  (hbase:attributeBase o name X.env (eval o X.env)=eval o X.env:=by rfl)
  (hfew:((backTo cpos (starEach (e :: es) X.env)).all (fun x=>!x.1) && (backToKw cpos (keywordEach [] X.env)).all (fun x=>x.1.isSome)
   && decide ((e :: es).length + ([]:List Keyword).length + (if ([]:List Keyword).isEmpty then 0 else 1) < 30))=true:=by rfl)
  (hline:(apos.endLine == cpos.line)=true:=by rfl) (hs:starEach (e :: es) X.env=(false,eval e X.env) :: starEach es X.env:=by rfl) (hplain:(backTo cpos (starEach es X.env)).any (·.1)=false:=by rfl) :
  PE X (.Call (.Attribute o name apos) (e :: es) [] cpos) (tBM X.K T r to t):=by
 intro pins s σ H Q I h;refine wpAny_Call_method_late hbase hfew hline rfl (JJ (ho pins s σ H _ I h) fun v s1 ⟨x,H1,I1,r1,ty,q1⟩=>?_);obtain ⟨h1,h2⟩:=Jnq I1 r1 ty;refine ⟨T,id,pa,slot,hty,h1,h2,?_⟩;have hA:=ha cpos pins s1 σ H1 _ I1 q1;rw [hs] at hA ⊢;refine Calls.callWith_builtin (by show (false || (backTo cpos (starEach es X.env)).any (·.1))=false; rw [hplain] <;> rfl) (Calls.evalArgs_plain ?_);exact JJ hA fun us s2 ⟨vs,H2,I2,r2,q2⟩=>hm pins s2 σ H2 x vs v us Q I2 r1 r2 q2
end
end L2
namespace L2
open PySem PySem.Spec PyProof.Rows
def MtM (X:Cx) (id:String) (r:V→List V→Hp→VK→Prop):Prop :=
 ∀ (pins:List (Addr×Obj)) (s:Shared) (σ:St) (H:Hp) (x:V) (xs:List V) (v:Value) (us:List Value) (Q:VK),Jk X pins σ H s→JF x v→Jt xs us→r x xs H Q →
  wpAny (model X.prog X.w) X.A (call (.builtin id) (v :: us)) (EP X pins σ Q) X.xe s
theorem Jt.one:∀ {x:V} {us:List Value},Jt [x] us→∃ u,us=[u]∧JF x u
 | _,_,.cons r .nil=>⟨_,rfl,r⟩
theorem Jt.two:∀ {x y:V} {us:List Value},Jt [x,y] us→∃ u v,us=[u,v]∧JF x u∧JF y v
 | _,_,_,.cons r (.cons q .nil)=>⟨_,_,rfl,r,q⟩
theorem Jt.zero:∀ {us:List Value},Jt [] us→us=[]
 | _,.nil=>rfl
theorem Jt.rep {xs:List V} {us:List Value} (h:Jt xs us):∀ k:Nat,Jt (List.replicate k xs).flatten (List.replicate k us).flatten
 | 0=>.nil
 | k + 1=>by
  rw [List.replicate_succ,List.replicate_succ,List.flatten_cons,List.flatten_cons];exact Jt.append h (Jt.rep h k)
theorem Jhb (its:List Value):∀ (k:Nat) (acc:List Value),
  List.foldl (fun x1 x2=>x1 ++ x2) acc.toArray (List.replicate k its.toArray)=(acc ++ (List.replicate k its).flatten).toArray
 | 0,acc=>by simp
 | k + 1,acc=>by
  have e:acc.toArray ++ its.toArray=(acc ++ its).toArray:=by simp
  have e2:(acc ++ its) ++ (List.replicate k its).flatten=acc ++ (List.replicate (k + 1) its).flatten:=by
   rw [List.replicate_succ,List.flatten_cons,List.append_assoc]
  rw [← e2,← Jhb its k (acc ++ its),← e,List.replicate_succ,List.foldl_cons]
section
variable {X:Cx} {pins:List (Addr×Obj)} {σ:St} {H:Hp} {s:Shared} {l b:Addr} {xs ys zs:List V}
theorem Jk.lset {its its':List Value} {n:Nat} {f:Array Value→Array Value} {t':Nat} (I:Jk X pins σ H s) (hH:H l=some (.lst xs))
  (e:s.heap.get? l=some { cls:=.type "list",data:=.seq its.toArray n }) (hf:f its.toArray=its'.toArray) (hv:Jt ys its') (hz:ys.length≤sizeLine) :
  Jk X pins σ (upd H l (.lst ys)) { s with heap:=s.heap.update l (Obj.mapSeq f),toks:=t' }:=by
 have q:=PySem.IsL.update e f;rw [hf] at q;refine I.write (x:=l) (e:=l) (by rw [hH]; exact trivial) (.inl rfl) (fun b' u hb hu=>(Heap.get?_update_other s.heap (Obj.mapSeq f) (Ne.symm hb)).trans hu) ⟨_,q⟩ ?_;exact ⟨hz,its',_,hv,q⟩
theorem Jk.lnew {its:List Value} {t':Nat} (I:Jk X pins σ H s) (hv:Jt ys its) (hz:ys.length≤sizeLine) :
  Jk X pins σ (upd H s.heap.objs.size (.lst ys)) { s with heap:=s.heap.push { cls:=.type "list",data:=.seq its.toArray },toks:=t' } :=
 I.laid (fun _ _ q=>Heap.get?_push_of_some _ q) (Nat.le_refl _) ⟨hz,its,0,hv,Heap.get?_push_size _ rfl⟩
theorem Jk.fresh (I:Jk X pins σ H s):H s.heap.objs.size=none:=I.hok.fresh (Nat.le_refl _)
theorem Jk.lstM (I:Jk X pins σ H s) (hH:H l=some (.lst xs)):xs.length≤sizeLine∧∃ (its:List Value) (n:Nat),Jt xs its∧xs.length=its.length∧s.heap.get? l=some { cls:=.type "list",data:=.seq its.toArray n }:=by
 obtain ⟨z,its,n,r,e⟩:=I.hok l _ hH;exact ⟨z,its,n,r,r.length,e⟩
theorem JlZ {n:Nat} (h:n≤sizeLine):Builtin.List.listTooLong n=false:=by
 unfold Builtin.List.listTooLong;exact decide_eq_false (by omega)
end
section
variable {X:Cx}
def JmZ:V→List V→Hp→VK→Prop:=fun x vs H Q=>∃ l xs y,x=.ref l∧vs=[y]∧H l=some (.lst xs)∧xs.length < sizeLine∧Q .non (upd H l (.lst (xs ++ [y])))
theorem Yc:MtM X "list.append" JmZ:=by
 intro pins s σ H x vs v us Q I rx rv h;obtain ⟨l,xs,y,rfl,rfl,hH,hz,q⟩:=h;cases rx;obtain ⟨u,rfl,ru⟩:=rv.one;obtain ⟨z,its,n,r,hl,e⟩:=I.lstM hH;refine call_meets F.slot_list_append ⟨_,e,rfl⟩ F.entry_list_append (F.args_list_append_2 _ _) (PySem.list_append l its.toArray n u (by rw [List.size_toArray]; omega)) ⟨e,?_⟩;refine ⟨.non,_,I.lset (its':=its ++ [u]) hH e (by simp) (r.append (.cons ru .nil)) ?_,rfl,q⟩;rw [List.length_append,List.length_singleton];omega
def Jpk:R2:=fun x y H Q=>∃ l b xs zs,x=.ref l∧y=.ref b∧H l=some (.lst xs)∧H b=some (.lst zs)∧xs.length + zs.length≤sizeLine∧∀ p,H p=none→Q (.ref p) (upd H p (.lst (xs ++ zs)))
theorem JnU:ZB X (binaryOp .Add) Jpk:=by
 intro pins s σ H x y v u Q I rx ry h;obtain ⟨l,b,xs,zs,rfl,rfl,hH,hB,hz,q⟩:=h;cases rx;cases ry;obtain ⟨z,its,n,r,hl,e⟩:=I.lstM hH;obtain ⟨z2,its2,n2,r2,hl2,e2⟩:=I.lstM hB;refine PySem.P.add_list e e2 ?_ (by rw [List.size_toArray,List.size_toArray]; omega);have ea:its.toArray ++ its2.toArray=(its ++ its2).toArray:=by simp
 rw [ea];exact ⟨.ref _,_,I.lnew (t':=s.toks) (r.append r2) (by rw [List.length_append]; omega),rfl,q _ I.fresh⟩
def Jph:R2:=fun x y H Q=>∃ l k xs,x=.ref l∧y=.int k∧H l=some (.lst xs)∧-(2 ^ 63)≤k∧k < 2 ^ 63∧xs.length * k.toNat≤sizeLine ∧
 ∀ p,H p=none→Q (.ref p) (upd H p (.lst (List.replicate k.toNat xs).flatten))
theorem Jne {α:Type} (xs:List α) (k:Nat):(List.replicate k xs).flatten.length=k * xs.length:=by
 induction k with
 | zero=>simp
 | succ k ih=>rw [List.replicate_succ,List.flatten_cons,List.length_append,ih,Nat.succ_mul,Nat.add_comm]
theorem JnT:ZB X (binaryOp .Mult) Jph:=by
 intro pins s σ H x y v u Q I rx ry h;obtain ⟨l,k,xs,rfl,rfl,hH,h1,h2,hz,q⟩:=h;cases rx;obtain ⟨t,rfl⟩:=ry;obtain ⟨z,its,n,r,hl,e⟩:=I.lstM hH;have hlen:its.toArray.size * k.toNat≤sizeLine:=by rw [List.size_toArray,← hl]; exact hz
 have hcap:¬ its.toArray.size * k.toNat > (2 ^ 63 - 1) / 8:=by
  have:(sizeLine:Nat)≤(2 ^ 63 - 1) / 8:=by decide
  omega
 have hfit:¬ (!Builtin.List.listFitsIndex k)=true:=by
  rw [fitsIndex_both h1 h2];exact Bool.false_ne_true
 have hlong:¬ Builtin.List.listTooLong (its.toArray.size * k.toNat)=true:=by
  rw [JlZ hlen];exact Bool.false_ne_true
 have hnew:List.foldl (fun x1 x2=>x1 ++ x2) #[] (List.replicate (if its.toArray.isEmpty=true then 0 else k.toNat) its.toArray)=(List.replicate k.toNat its).flatten.toArray:=by
  have f0:∀ m:Nat,List.foldl (fun x1 x2=>x1 ++ x2) #[] (List.replicate m its.toArray)=(List.replicate m its).flatten.toArray:=fun m=>by
   have:=Jhb its m [];rw [List.nil_append] at this;exact this
  rw [f0];cases its with
  | nil=>simp
  | cons a r'=>rw [if_neg (by simp)]
 refine wpAny_binaryOp_repeat_ref (T := "list") (U := "int") (by decide) ⟨_,e,rfl⟩ (fun s'=>typeIs_int s' k t) noFill_list_mul F.fills_int_mul F.slot_int_rmul repeat_list F.slot_int_index.lookup
  (call_meets F.slot_int_rmul (typeIs_int s k t) F.entry_int_rmul (F.args_int_rmul_2 _ _) (int___rmul___int_list k t l its.toArray n)
   ⟨e,rfl,⟨_,e,rfl⟩,call_meets F.slot_list_mul ⟨_,e,rfl⟩ F.entry_list_mul (F.args_list_mul_2 _ _) (AutoListH.list___mul___list_int_3 l its.toArray n k t hfit hcap hlong) ⟨e,?_⟩⟩)
 rw [hnew];exact ⟨.ref _,_,I.lnew (t':=s.toks) (r.rep k.toNat) (by rw [Jne,Nat.mul_comm]; exact hz),rfl,q _ I.fresh⟩
end
end L2
namespace L2
open PySem PySem.Spec PyProof.Rows
section
variable {κ:Type} [DecidableEq κ]
def Y1 (kvs:List (κ×V)) (k:κ):Option V:=(kvs.find? fun kv=>decide (kv.1=k)).map (·.2)
def JaY (kvs:List (κ×V)) (k:κ) (v:V):List (κ×V) :=
 if (kvs.any fun kv=>decide (kv.1=k))=true then kvs.map (fun kv=>if kv.1=k then (kv.1,v) else kv) else kvs ++ [(k,v)]
def JmE (kvs:List (κ×V)) (k:κ):List (κ×V):=kvs.filter fun kv=>decide (kv.1≠k)
theorem Ze {p:κ×V} {r:List (κ×V)} {k:κ} (e:p.1=k):Y1 (p :: r) k=some p.2:=by simp [Y1,List.find?_cons,e]
theorem Zf {p:κ×V} {r:List (κ×V)} {k:κ} (e:¬ p.1=k):Y1 (p :: r) k=Y1 r k:=by simp [Y1,List.find?_cons,e]
theorem JdD (k:κ):∀ kvs:List (κ×V),(kvs.any fun kv=>decide (kv.1=k))=(Y1 kvs k).isSome
 | []=>rfl
 | p :: r=>by
  rw [List.any_cons];by_cases e:p.1=k
  ·simp only [Ze e,decide_eq_true e,Bool.true_or,Option.isSome_some]
  ·rw [Zf e,decide_eq_false e,Bool.false_or]; exact JdD k r
theorem JhC (k j:κ) (y:V):∀ kvs:List (κ×V),Y1 (kvs.map fun kv=>if kv.1=k then (kv.1,y) else kv) j=(Y1 kvs j).map fun x=>if j=k then y else x
 | []=>rfl
 | p :: r=>by
  have ih:=JhC k j y r;rw [List.map_cons];by_cases h:p.1=k
  ·rw [if_pos h];by_cases e:p.1=j
   ·rw [Ze (p:=(p.1,y)) e,Ze e,Option.map_some,if_pos (e.symm.trans h)]
   ·rw [Zf (p:=(p.1,y)) e,Zf e,ih]
  ·rw [if_neg h];by_cases e:p.1=j
   ·rw [Ze (p:=p) e,Ze e,Option.map_some,if_neg (fun z=>h (e.trans z))]
   ·rw [Zf (p:=p) e,Zf e,ih]
theorem JgV (k j:κ) (y:V):∀ kvs:List (κ×V),Y1 kvs k=none→Y1 (kvs ++ [(k,y)]) j=if j=k then some y else Y1 kvs j
 | [],_=>by
  by_cases e:k=j
  ·rw [if_pos e.symm]; exact Ze (p:=(k,y)) e
  ·rw [if_neg (fun z=>e z.symm)]; exact Zf (p:=(k,y)) e
 | p :: r,hn=>by
  rw [List.cons_append];have hk:¬ p.1=k:=fun z=>by rw [Ze z] at hn; cases hn
  rw [Zf hk] at hn;have ih:=JgV k j y r hn;by_cases e:p.1=j
  ·rw [Ze e,Ze e,if_neg (fun z=>hk (e.trans z))]
  ·rw [Zf e,Zf e,ih]
theorem Je1 (kvs:List (κ×V)) (k j:κ) (y:V):Y1 (JaY kvs k y) j=if j=k then some y else Y1 kvs j:=by
 unfold JaY;by_cases a:(kvs.any fun kv=>decide (kv.1=k))=true
 ·rw [if_pos a,JhC];rw [JdD] at a;by_cases e:j=k
  ·obtain ⟨x,hx⟩:=Option.isSome_iff_exists.mp a;rw [if_pos e,e,hx,Option.map_some,if_pos rfl]
  ·rw [if_neg e];cases Y1 kvs j with
   | none=>rfl
   | some x=>rw [Option.map_some,if_neg e]
 ·rw [if_neg a];refine JgV k j y kvs ?_;rw [JdD] at a;cases q:Y1 kvs k with
  | none=>rfl
  | some x=>rw [q] at a; exact (a rfl).elim
theorem JeV (kvs:List (κ×V)) (k:κ) (v:V):(JaY kvs k v).length≤kvs.length + 1:=by
 unfold JaY;split
 ·rw [List.length_map]; omega
 ·rw [List.length_append,List.length_cons,List.length_nil]; omega
theorem Z1.isSome_eq {o:Option V} {u:Option Value} (r:Z1 o u):o.isSome=u.isSome:=by
 cases o with
 | none=>cases u with
  | none=>rfl
  | some _=>exact (show False from r).elim
 | some _=>cases u with
  | none=>exact (show False from r).elim
  | some _=>rfl
theorem Z1.getD {o:Option V} {u:Option Value} {d:V} {d':Value} (r:Z1 o u) (rd:JF d d'):JF (o.getD d) (u.getD d'):=by
 cases o with
 | none=>cases u with
  | none=>exact rd
  | some _=>exact (show False from r).elim
 | some _=>cases u with
  | none=>exact (show False from r).elim
  | some _=>exact r
theorem KV.val {kvs:List (κ×V)} {vs:List (κ×Value)} (r:KV kvs vs) (k:κ):Z1 (Y1 kvs k) (valueAt vs k):=by
 unfold KV at r
 induction r with
 | nil=>exact True.intro
 | @cons p q ps qs h t ih =>
  obtain ⟨h1,h2⟩:=h;by_cases e:p.1=k
  ·have e':q.1=k:=h1.symm.trans e;have b:valueAt (q :: qs) k=some q.2:=by simp [valueAt,List.find?_cons,e']
   rw [Ze e,b]; exact h2
  ·have e':¬ q.1=k:=fun z=>e (h1.trans z)
   have b:valueAt (q :: qs) k=valueAt qs k:=by simp [valueAt,List.find?_cons,e']
   rw [Zf e,b]; exact ih
theorem KV.any {kvs:List (κ×V)} {vs:List (κ×Value)} (r:KV kvs vs) (k:κ):(kvs.any fun kv=>decide (kv.1=k))=vs.any fun kv=>decide (kv.1=k):=by
 unfold KV at r
 induction r with
 | nil=>rfl
 | cons h t ih=>rw [List.any_cons,List.any_cons,ih,h.1]
theorem KV.repl {kvs:List (κ×V)} {vs:List (κ×Value)} (r:KV kvs vs) (k:κ) {y:V} {u:Value} (ry:JF y u) :
  KV (kvs.map fun kv=>if kv.1=k then (kv.1,y) else kv) (vs.map fun kv=>if kv.1=k then (kv.1,u) else kv):=by
 unfold KV at r ⊢
 induction r with
 | nil=>exact .nil
 | @cons p q ps qs h t ih =>
  rw [List.map_cons,List.map_cons];refine .cons ?_ ih;obtain ⟨h1,h2⟩:=h;by_cases e:p.1=k
  ·rw [if_pos e,if_pos (h1.symm.trans e)]; exact ⟨h1,ry⟩
  ·rw [if_neg e,if_neg (fun z=>e (h1.trans z))]; exact ⟨h1,h2⟩
theorem KV.put {kvs:List (κ×V)} {vs:List (κ×Value)} (r:KV kvs vs) (k:κ) {y:V} {u:Value} (ry:JF y u):KV (JaY kvs k y) (stored vs k u):=by
 unfold JaY stored;rw [r.any k];by_cases e:(vs.any fun kv=>decide (kv.1=k))=true
 ·rw [if_pos e,if_pos e]; exact r.repl k ry
 ·rw [if_neg e,if_neg e]; exact Paired.snoc r ⟨rfl,ry⟩
theorem KV.drop {kvs:List (κ×V)} {vs:List (κ×Value)} (r:KV kvs vs) (k:κ):KV (JmE kvs k) (without vs k):=by
 unfold KV at r ⊢;unfold JmE without
 induction r with
 | nil=>exact .nil
 | @cons p q ps qs h t ih =>
  obtain ⟨h1,h2⟩:=h;rw [List.filter_cons,List.filter_cons];by_cases e:p.1=k
  ·have a:¬ decide (p.1≠k)=true:=by simp [e]
   have b:¬ decide (q.1≠k)=true:=by simp [h1.symm.trans e]
   rw [if_neg a,if_neg b]; exact ih
  ·have e':¬ q.1=k:=fun z=>e (h1.trans z)
   have a:decide (p.1≠k)=true:=by simp [e]
   have b:decide (q.1≠k)=true:=by simp [e']
   rw [if_pos a,if_pos b]; exact .cons ⟨h1,h2⟩ ih
theorem KV.length {kvs:List (κ×V)} {vs:List (κ×Value)} (r:KV kvs vs):kvs.length=vs.length:=Paired.length r
end
theorem Jhy {P:Program} {w:World} {k:JP} {u:Value} (r:JF (kV k) u):(J7 P w).is k u=true:=by
 cases k with
 | inl i=>obtain ⟨t,e⟩:=(show ∃ t,u=Value.int i t from r); subst e; exact JiE P w i t
 | inr x=>obtain ⟨t,e⟩:=(show ∃ t,u=Value.str x t from r); subst e; exact JaQ P w x t
theorem Jg7 {P:Program} {w:World}:∀ {ks:List JP} {us:List Value},Jt (ks.map kV) us→ItemsAre (J7 P w) ks us
 | [],_,r=>by rw [List.map_nil] at r; cases r; exact .nil
 | k :: ks,_,r=>by
  rw [List.map_cons] at r;cases r with
  | cons h t=>exact .cons (Jhy h) (Jg7 t)
abbrev KT (H:Hp):List (List JP×V)→List (List JP×Addr×Value)→Prop:=Paired fun p q=>p.1=q.1∧H q.2.1=some (.tup (p.1.map kV))∧JF p.2 q.2.2
theorem KT.val {H:Hp} {kvs:List (List JP×V)} {xs:List (List JP×Addr×Value)} (r:KT H kvs xs) (k:List JP):Z1 (Y1 kvs k) ((atKey xs k).map (·.2)):=by
 induction r with
 | nil=>exact True.intro
 | @cons p q ps qs h t ih =>
  obtain ⟨h1,_,h2⟩:=h;by_cases e:p.1=k
  ·have e':q.1=k:=h1.symm.trans e;have b:atKey (q :: qs) k=some q.2:=by simp [atKey,List.find?_cons,e']
   rw [Ze e,b]; exact h2
  ·have e':¬ q.1=k:=fun z=>e (h1.trans z)
   have b:atKey (q :: qs) k=atKey qs k:=by simp [atKey,List.find?_cons,e']
   rw [Zf e,b]; exact ih
theorem KT.repl {H:Hp} {kvs:List (List JP×V)} {xs:List (List JP×Addr×Value)} (r:KT H kvs xs) (k:List JP) {y:V} {u:Value} (ry:JF y u) :
  KT H (kvs.map fun kv=>if kv.1=k then (kv.1,y) else kv) (xs.map (putAt k u)):=by
 induction r with
 | nil=>exact .nil
 | @cons p q ps qs h t ih =>
  rw [List.map_cons,List.map_cons];refine .cons ?_ ih;obtain ⟨h1,h2,h3⟩:=h;unfold putAt;by_cases e:p.1=k
  ·rw [if_pos e,if_pos (h1.symm.trans e)]; exact ⟨h1,h2,ry⟩
  ·rw [if_neg e,if_neg (fun z=>e (h1.trans z))]; exact ⟨h1,h2,h3⟩
theorem KT.put {H:Hp} {kvs:List (List JP×V)} {xs:List (List JP×Addr×Value)} (r:KT H kvs xs) (k:List JP) {b:Addr} {y:V} {u:Value} (hb:H b=some (.tup (k.map kV))) (ry:JF y u) :
  KT H (JaY kvs k y) (storedH xs k b u):=by
 have e:(kvs.any fun kv=>decide (kv.1=k))=(atKey xs k).isSome:=by
  rw [JdD,(r.val k).isSome_eq,Option.isSome_map]
 unfold JaY storedH;rw [e];by_cases q:(atKey xs k).isSome=true
 ·rw [if_pos q,if_pos q]; exact r.repl k ry
 ·rw [if_neg q,if_neg q]; exact Paired.snoc r ⟨rfl,hb,ry⟩
theorem KT.keeps {H H':Hp} {kvs:List (List JP×V)} {xs:List (List JP×Addr×Value)} (r:KT H kvs xs) (ht:∀ b ys,H b=some (.tup ys)→H' b=some (.tup ys)):KT H' kvs xs :=
 Paired.mapP r fun _ _ z=>⟨z.1,ht _ _ z.2.1,z.2.2⟩
section
variable {P:Program} {w:World} {H:Hp} {h:Heap} {a:Addr}
theorem Jmw {u:HO} (ok:Zj P w H h) (e:Rd H a u):J9 P w H h a u:=e.ok ok
theorem JjK {kvs:List (JP×V)} (ok:Zj P w H h) (e:Rd H a (.dK kvs)):kvs.length≤sizeLine∧(a == sysModules)=false∧∃ vs,KV kvs vs∧h.DictOf (J7 P w) a vs :=
 show J9 P w H h a (.dK kvs) from Jmw ok e
theorem JoO {kvs:List (JP×V)} (ok:Zj P w H h) (e:H a=some (.dK kvs)):kvs.length≤sizeLine∧(a == sysModules)=false∧∃ vs,KV kvs vs∧h.DictOf (J7 P w) a vs:=JjK ok (.inl e)
theorem Jig {ks:List JP} (ok:Zj P w H h) (e:H a=some (.tup (ks.map kV))):(tupleKind (J7 P w)).is h ks a:=by
 obtain ⟨_,its,r,o,h1,h2,n,h3⟩:=(show J9 P w H h a (.tup (ks.map kV)) from ok a _ e)
 exact ⟨o,its.toArray,n,h1,h2,h3,by simpa using Jg7 r⟩
theorem JjJ {kvs:List (List JP×V)} (ok:Zj P w H h) (e:Rd H a (.dT kvs)):kvs.length≤sizeLine∧(a == sysModules)=false ∧
  ∃ xs,KT H kvs xs∧h.DictOfH (tupleKind (J7 P w)) a xs:=by
 obtain ⟨z,y,xs,r,o,es,ep,h1,h2,h3,h4,h5⟩:=(show J9 P w H h a (.dT kvs) from Jmw ok e)
 refine ⟨z,y,xs,r,o,es,ep,h1,h2,h3,h4,fun x hx=>?_,h5⟩;have all:∀ {l:List (List JP×V)} {m:List (List JP×Addr×Value)},KT H l m→∀ x∈m,(tupleKind (J7 P w)).is h x.1 x.2.1:=by
  intro l m q
  induction q with
  | nil=>intro x hx; exact nomatch hx
  | @cons p q ps qs hq t ih =>
   intro x hx;rcases List.mem_cons.mp hx with e | hx
   ·subst e;exact Jig ok (by rw [← hq.1]; exact hq.2.1)
   ·exact ih x hx
 exact all r x hx
theorem JoN {kvs:List (List JP×V)} (ok:Zj P w H h) (e:H a=some (.dT kvs)):kvs.length≤sizeLine∧(a == sysModules)=false ∧
  ∃ xs,KT H kvs xs∧h.DictOfH (tupleKind (J7 P w)) a xs:=JjJ ok (.inl e)
end
def Jc1 (H:Hp) (a:Addr) (y:V) (r:Option V):Prop :=
 (∃ kvs k,Rd H a (.dK kvs)∧y=kV k∧r=Y1 kvs k)∨∃ kvs k b,Rd H a (.dT kvs)∧y=.ref b∧H b=some (.tup (k.map kV))∧r=Y1 kvs k
def Jft (H:Hp) (a:Addr) (y v:V) (H':Hp):Prop :=
 (∃ kvs k,H a=some (.dK kvs)∧y=kV k∧kvs.length < sizeLine∧H'=upd H a (.dK (JaY kvs k v))) ∨
 ∃ kvs k b,H a=some (.dT kvs)∧y=.ref b∧H b=some (.tup (k.map kV))∧kvs.length < sizeLine∧H'=upd H a (.dT (JaY kvs k v))
theorem Jc1.k {H:Hp} {a:Addr} {kvs:List (JP×V)} {k:JP} (e:H a=some (.dK kvs)):Jc1 H a (kV k) (Y1 kvs k):=.inl ⟨kvs,k,.inl e,rfl,rfl⟩
theorem Jc1.t {H:Hp} {a b:Addr} {kvs:List (List JP×V)} {k:List JP} (e:H a=some (.dT kvs)) (eb:H b=some (.tup (k.map kV))):Jc1 H a (.ref b) (Y1 kvs k):=.inr ⟨kvs,k,b,.inl e,rfl,eb,rfl⟩
theorem Jft.k {H:Hp} {a:Addr} {kvs:List (JP×V)} {k:JP} {v:V} (e:H a=some (.dK kvs)) (hl:kvs.length < sizeLine):Jft H a (kV k) v (upd H a (.dK (JaY kvs k v))):=.inl ⟨kvs,k,e,rfl,hl,rfl⟩
theorem Jft.t {H:Hp} {a b:Addr} {kvs:List (List JP×V)} {k:List JP} {v:V} (e:H a=some (.dT kvs)) (eb:H b=some (.tup (k.map kV))) (hl:kvs.length < sizeLine) :
  Jft H a (.ref b) v (upd H a (.dT (JaY kvs k v))):=.inr ⟨kvs,k,b,e,rfl,eb,hl,rfl⟩
section
variable {X:Cx} {pins:List (Addr×Obj)} {σ:St} {H:Hp} {s:Shared} {a:Addr} {y v:V} {u r:Value} {o:Option V} {A:Around} {E:Value→Shared→Prop}
theorem Jk.big (I:Jk X pins σ H s):sysModules < s.heap.objs.size:=by
 have h:mainGlobals < s.heap.objs.size:=(I.mod.glob.keeps I.bk).lt;exact Nat.lt_trans (by decide) h
theorem JkR {Q:Value→Shared→Prop} (hu:A.units + 1 < cLine) (I:Jk X pins σ H s) (g:Jc1 H a y (some v)) (ry:JF y u) (h:∀ w' s',Jk X pins σ H s'→JF v w'→Q w' s') :
  wpAny (model X.prog X.w) A (getItem (.ref a) u) Q E s:=by
 rcases g with ⟨kvs,k,e,ey,l⟩ | ⟨kvs,k,b,e,ey,eb,l⟩
 ·subst ey;obtain ⟨z,hd,vs,rel,dd⟩:=JjK I.hok e;obtain ⟨w',hw,rw'⟩:=Z1.some_of (v:=v) (o:=valueAt vs k) (by rw [l]; exact rel.val k);exact wpAny_getItem_of (Jhy ry) dd.mapOf hw (h w' _ (I.tok _) rw')
 ·subst ey;cases (show u=Value.ref b from ry);obtain ⟨z,hd,xs,rel,dd⟩:=JjJ I.hok e;obtain ⟨w',hw,rw'⟩:=Z1.some_of (v:=v) (o:=(atKey xs k).map (·.2)) (by rw [l]; exact rel.val k);obtain ⟨p,hp,hp2⟩:=Option.map_eq_some_iff.mp hw;refine wpAny_getItem_heap (tupleKind_room_in1 hu) (Jig I.hok eb) dd hp ?_;rw [hp2];exact h w' _ (I.tok _) rw'
theorem Ji3 {h':Heap} {t':Nat} {ob:HO} (I:Jk X pins σ H s) (mu:Mut (H a)) (hs:Heap.SameBut a s.heap h') (he:∃ q,h'.get? a=some q) (new:J9 X.prog X.w (upd H a ob) h' a ob) :
  Jk X pins σ (upd H a ob) { s with heap:=h',toks:=t' } :=
 I.write (x:=a) (e:=a) mu (.inl rfl) (fun b q hb z=>(hs.2 b hb).trans z) he new
theorem Jn9 {P:Program} {w:World} {H':Hp} {h':Heap} {kvs:List (JP×V)} {vs:List (JP×Value)} (z:kvs.length≤sizeLine) (hd:(a == sysModules)=false) (rel:KV kvs vs) (dd:h'.DictOf (J7 P w) a vs) :
  J9 P w H' h' a (.dK kvs):=⟨z,hd,vs,rel,dd⟩
theorem JkQ {H':Hp} {Q:Unit→Shared→Prop} (hu:A.units + 1 < cLine) (I:Jk X pins σ H s) (g:Jft H a y v H') (ry:JF y u) (rv:JF v r) (h:∀ s',Jk X pins σ H' s'→Q () s') :
  wpAny (model X.prog X.w) A (setItem (.ref a) u r) Q E s:=by
 rcases g with ⟨kvs,k,e,ey,l,eH⟩ | ⟨kvs,k,b,e,ey,eb,l,eH⟩
 ·subst ey eH;obtain ⟨z,hd,vs,rel,dd⟩:=JoO I.hok e;have hz:vs.length≤sizeLine:=by rw [← rel.length]; exact z
  have hl:(JaY kvs k v).length≤sizeLine:=by have:=JeV kvs k v; omega
  refine wpAny_setItem_pairs (hsz:=hz) (Jhy ry) dd fun h' dd' hs=>h _ ?_
  have he:∃ q,h'.get? a=some q:=let ⟨q,_,_,hq,_⟩:=dd'; ⟨q,hq⟩;exact Ji3 I (by rw [e]; exact True.intro) hs he (Jn9 hl hd (rel.put k rv) dd')
 ·subst ey eH;cases (show u=Value.ref b from ry);obtain ⟨z,hd,xs,rel,dd⟩:=JoN I.hok e;have hz:xs.length≤sizeLine:=by rw [← Paired.length rel]; exact z
  have hl:(JaY kvs k v).length≤sizeLine:=by have:=JeV kvs k v; omega
  refine wpAny_setItem_heap (hsz:=hz) (tupleKind_room_in1 hu) (Jig I.hok eb) dd fun h' dd' hs=>h _ ?_
  obtain ⟨q,es,ep,hq,h2,h3,h4,_,h5⟩:=dd';refine Ji3 I (by rw [e]; exact True.intro) hs ⟨q,hq⟩ ⟨hl,hd,_,(rel.put k eb rv).keeps fun c ys ec=>?_,q,es,ep,hq,h2,h3,h4,h5⟩;rw [Jl (ZC ec e (fun z=>nomatch z))];exact ec
end
def Joj (i:Expr):Prop:=∀ ov iv,subscripted i false ov iv=operate [ov,iv] (getItem ov iv)
theorem JmN {prog:Program} {w:World} {A:Around} {E:Value→Shared→Prop} {s:Shared} {env:Env} {value slice:Expr} {pos:Pos} {T id:String} {Q:Value→Shared→Prop}
  (hl:typeLookup (.type T) "__getitem__" = pure (some (.builtin id))) (hs:Joj slice)
  (h:wpAny (model prog w) A (eval value env) (fun o s₁=>wpAny (model prog w) A (eval slice env) (fun i s₂=>s₂.TypeIs o T∧wpAny (model prog w) A (getItem o i) Q E s₂) E s₁) E s) :
  wpAny (model prog w) A (eval (.Subscript value slice pos) env) Q E s:=by
 refine Subscript_ (wpAny_mono h (fun o s₁ h₁=>wpAny_mono h₁ (fun i s₂ h₂=>?_) fun _ _ x=>x) fun _ _ x=>x);obtain ⟨hT,h₂⟩:=h₂;unfold subscriptTail;refine wpAny_bind ?_;rw [getitemInPython_of_ne hT.not_modules];refine wpAny_bind (wpAny_specialOf hT hl ?_);have fin:wpAny (model prog w) A (subscripted slice false o i) (fun r s₃=>wpAny (model prog w) A (letTemporaryGo value o r >>= fun _=>pure r) Q E s₃) E s₂:=by
  rw [hs o i];exact wpAny_operating (wpAny_mono h₂ (fun r s₃ h₃=>wpAny_bind (wpAny_letTemporaryGo (wpAny_pure h₃))) fun _ _ x=>x)
 first
  | exact wpAny_pure (wpAny_bind fin)
  | exact wpAny_bind (wpAny_pure (wpAny_bind fin))
  | exact wpAny_bind fin
theorem JiG {X:Cx} {pins:List (Addr×Obj)} {σ:St} {H:Hp} {s:Shared} {a:Addr} {y:V} {o:Option V} (I:Jk X pins σ H s) (g:Jc1 H a y o):s.TypeIs (.ref a) "dict":=by
 rcases g with ⟨kvs,k,e,_,_⟩ | ⟨kvs,k,b,e,_,_,_⟩
 ·obtain ⟨_,_,vs,_,dd⟩:=JjK I.hok e;exact dd.typeIs
 ·obtain ⟨_,_,xs,_,dd⟩:=JjJ I.hok e;exact dd.typeIs
def Jou (td ty:TE):TE:=fun σ H Q=>td σ H fun x H1=>ty σ H1 fun y H2=>∃ a v,x=.ref a∧Jc1 H2 a y (some v)∧Q v H2
def Joz (td ty tv:TE):TS:=fun D σ H=>tv σ H fun v H1=>td σ H1 fun x H2=>ty σ H2 fun y H3=>∃ a H4,x=.ref a∧Jft H3 a y v H4∧D.nx σ H4
section
variable {X:Cx} {o i e value:Expr} {pos pos' tpos:Pos} {td ty tv:TE}
theorem JeD (hu:X.A.units + 1 < cLine) (ho:PE X o td) (hi:PE X i ty) (hs:Joj i):PE X (.Subscript o i pos) (Jou td ty):=by
 intro pins s σ H Q I h;refine JmN PySem.F.slot_dict_getitem.lookup hs (JJ (ho pins s σ H _ I h) fun u s1 ⟨x,H1,I1,rx,q1⟩=>JJ (hi pins s1 σ H1 _ I1 q1) fun iv s2 ⟨y,H2,I2,ry,a,v,ex,g,q2⟩=>?_);subst ex;obtain rfl:u=Value.ref a:=rx;exact ⟨JiG I2 g,JkR hu I2 g ry fun w' s3 I3 rw'=>⟨v,H2,I3,rw',q2⟩⟩
theorem Jm0 (hu:X.A.units + 1 < cLine) (ho:PE X o td) (hi:PE X i ty) (hv:PE X value tv) (hs:swapsWith value (some (.Subscript o i pos')) pos.line X.env=pure false) :
  PS X (.Assign [.Subscript o i pos'] value pos) (Joz td ty tv):=by
 intro pins s σ H D I h;refine wpAny_Assign_Subscript (JJ (hv pins s σ H _ I h) fun r s1 ⟨v,H1,I1,rv,q1⟩=>JJ (ho pins s1 σ H1 _ I1 q1) fun u s2 ⟨x,H2,I2,rx,q2⟩=>JJ (hi pins s2 σ H2 _ I2 q2) fun iv s3 ⟨y,H3,I3,ry,a,H4,ex,g,q3⟩=>?_) hs;subst ex;obtain rfl:u=Value.ref a:=rx;exact JkQ hu I3 g ry rv fun s4 I4=>⟨σ,H4,I4,q3⟩
end
theorem Jmd {P:Program} {w:World} {H:Hp} (h:Heap) (hb:sysModules < h.objs.size):J9 P w H (h.push { cls:=.type "dict",data:=.dict #[] }) h.objs.size (.dT []) :=
 ⟨Nat.zero_le _,beq_eq_false_iff_ne.mpr (Ne.symm (Nat.ne_of_lt hb)),[],.nil,_,#[],0,Heap.get?_push_size _ rfl,⟨rfl,rfl,rfl⟩,rfl,rfl,List.nodup_nil⟩
def Jnu:TE:=fun _ H Q=>∀ p,H p=none→Q (.ref p) (upd H p (.dT []))
section
variable {X:Cx} {pos:Pos}
theorem JlO:PE X (.Dict [] [] pos) Jnu:=fun pins s σ H Q I h =>
 wpAny_Dict_empty ⟨.ref s.heap.objs.size,_,I.laid (a:=s.heap.objs.size) (o:=.dT []) (t':=s.toks) (fun _ _ q=>Heap.get?_push_of_some _ q) (Nat.le_refl _) (Jmd s.heap I.big),rfl,h _ (I.hok.fresh (Nat.le_refl _))⟩
end
end L2
namespace Att
open PySem PySem.W PySem.Calls PyProof.Rows
theorem JfO {P:Params} {h:Heap}:∀ (ns:List Int) (vs:List Value),WellAll P h vs (ns.map WData.int)→IntsAre vs ns:=by
 intro ns
 induction ns with
 | nil =>
  intro vs w;rw [List.map_nil] at w;cases w;exact .nil
 | cons n ns ih =>
  intro vs w;rw [List.map_cons] at w;cases w with
  | cons a b =>
   cases a;exact .cons _ _ (ih _ b)
theorem Jkb {l:OpenLaw} {n:Nat} (hn:l.most=some n) {P:Params} {h:Heap} {args:List WData} {vals:List Value}
  (hpre:l.row.toRowW.claim.pre args=true) (hwl:WellAll P h vals args) :
  ∃ a vs ns,vals=[Value.ref a]∧args=[WData.list (ns.map WData.int)]∧h.get? a=some { cls:=.type "list",data:=.seq vs.toArray }∧IntsAre vs ns∧ns.length≤n:=by
 have hsh:WShape.hasAll [] args [.list .int]=true:=(pre_splitW hpre).1;have hc:l.pre.holds [] { args:=args }=true:=(pre_splitW hpre).2;obtain ⟨d,r,rfl,h1,h2⟩:=hasAllW_cons hsh;obtain rfl:=hasAllW_nil h2;obtain ⟨xs,rfl,h3⟩:=hasW_list h1;obtain ⟨ns,rfl⟩:=items_int h3;have hlen:ns.length≤n:=by
  unfold OpenLaw.pre at hc;have h4:(WTm.not (.lt (.lit (.int (n:Int))) (.len (.arg 0)))).holds [] { args:=[.list (ns.map .int)] }=true:=by
   have h4:=(holds_andW hc).1;rw [hn] at h4;exact h4
  have h5:=condW_of h4 (w_not (w_lt w_lit (w_len_list (w_arg rfl))));rw [List.length_map] at h5;refine Nat.le_of_not_lt fun q=>?_
  have q':(n:Int) < ((ns.length:Nat):Int):=by omega
  first
   | (rw [decide_eq_true q'] at h5; exact absurd h5 (by decide))
   | (simp at h5; omega)
 cases hwl with
 | cons w1 w2 =>
  cases w2;cases w1 with
  | list ho hall=>exact ⟨_,_,ns,rfl,rfl,ho,JfO ns _ hall,hlen⟩
theorem Jke (l:OpenLaw) (args:List WData):l.row.toRowW.claim.post args (.bool true) args=true :=
 postW_of (r:=l.row.toRowW) (X:=(true == true))
  (show WShape.has [] (.bool true) .bool=true by first | rfl | decide | simp [WShape.has,WShape.arms,WShape.armsAll])
  (show (WTm.eq .res (.lit (.bool true))).value [] { args:=args,res:=some (.bool true),after:=args }=some (.bool (true == true)) from w_eq_bool (w_res rfl) w_lit) rfl
theorem JiJ {l:OpenLaw} {n:Nat} {q:Program} {loose:List Str} {XP:(Str→Option Value)→Heap→Prop} {YP:World→Heap→Prop} {d:DefRec}
  (hn:l.most=some n) (hdf:d.params.defaults=[])
  (call:∀ (w:World) (s₀ s₁:Shared) (mg mb:Str→Option Value) (fa:Addr) (o:Obj) (pm cd doc:Value) (a:Addr) (vs:List Value) (ns:List Int),
   Ground q loose [] XP w s₀ mg mb s₁.heap→YP w s₁.heap →
   s₁.heap.get? fa=some o→o.data=.func (docDef d.name d.params d.body d.scope pm cd doc)→s₁.heap.CodeRec cd d.name→mg d.name=some (.ref fa) →
   s₁.heap.get? a=some { cls:=.type "list",data:=.seq vs.toArray }→IntsAre vs ns→ns.length≤n→s₁.gens=#[] →
   codeAny (model l.prog w) callerA (.call (.ref fa) ⟨[.ref a],[]⟩) (fun r s'=>r=.ok (.ret (.bool true))∧OldK s₁.heap s'.heap∧s'.os=s₁.os∧AllBare s'.gens) s₁) :
  WalkO q loose XP YP l.row.toRowW d [] (fun f vs=>PySem.call f vs):=by
 intro w s₀ s₁ mg mb G Y fa o pm cd doc dV kV ho hd hcd hD hmg hg args vals as hpre hlay hrd hwl hlo;obtain rfl:dV=.none:=Dflts.none hD hdf;obtain rfl:kV=.none:=Dflts.noKw hD;obtain ⟨a,vs,ns,rfl,rfl,hobj,hints,hlen⟩:=Jkb hn hpre hwl;refine enter_call (codeAny_mono (call w s₀ s₁ mg mb fa o pm cd doc a vs ns G Y ho (fd_plain hd) hcd hmg hobj hints hlen hg) fun r s' hq=>?_);obtain ⟨rfl,h2,h3,h4⟩:=hq;exact ⟨.inl ⟨.bool true,.bool true,[],rfl,fun _=>rfl,.bool true,Jke l _,fun _=>⟨List.Pairwise.nil,fun _ hm=>(nomatch hm)⟩⟩,h2,h3,h4⟩
end Att
namespace L2
open PySem PySem.Spec PyProof.Rows
theorem JgT:∀ {vs:List Value} {ns:List Int},IntsAre vs ns→Jt (ns.map V.int) vs
 | _,_,.nil=>.nil
 | _,_,.cons n t h=>.cons ⟨t,rfl⟩ (JgT h)
def Jmn (H:Hp):Prop:=∀ b,H b=none∨∃ o xs,H b=some (.frz o (.lst xs))
theorem Jl4 {P:Program} {w:World} {K:PySem.W.Frag} {mg mb:Str→Option Value} {CX:CXT} {k:Nat} {fa a:Addr} {fd:FuncData} {x:Str} {sp:Sp} {s₁:Shared} {vs:List Value} {ns:List Int}
  (KX:K.In s₁.heap) (hns:s₁.heap.Ns mainGlobals mg) (hb:s₁.heap.Ns builtinsNs mb) (hbb:∀ x:Str,x ≠ "__name__"→mb x=bootBuiltins x) (hlim:s₁.heap.NoLimit) (hg:s₁.gens=#[])
  (ha:s₁.heap.get? a=some { cls:=.type "list",data:=.seq vs.toArray }) (hi:IntsAre vs ns) (hl:ns.length≤sizeLine) (hr:YA k callerA)
  (F:∀ base:Heap,K.In base→base.Ns mainGlobals mg→JM P w K mg base CX k fa fd [x] sp) (hbind:∀ (s:Shared) (u:Value),BindsTo s fd ⟨[u],[]⟩ [(x,u)])
  (hsp:∀ H:Hp,Jmn H→Jq K H a (ns.map V.int)→sp [.ref a] H (fun v _=>v=.bl true) fun _ _ _=>False)
  (hCX:∀ H e s',CX [] H s₁ (fun _ _ _=>False) e s'→False) :
  codeAny (model P w) callerA (.call (.ref fa) ⟨[.ref a],[]⟩) (fun r s'=>r=.ok (.ret (.bool true))∧OldK s₁.heap s'.heap∧s'.os=s₁.os∧AllBare s'.gens) s₁:=by
 have rv:=JgT hi;have lenV:=hi.length;have core:∀ H:Hp,Jmn H→Jq K H a (ns.map V.int)→Zj P w H s₁.heap→(∀ b,H b≠none→b=a)→(H a≠none→K.lookup a=none) →
   codeAny (model P w) callerA (.call (.ref fa) ⟨[.ref a],[]⟩) (fun r s'=>r=.ok (.ret (.bool true))∧OldK s₁.heap s'.heap∧s'.os=s₁.os∧AllBare s'.gens) s₁:=by
  intro H hO hS hok hA hK;have base_of:∀ {b:Addr} {o:Obj},s₁.heap.get? b=some o→H b=none→(JdP s₁.heap H).get? b=some o:=fun e n=>Jl6 e n
  have noA:∀ {b:Addr} {o:Obj} {es:Array DictEntry} {ep:Nat},s₁.heap.get? b=some o→o.data=.dict es ep→H b=none:=fun {b o es ep} e d=>by
   cases q:H b with
   | none=>rfl
   | some u =>
    have e':b=a:=hA b (by rw [q]; simp);subst e';rw [ha] at e; cases e;have d':Data.seq vs.toArray _=Data.dict es ep:=d;cases d'
  have nsK:∀ {b:Addr} {m:Str→Option Value},s₁.heap.Ns b m→(JdP s₁.heap H).Ns b m:=fun {b m} ⟨o,es,ep,e,d,r⟩=>⟨o,es,ep,base_of e (noA e d),d,r⟩
  have hKb:K.In (JdP s₁.heap H):=fun b o e=>base_of (KX b o e) (by
   cases q:H b with
   | none=>rfl
   | some u =>
    have e':b=a:=hA b (by rw [q]; simp);subst e';rw [hK (by rw [q]; simp)] at e; cases e)
  have hM:Mod K mg (JdP s₁.heap H):=⟨hKb,nsK hns,⟨mb,nsK hb,hbb⟩,let ⟨mc,h1,h2⟩:=hlim; ⟨mc,nsK h1,h2⟩⟩
  have e0:Jdi P w K mg (JdP s₁.heap H) callerA [] s₁ H:=⟨rfl,hM,fun b o e=>Jm6 e,Nat.le_of_eq (JkI _ _),trivial,fun b hb=>absurd (show b∈([]:List Addr) from hb) (by simp),hok,.of_eq hg⟩
  refine codeAny_mono ((F _ hKb (nsK hns)).run callerA [] s₁ H ⟨[.ref a],[]⟩ [.ref a] [.ref a] _ _ hr e0 (hbind s₁ (.ref a)) (.cons rfl .nil) (hsp H hO hS)) fun r s' h=>?_
  cases r with
  | error e=>exact (hCX H e s' h).elim
  | ok fl =>
   cases fl with
   | next=>exact False.elim h
   | brk=>exact False.elim h
   | cont=>exact False.elim h
   | ret u =>
    obtain ⟨v,H',os,bare,un,hok',r',q⟩:=h;have q':v=.bl true:=q;subst q';obtain rfl:u=Value.bool true:=r';refine ⟨rfl,OldK.of_keep fun b o e=>?_,os,bare⟩;cases q:H b with
    | none=>exact un.keep b o e q (by intro z; exact absurd (show b∈([]:List Addr) from z) (by simp)) (by simp)
    | some u =>
     rcases hO b with z | ⟨ob,xs,z⟩
     ·rw [q] at z; cases z
     ·have z2:=un.frzs b ob _ z;obtain ⟨e1,_⟩:=hok b _ z;obtain ⟨e2,_⟩:=hok' b _ z2;rw [e] at e1; cases e1;exact e2
 cases hk:K.lookup a with
 | some o =>
  have e:=KX a o hk;rw [ha] at e;cases e;refine core (fun _=>none) (fun _=>.inl rfl) (.inr ⟨_,vs.toArray,_,hk,rfl,rfl,rfl,by rw [List.size_toArray,lenV]; exact hl,by simpa using rv⟩) (fun b u z=>by have z':(none:Option HO)=some u:=z; cases z') (fun b z=>absurd rfl z) fun z=>absurd rfl z
 | none =>
  refine core (fun b=>if b=a then some (.frz { cls:=.type "list",data:=.seq vs.toArray } (.lst (ns.map V.int))) else none) (fun b=>?_) (.inl (.inr ⟨{ cls:=.type "list",data:=.seq vs.toArray },if_pos rfl⟩)) (fun b u z=>?_) (fun b z=>?_) fun _=>hk
  ·by_cases hb:b=a
   ·exact .inr ⟨_,_,if_pos hb⟩
   ·exact .inl (if_neg hb)
  ·by_cases hb:b=a
   ·have z':=(if_pos hb).symm.trans z;cases z';subst hb;exact ⟨ha,by rw [List.length_map]; exact hl,vs,_,rv,ha⟩
   ·have z':=(if_neg hb).symm.trans z;cases z'
  ·by_cases hb:b=a
   ·exact hb
   ·exact absurd (if_neg hb) z
end L2
namespace L2
open PySem PySem.Spec PyProof.Rows
abbrev Zk:CXT:=fun _ _ _ _ _ _=>False
abbrev E0:XK:=fun _ _ _=>False
theorem JK {X:Cx}:Jbk Zk X E0:=fun _ _ _ _ _ _ _ h=>h.elim
structure Fun (K:PySem.W.Frag) (x qual:Str) (st:Stmt) (f:Addr) (fd:FuncData):Prop where
 ex:∃ (oc:Value) (od:Option Addr) (kV doc pm:Value) (an:Option Addr) (cdv ct:Value) (osl:Array (Option Value)),
  fd=PySem.W.fnOf x qual (Jcr st) (Ja2 st) (Jm st) .none kV doc pm an cdv ct∧K.lookup f=some ⟨oc,od,.func fd,osl⟩∧PySem.W.codeIn K cdv qual=true
 kp:PySem.W.keepIn K (.ref f)=true
section
variable {P:Program} {w:World} {K:PySem.W.Frag} {mg:Str→Option Value} {base:Heap}
theorem Fun.ok {x qual:Str} {st:Stmt} {f:Addr} {fd:FuncData} {N ps:List Str} {k:Nat} {sp:Sp} (F:Fun K x qual st f fd) (S:Jx N ps (Jm st)) (len:∀ vs H Q E,sp vs H Q E→vs.length=ps.length)
  (hbody:∀ (cdv:Value) (A:Around) (outer:List Env) (s:Shared) (H:Hp) (vs:List V) (Q:VK) (E:XK),YA k (A.deeper (envOfC qual (Jm st) s.heap.objs.size f cdv))→sp vs H Q E →
   ∃ t,PSs (Zp Zk P w K mg base N qual (Jm st) f cdv A outer s H E).nox (Ja2 st) t∧t { nx:=fun _ H'=>Q .non H',rt:=Q } (Ye N vs) H):JM P w K mg base Zk (k + 1) f fd ps sp:=by
 obtain ⟨oc,od,kV,doc,pm,an,cdv,ct,osl,rfl,lk,hcd⟩:=F.ex;refine JmC lk hcd S len fun A outer s H vs Q E hr hsp=>?_
 obtain ⟨t,h,q⟩:=hbody cdv A outer s H vs Q E hr hsp;exact ⟨t,h.nox,q⟩
theorem Fun.binds {x qual:Str} {st:Stmt} {f:Addr} {fd:FuncData} {ps:List Str} (F:Fun K x qual st f fd)
  (h:∀ (kV doc pm:Value) (an:Option Addr) (cdv ct:Value) (us:List Value),us.length=ps.length→bindArgs (PySem.W.fnOf x qual (Jcr st) (Ja2 st) (Jm st) .none kV doc pm an cdv ct) ⟨us,[]⟩=pure (ps.zip us)):JbL K fd ps []:=by
 obtain ⟨oc,od,kV,doc,pm,an,cdv,ct,osl,rfl,lk,hcd⟩:=F.ex;exact .all (h kV doc pm an cdv ct)
end
theorem Jck {A:Around} {k:Nat} (hr:YA k A):A.units + 1 < cLine:=Nat.lt_of_le_of_lt (Nat.add_le_add_left (by decide:1≤64) _) hr.units
section
variable {X:Cx}
theorem pv (i:Nat) {x:Str} {pos:Pos} (hN:X.N[i]?=some x:=by rfl) (hv:Vis X.env.scope x:=by first | exact Or.inl rfl | exact Or.inr (Or.inl rfl) | exact Or.inr (Or.inr rfl)) (hd:(x == ("__debug__" : Str))=false:=by decide)
  (hcd:(x == ("__classdict__" : Str))=false:=by decide):PE X (.Name x pos) (Jjf i):=JhY hN hv hd hcd
end
theorem ZG {A B:Prop} (h:B):if false=true then A else B:=by
 rw [if_neg Bool.false_ne_true];exact h
theorem Y7 {A B:Prop} (h:A):if true=true then A else B:=by
 rw [if_pos rfl];exact h
theorem Yr {c A B:Prop} [Decidable c] (h1:c→A) (h2:¬ c→B):if c then A else B:=by
 by_cases h:c
 ·rw [if_pos h];exact h1 h
 ·rw [if_neg h];exact h2 h
def Jg (H H':Hp):Prop:=∀ b o,H b=some o→H' b=some o
theorem Jg.refl (H:Hp):Jg H H:=fun _ _ h=>h
theorem Jg.trans {H H1 H2:Hp} (a:Jg H H1) (b:Jg H1 H2):Jg H H2:=fun c o h=>b c o (a c o h)
theorem Jg.free {H H':Hp} (e:Jg H H') {l:Addr} (h:H' l=Option.none):H l=Option.none:=by
 cases q:H l with
 | none=>rfl
 | some o =>
  rw [e l o q] at h;cases h
theorem Jg.seq {K:PySem.W.Frag} {H H':Hp} {a:Addr} {xs:List V} (e:Jg H H') (h:Jq K H a xs):Jq K H' a xs:=by
 rcases h with (h | ⟨o,h⟩) | h
 ·exact .inl (.inl (e _ _ h))
 ·exact .inl (.inr ⟨o,e _ _ h⟩)
 ·exact .inr h
end L2
namespace L2
open PySem PySem.Spec PyProof.Rows
structure Df (K:PySem.W.Frag) (mg:Str→Option Value) (x:Str) (st:Stmt) (ps:List Str) (f:Addr) (fd:FuncData):Prop where
 F:Fun K x x st f fd
 b:JbL K fd ps []
 m:mg x=some (.ref f)
section
variable {X:Cx} {CX:CXT} {k:Nat} {f C:Addr} {fd:FuncData} {ps:List Str} {sp:Sp} {E:XK} {x m:Str} {p pos apos:Pos} {st:Stmt} {e o:Expr} {es:List Expr} {te ta:TE} {t:TA}
theorem Jp (D:Df X.K X.mg x st ps f fd) (G:JM X.prog X.w X.K X.mg X.base CX k f fd ps sp) (hr:YA k X.A) (hx:Jbk CX X E) (ha:PA X (e :: es) t)
  (hg:Gl X x:=by rfl) (hdb:(x == ("__debug__" : Str))=false:=by decide) (he:starEach (e :: es) X.env=(false,eval e X.env) :: starEach es X.env:=by rfl) (hpl:(backTo pos (starEach es X.env)).any (·.1)=false:=by rfl) :
  PE X (.Call (.Name x p) (e :: es) [] pos) (Jmv sp [] E t):=Jm2 G hr hg D.m D.F.kp D.b .nil hx ha hdb he hpl
def Joc:V→Value
 | .ty n=>.type n
 | .ref a=>.ref a
 | _=>.none
theorem JbK:Zb X (.builtin "isinstance") (fun xs H Q=>∃ x c t b,xs=[x,c]∧(∃ n,c=.ty n∨∃ a,c=.ref a)∧JbF X.K H x t∧PySem.W.kitOne X.K t (Joc c)=some b∧Q (.bl b) H):=by
 intro pins s σ H xs us Q I r h;obtain ⟨x,c,t,b,rfl,hc,ty,e,q⟩:=h;cases r with
 | cons r rr =>
  cases rr with
  | cons r' rr =>
   cases rr;rename_i u u';have e':u'=Joc c:=by
    obtain ⟨n,rfl | ⟨a,rfl⟩⟩:=hc
    ·exact r'
    ·exact r'
   subst e';exact JkE I r ty e fun tk=>⟨.bl b,H,I.tok _,rfl,q⟩
def JoI (S C:String):Option Bool:=if (Value.type S == Value.type C)=true then some true else if PySem.W.kitMeta C=true then (fastBuiltinMro S).map (·.contains (Value.type C)) else none
theorem JfL {K:PySem.W.Frag} {S C:String} {b:Bool} (h:JoI S C=some b):PySem.W.kitOne K (.type S) (.type C)=some b:=h
theorem Jn2 {K:PySem.W.Frag}:PySem.W.kitOne K (.type "int") (.type "int")=some true:=JfL (by decide +kernel)
theorem Jn3 {K:PySem.W.Frag}:PySem.W.kitOne K (.type "int") (.type "bool")=some false:=JfL (by decide +kernel)
theorem Jn1 {K:PySem.W.Frag}:PySem.W.kitOne K (.type "int") (.type "str")=some false:=JfL (by decide +kernel)
theorem Jkz {K:PySem.W.Frag}:PySem.W.kitOne K (.type "str") (.type "str")=some true:=JfL (by decide +kernel)
end
def Jo8 (t:TS):TS:=fun D σ H=>@Jeu.rec (fun _=>Prop) (fun nx rt bk ct=>∃ R:St→Hp→Prop,t ⟨R,rt,bk,ct⟩ σ H∧∀ σ' H',R σ' H'→nx σ' H') D
theorem J2 {X:Cx} {st:Stmt} {t:TS} (h:PS X st t):PS X st (Jo8 t):=by
 intro pins s σ H D I ⟨R,q,n⟩;refine JJ (h pins s σ H _ I q) fun f s1 z=>?_
 cases f with
 | next =>
  obtain ⟨σ',H',I',r⟩:=z;exact ⟨σ',H',I',n _ _ r⟩
 | brk=>exact z
 | cont=>exact z
 | ret u=>exact z
theorem Jg.upd {H:Hp} {p:Addr} {o:HO} (h:H p=none):Jg H (upd H p o):=fun b u e=>by
 rw [Jl (Jn e h)];exact e
theorem Jg.tup {K:PySem.W.Frag} {H H':Hp} {a:Addr} {xs:List V} (e:Jg H H') (h:J0 K H a xs):J0 K H' a xs:=by
 rcases h with (h | ⟨o,h⟩) | h
 ·exact .inl (.inl (e _ _ h))
 ·exact .inl (.inr ⟨o,e _ _ h⟩)
 ·exact .inr h
theorem Z7 {c:Bool} {A B:Prop} (hc:c=true) (h:A):if c=true then A else B:=by rw [if_pos hc]; exact h
theorem Y0 {c:Bool} {A B:Prop} (hc:c=false) (h:B):if c=true then A else B:=by rw [hc,if_neg Bool.false_ne_true]; exact h
section
variable {X:Cx} {x:Str} {pos:Pos}
theorem JfC {S:String} (hg:Gl X x) (hm:X.mg x=none) (hv:bootBuiltins x=some (.type S)) (hn:x ≠ "__name__":=by decide) (hd:(x == ("__debug__" : Str))=false:=by decide):PE X (.Name x pos) (tC (.ty S)):=Jm3 hg hm hv rfl hn hd
theorem JiP {a:Addr} (hg:Gl X x) (hm:X.mg x=some (.ref a)) (hd:(x == ("__debug__" : Str))=false:=by decide):PE X (.Name x pos) (tC (.ref a)):=JaA hg hm rfl hd
end
end L2
namespace L2
open PySem PySem.Spec PyProof.Rows
structure ExC (K:PySem.W.Frag) (C:Addr):Prop where
 ex:PySem.W.excIn K C [.type "ValueError",.type "Exception",.type "BaseException",.type "object"] "ValueError.__new__" = true
 ga:PySem.W.findIn K (.ref C) "__getattribute__" = some (some (.builtin "BaseException.__getattribute__"))
 gt:PySem.W.findIn K (.ref C) "__getattr__" = some none
 cl:PySem.W.findIn K (.ref C) "__class__" = some (some (.builtin "object.__class__"))
 sp:PySem.W.specialIn K (.builtin "object.__class__") "__get__" = some (some (.builtin "getset_descriptor.__get__"))
 tk:PySem.W.takesIn K (.builtin "object.__class__")=some true
 mo:PySem.W.mroIn K C (.type "object")=some true
 mb:PySem.W.mroIn K C (.type "BaseException")=some true
 ci:(PySem.W.clsIn K C).isSome=true
section
variable {prog:Program} {w:World} {A:Around} {E:Value→Shared→Prop} {s:Shared} {K:PySem.W.Frag} {e C:Addr} {oe:Obj}
def Jol (h:Heap) (e C:Addr):Prop:=∃ oe,h.get? e=some oe∧oe.cls=.ref C
theorem Jol.type {h:Heap} {M:Model} (I:Jol h e C):PySem.W.Looks M h (typeOf (.ref e)) (.ref C):=by
 obtain ⟨oe,h1,h2⟩:=I;exact h2 ▸ (PySem.W.Looks.ld h1).andThen .now
end
structure JjV (P:Program) (w:World) (outer:List Env) (H:Hp) (h:Heap) (ea C:Addr) (B:Heap) (H':Hp) (h':Heap):Prop where
 fly:∃ a0,Heap.FlyingW B outer ea (.ref C) a0 h'
 hok:Zj P w H' B
 keep:∀ b o,h.get? b=some o→H b=none→b∉Zi outer→B.get? b=some o
 there:∀ b o,h.get? b=some o→b∉Zi outer→∃ o',B.get? b=some o'
 slot:∀ b o,h.get? b=some o→b∈Zi outer→∃ sl,h'.get? b=some { o with slots:=sl }
 free:∀ b o,h.get? b=some o→H b=none→H' b=none
 tups:∀ b xs,H b=some (.tup xs)→H' b=some (.tup xs)
 frzs:∀ b o u,H b=some (.frz o u)→H' b=some (.frz o u)
 tbls:∀ b ps,H b=some (.tbl ps)→∃ more,H' b=some (.tbl (ps ++ more))
theorem JjV.un {P:Program} {w:World} {outer:List Env} {H H':Hp} {h h' h'' B:Heap} {ea C:Addr} (F:JjV P w outer H h ea C B H' h') (st:B.StaysIn h'') (sl:∀ b o,h.get? b=some o→b∈Zi outer→∃ sl,h''.get? b=some { o with slots:=sl }) :
  Un (Zi outer) [] H H' h h'' where
 keep:=fun b o e n hb _=>st b o (F.keep b o e n hb)
 slot:=fun b o e n hb _=>sl b o e hb
 free:=fun b o e n _=>F.free b o e n
 there:=fun b o e _=>by
  by_cases hb:b∈Zi outer
  ·obtain ⟨s,q⟩:=sl b o e hb;exact ⟨_,q⟩
  ·obtain ⟨o',q⟩:=F.there b o e hb;exact ⟨o',st b o' q⟩
 tups:=F.tups
 frzs:=F.frzs
 tbls:=F.tbls
theorem JhM {h' h'' base:Heap} {l:List Env} (hl:h'.FunFrames base l) (k:h'.UpToSlots h'') {b:Addr} {o:Obj} {sl:Array (Option Value)} (e:h'.get? b=some { o with slots:=sl }) (hb:b∈Zi l):∃ sl,h''.get? b=some { o with slots:=sl }:=by
 obtain ⟨_,o',ho',hd⟩:=hl.mem hb;rw [e] at ho';cases ho';obtain ⟨s,q⟩:=k b _ e hd;exact ⟨s,q⟩
abbrev Y4 (P:Program) (w:World):CXT:=fun outer H s E e s'=>∃ (ea C:Addr) (B:Heap) (H':Hp),e=.ref ea∧s'.os=s.os∧AllBare s'.gens∧JjV P w outer H s.heap ea C B H' s'.heap∧E (.ref C) none H'
def Jk6 (X:Cx) (E:XK):Prop:=∀ (pins:List (Addr×Obj)) (σ:St) (H:Hp) (s:Shared) (ea C:Addr) (vs:List Value) (h':Heap),Jk X pins σ H s→Heap.MadeExcOf s.heap h' ea (.ref C) vs→E (.ref C) none H→X.xe (.ref ea) { s with heap:=h' }
section
variable {P:Program} {w:World} {K:PySem.W.Frag} {mg:Str→Option Value} {base:Heap} {N:List Str} {qual:Str} {sc:Scope} {f:Addr} {cd:Value} {A:Around} {outer:List Env} {s:Shared} {H:Hp} {E:XK}
theorem Jdq:Jk6 (Zp (Y4 P w) P w K mg base N qual sc f cd A outer s H E) E:=by
 intro pins σ H1 s1 ea C vs h' I hx q;have hstk:Zi (Zp (Y4 P w) P w K mg base N qual sc f cd A outer s H E).stack=s.heap.objs.size :: Zi outer:=rfl;have hin:∀ env∈(Zp (Y4 P w) P w K mg base N qual sc f cd A outer s H E).stack,∀ a,env.frame=some a→a∈Zi (Zp (Y4 P w) P w K mg base N qual sc f cd A outer s H E).stack:=fun env he a ha=>List.mem_filterMap.mpr ⟨env,he,ha⟩
 have notin:∀ {b:Addr} {o:Obj},s.heap.get? b=some o→b∉Zi outer→b∉Zi (Zp (Y4 P w) P w K mg base N qual sc f cd A outer s H E).stack:=fun {b o} e hb hm=>by
  rw [hstk] at hm;rcases List.mem_cons.mp hm with z | z
  ·exact absurd (Heap.lt_size e) (by rw [z]; exact Nat.lt_irrefl _)
  ·exact hb z
 have noex:∀ b:Addr,b∉(Zp (Y4 P w) P w K mg base N qual sc f cd A outer s H E).ex:=fun b z=>absurd (show b∈([]:List Addr) from z) (by simp)
 refine wpAny_leaves_madeW (base:=PySem.W.hideAll s1.heap (Zi (Zp (Y4 P w) P w K mg base N qual sc f cd A outer s H E).stack)) (h:=s1.heap) I.ok.frames rfl (fun b o e=>PySem.W.of_hideAll _ e) (PySem.W.funFrames_hide I.stack hin) hx fun h'' t x1 x2 x3 x4=>?_
 have hF0:s1.heap.FunFrames base outer:=I.funs;have hF1:h'.FunFrames base outer:=hF0.of_keeps fun b o e _=>⟨o,hx.keeps b o e,rfl⟩
 refine ⟨ea,C,_,H1,rfl,I.os,I.bare,⟨⟨_,x1⟩,fun a o e=>?_,fun b o e n hb=>?_,fun b o e hb=>?_,fun b o e hb=>?_,fun b o e n=>I.base.free b o e n (noex b),I.base.tups,I.base.frzs,I.base.tbls⟩,q⟩
 ·have tin:∀ b u,H1 b=some u→∀ o,s1.heap.get? b=some o→(PySem.W.hideAll s1.heap (Zi (Zp (Y4 P w) P w K mg base N qual sc f cd A outer s H E).stack)).get? b=some o:=fun b u hu o ho=>PySem.W.hideAll_get _ ho fun hm=>by
   rw [I.stkFree b hm] at hu; cases hu
  refine (I.hok a o e).stay (fun b u hb hq=>?_) (fun _ z=>z) fun _ _ z=>z
  rcases hb with rfl | hb
  ·exact tin _ _ e u hq
  ·exact tin _ _ hb u hq
 ·exact PySem.W.hideAll_get _ (I.base.keep b o e n hb (noex b)) (notin e hb)
 ·obtain ⟨o',e'⟩:=I.base.there b o e (noex b);exact ⟨o',PySem.W.hideAll_get _ e' (notin e hb)⟩
 ·obtain ⟨sl,e1⟩:=I.base.slot b o e (I.ok.frf b hb) hb (noex b);exact JhM hF1 x4 (hx.keeps _ _ e1) hb
theorem Yy:Jbk (Y4 P w) (Zp (Y4 P w) P w K mg base N qual sc f cd A outer s H E) E:=by
 intro pins σ H1 s1 e s' I hq;obtain ⟨ea,C,B,H2,rfl,os,bare,fl,q⟩:=hq;have hstk:Zi (Zp (Y4 P w) P w K mg base N qual sc f cd A outer s H E).stack=s.heap.objs.size :: Zi outer:=rfl;have sub:∀ {b:Addr},b∈Zi outer→b∈Zi (Zp (Y4 P w) P w K mg base N qual sc f cd A outer s H E).stack:=fun hb=>by rw [hstk]; exact List.mem_cons_of_mem _ hb
 have notin:∀ {b:Addr} {o:Obj},s.heap.get? b=some o→b∉Zi outer→b∉Zi (Zp (Y4 P w) P w K mg base N qual sc f cd A outer s H E).stack:=fun {b o} e hb hm=>by
  rw [hstk] at hm;rcases List.mem_cons.mp hm with z | z
  ·exact absurd (Heap.lt_size e) (by rw [z]; exact Nat.lt_irrefl _)
  ·exact hb z
 have noex:∀ b:Addr,b∉(Zp (Y4 P w) P w K mg base N qual sc f cd A outer s H E).ex:=fun b z=>absurd (show b∈([]:List Addr) from z) (by simp)
 obtain ⟨a0,fly⟩:=fl.fly;refine wpAny_leaves_onW I.ok.frames rfl fly fun h'' x1 x2=>?_
 refine ⟨ea,C,B,H2,rfl,os.trans I.os,bare,⟨⟨_,x1⟩,fl.hok,fun b o e n hb=>?_,fun b o e hb=>?_,fun b o e hb=>?_,fun b o e n=>?_,fun b xs e=>fl.tups b xs (I.base.tups b xs e),fun b o u e=>fl.frzs b o u (I.base.frzs b o u e),fun b ps e=>?_⟩,q⟩
 ·exact fl.keep b o (I.base.keep b o e n hb (noex b)) (I.base.free b o e n (noex b)) (notin e hb)
 ·obtain ⟨o',e'⟩:=I.base.there b o e (noex b);exact fl.there b o' e' (notin e hb)
 ·obtain ⟨sl,e1⟩:=I.base.slot b o e (I.ok.frf b hb) hb (noex b);obtain ⟨sl',e2⟩:=fl.slot b _ e1 (sub hb);exact JhM fly.2.2.1 x2 e2 (sub hb)
 ·obtain ⟨o',e'⟩:=I.base.there b o e (noex b);exact fl.free b o' e' (I.base.free b o e n (noex b))
 ·obtain ⟨m1,e1⟩:=I.base.tbls b ps e;obtain ⟨m2,e2⟩:=fl.tbls b _ e1;exact ⟨m1 ++ m2,by rw [e2,Array.append_assoc]⟩
theorem Fun.ok1 {x:Str} {st:Stmt} {fd:FuncData} {ps:List Str} {k:Nat} {sp:Sp} (F:Fun K x qual st f fd) (S:Jx N ps (Jm st)) (len:∀ vs H Q E,sp vs H Q E→vs.length=ps.length)
  (hbody:∀ (cdv:Value) (A:Around) (outer:List Env) (s:Shared) (H:Hp) (vs:List V) (Q:VK) (E:XK),YA k (A.deeper (envOfC qual (Jm st) s.heap.objs.size f cdv))→sp vs H Q E →
   ∃ t,PSs (Zp (Y4 P w) P w K mg base N qual (Jm st) f cdv A outer s H E) (Ja2 st) t∧t { nx:=fun _ H'=>Q .non H',rt:=Q } (Ye N vs) H):JM P w K mg base (Y4 P w) (k + 1) f fd ps sp:=by
 obtain ⟨oc,od,kV,doc,pm,an,cdv,ct,osl,rfl,lk,hcd⟩:=F.ex;exact JmC lk hcd S len fun A outer s H vs Q E hr hsp=>hbody cdv A outer s H vs Q E hr hsp
end
section
variable {X:Cx} {x:Str} {C:Addr} {e:Expr} {te:TE} {np cpos pos:Pos} {E:XK}
def JhF (C:Addr) (E:XK) (te:TE):TS:=fun D σ H=>te σ H fun v H'=>E (.ref C) none H'
theorem Jm4 {K:PySem.W.Frag} {h:Heap} {bmB:List Value} {newId:String} (X:K.In h) (q:PySem.W.excIn K C bmB newId=true):OwnCls x C bmB newId (fun _=>some (.ref C)) h:=by
 refine ⟨rfl,?_⟩;unfold PySem.W.excIn at q;split at q
 ·rename_i dd cd sl ho;split at q
  ·rename_i C' bm k0 k1 k2 k3 n k5 hm hs;simp only [Bool.and_eq_true,beq_iff_eq,Bool.not_eq_true'] at q;obtain ⟨⟨⟨⟨⟨rfl,rfl⟩,hdel⟩,ht⟩,hok⟩,hni⟩:=q;obtain ⟨nm,bs,mro,ns,qn,hd,sn,sub,ab,col,del⟩:=cd;dsimp only at hm hdel hok hni;subst hm hdel;have hsl:sl=#[k0,k1,k2,k3,some (.builtin n),k5]:=by
    obtain ⟨l⟩:=sl;simp only at hs;rw [hs]
   subst hsl;exact ⟨bm,ns,nm,qn,bs,hd,sn,sub,ab,col,dd,k0,k1,k2,k3,k5,_,X _ _ ho,.of_isNs (PySem.W.isNs_of_in X hok),PySem.W.nsMap_none_of_in X hok hni,PySem.W.tail_of_in X ht⟩
  ·cases q
 ·cases q
theorem JcG (XC:ExC X.K C) (hm:X.mg x=some (.ref C)) (hr:Jk6 X E) (he:PE X e te) (hc:X.calm=true:=by rfl) (hg:Gl X x:=by rfl) (hd:(x == ("__debug__" : Str))=false:=by decide)
  (hs:starEach [e] X.env=[(false,eval e X.env)]:=by rfl):PS X (.Raise (some (.Call (.Name x np) [e] [] cpos)) none pos) (JhF C E te):=by
 intro pins s σ H D I h;obtain ⟨tl,N,nm,q,bs,hdct,sn,sub,ab,col,dd,k0,k1,k2,k3,k5,mN,hC,hN,hni,T⟩:=(Jm4 (x:=x) I.mod.kin XC.ex).obj;refine wpAny_Raise_call_subU (C:=C) (nm:=nm) (q:=q) (N:=N) (bs:=bs) (bm:=tl) (hdct:=hdct) (sn:=sn) (sub:=sub) (ab:=ab) (col:=col) (dd:=dd) (k0:=k0) (k1:=k1) (k2:=k2) (k3:=k3) (k5:=k5) (mN:=mN)
  F.excBase_ValueError F.excBase_ValueError.hasB F.excBase_ValueError (T.hasType F.excBase_ValueError.hasBase) (I.ok.hd hc) (by rw [hs]; rfl) hni (JeG I hg hm ⟨rfl,?_⟩ hd)
 rw [hs];refine Calls.evalArgs_plain (Calls.spliced_cons (JJ (he pins s σ H _ I h) fun u s1 ⟨v,H1,I1,r1,q1⟩=>?_));exact Calls.spliced_nil ⟨rfl,by show 1≤sizeLine; decide,I1.bk _ _ hC,hN.keeps I1.bk,T.keeps I1.bk,fun h' ea hx=>hr pins σ H1 s1 ea C _ h' I1 hx q1⟩
end
theorem J9.at_ {P:Program} {w:World} {H:Hp} {h:Heap} {a:Addr} {o:HO} (x:J9 P w H h a o):∃ ob,h.get? a=some ob:=by
 cases o with
 | lst xs=>obtain ⟨_,_,_,_,e⟩:=x; exact ⟨_,e⟩
 | tup xs=>obtain ⟨_,_,_,ob,e,_⟩:=x; exact ⟨_,e⟩
 | dK kvs=>obtain ⟨_,_,_,_,o,_,_,e,_⟩:=x; exact ⟨_,e⟩
 | dT kvs=>obtain ⟨_,_,_,_,o,_,_,e,_⟩:=x; exact ⟨_,e⟩
 | set S n=>obtain ⟨o,_,_,_,e,_⟩:=x; exact ⟨_,e⟩
 | ins C dx fs=>obtain ⟨_,_,_,e,_⟩:=x; exact ⟨_,e⟩
 | own y=>obtain ⟨_,e⟩:=x; exact ⟨_,e⟩
 | xd fs=>obtain ⟨_,⟨_,_,_,e,_⟩,_⟩:=x; exact ⟨_,e⟩
 | rng lo hi=>obtain ⟨_,_,_,e⟩:=x; exact ⟨_,e⟩
 | frz ob u=>obtain ⟨e,_⟩:=x; exact ⟨_,e⟩
 | tbl ps=>exact ⟨_,(show h.get? a=some _ from x)⟩
 | met f y=>exact ⟨_,(show h.get? a=some _ from x)⟩
 | ext φ=>obtain ⟨_,⟨_,e⟩,_⟩:=x; exact ⟨_,e⟩
end L2
namespace L2
open PySem PySem.Spec PyProof.Rows
theorem PE.imp {X:Cx} {e:Expr} {t t':TE} (h:PE X e t) (i:∀ σ H Q,t' σ H Q→t σ H Q):PE X e t':=fun pins s σ H Q I q=>h pins s σ H Q I (i _ _ _ q)
theorem PS.imp {X:Cx} {e:Stmt} {t t':TS} (h:PS X e t) (i:∀ D σ H,t' D σ H→t D σ H):PS X e t':=fun pins s σ H D I q=>h pins s σ H D I (i _ _ _ q)
theorem JfU {sc:Scope} {env:Env} (h:∀ y∈sc.names,y.2=.free→∃ c,env.cells.lookup y.1=some c) :
  ∃ cl,closureFor sc env=pure cl∧(∀ x c,cl.lookup x=some c→env.cells.lookup x=some c)∧∀ y∈sc.names,y.2=.free→∃ c,cl.lookup y.1=some c:=by
 have gen:∀ (names:List (Str×NameKind)) (acc:List (Str×Addr)),(∀ y∈names,y.2=.free→∃ c,env.cells.lookup y.1=some c)→(∀ x c,acc.lookup x=some c→env.cells.lookup x=some c) →
   ∃ cl,(forIn names acc fun x cs=>(do
    if x.2 == NameKind.free then
     let c ← cellOf env x.1
     pure (ForInStep.yield ((x.1,c) :: cs))
    else pure (ForInStep.yield cs)):Sem (List (Str×Addr)))=pure cl∧(∀ x c,cl.lookup x=some c→env.cells.lookup x=some c)∧(∀ x c,acc.lookup x=some c→∃ c,cl.lookup x=some c)∧∀ y∈names,y.2=.free→∃ c,cl.lookup y.1=some c:=by
  intro names
  induction names with
  | nil=>intro acc _ ha; exact ⟨acc,rfl,ha,fun x c e=>⟨c,e⟩,fun y hy=>nomatch hy⟩
  | cons n r ih =>
   intro acc hn ha;obtain ⟨x,k⟩:=n;by_cases hk:k=.free
   ·subst hk;obtain ⟨c,hc⟩:=hn (x,.free) List.mem_cons_self rfl;obtain ⟨cl,e1,e2,e3,e4⟩:=ih ((x,c) :: acc) (fun y hy=>hn y (List.mem_cons_of_mem _ hy)) (fun y d e=>by
     rw [List.lookup_cons] at e;split at e
     ·rename_i q;cases e;rw [beq_iff_eq.mp q];exact hc
     ·exact ha y d e)
    refine ⟨cl,?_,e2,fun y d e=>?_,fun y hy hf=>?_⟩
    ·rw [List.forIn_cons];have z:cellOf env x=pure c:=by unfold cellOf; rw [hc]
     simp only [beq_self_eq_true,if_true,z,pure_bind];exact e1
    ·refine e3 y (if y == x then c else d) ?_;rw [List.lookup_cons];split
     ·rename_i q; simp [q]
     ·rename_i q; simp [q,e]
    ·rcases List.mem_cons.mp hy with rfl | hy
     ·exact e3 x c (by rw [List.lookup_cons]; simp)
     ·exact e4 y hy hf
   ·obtain ⟨cl,e1,e2,e3,e4⟩:=ih acc (fun y hy=>hn y (List.mem_cons_of_mem _ hy)) ha;refine ⟨cl,?_,e2,e3,fun y hy hf=>?_⟩
    ·rw [List.forIn_cons];have z:(k == NameKind.free)=false:=by simpa using hk
     simp only [z,Bool.false_eq_true,if_false,pure_bind];exact e1
    ·rcases List.mem_cons.mp hy with rfl | hy
     ·exact absurd hf hk
     ·exact e4 y hy hf
 obtain ⟨cl,e1,e2,_,e4⟩:=gen sc.names [] h (fun x c e=>by simp at e);refine ⟨cl,?_,e2,e4⟩;unfold closureFor;rw [← bind_pure (pure cl:Sem (List (Str×Addr))),← e1]
def Yw (X:Cx) (Nc:List Str) (sc:Scope) (cl:List (Str×Addr)) (fp:List Addr) (s:Shared) (H:Hp):Cx :=
 { X with N:=Nc,s₀:=s,H₀:=H,env:=compEnvC sc cl s.heap.objs.size X.env,outer:=X.stack,stack:=X.stack,ex:=fp,fn:=fun _=>false,pn:=[],xe:=fun _ _=>False }
def Jeq (js:List Nat) (σ:St):St:=js.map fun j=>(σ[j]?).join
def JeN (N:List Str) (names:List (Str×NameKind)) (nt:Nat) (Nc:List Str) (sc:Scope) (js:List Nat):Bool :=
 decide Nc.Nodup && decide (Nc.length=nt + js.length) && ((Nc.drop nt).zip js).all (fun p=>N[p.2]? == some p.1 && sc.names.lookup p.1 == some NameKind.free && names.lookup p.1 == some NameKind.cell) &&
  sc.names.all (fun y=>(y.2 == NameKind.local && sc.names.lookup y.1 == some NameKind.local) || (y.2 == NameKind.free && names.lookup y.1 == some NameKind.cell) || (y.2 != NameKind.local && y.2 != NameKind.free && y.2 != NameKind.cell)) && sc.kind == .function
def Jdc (σ σ':St):Prop:=σ'.length=σ.length∧∀ (i:Nat) v,σ[i]?=some (some v)→σ'[i]?=some (some v)
theorem Jdc.refl (σ:St):Jdc σ σ:=⟨rfl,fun _ _ e=>e⟩
theorem Jdc.set {σ σ':St} {i:Nat} {x:Option V} (h:Jdc σ σ') (e:σ[i]?=some none):Jdc σ (σ'.set i x):=by
 refine ⟨by rw [List.length_set]; exact h.1,fun j v q=>?_⟩;by_cases hj:j=i
 ·subst hj; rw [e] at q; cases q
 ·rw [List.getElem?_set_ne (Ne.symm hj)]; exact h.2 j v q
def Jbn (J:It) (g:TG) (tc:TT) (te:TE) (σc:St) (D:Addr) (H1:Hp) (Q:Hp→Prop):Prop :=
 ∃ W:Nat→Nat→List V→Hp→Prop,(∃ m,W 0 m [] (upd H1 D (.lst [])))∧∀ i m ys H,W i m ys H→H D=some (.lst ys) ∧
  ((J.stop i H∧Q H)∨(J.go i H∧∃ N:List V→Hp→Prop,(∀ zs H',N zs H'→∃ m',m' < m∧W (i + 1) m' zs H')∧∀ x H',J.yld i H x H'→g x σc H' fun σ2 H2=>Jdc σc σ2 ∧
   tc σ2 H2 fun b H3=>if b=true then te σ2 H3 fun v H4=>H4 D=some (.lst ys)∧ys.length < sizeLine∧N (ys ++ [v]) (upd H4 D (.lst (ys ++ [v]))) else N ys H3))
def Jix (X:Cx) (ifs:List Expr) (tc:TT):Prop:=∀ (pins:List (Addr×Obj)) (s:Shared) (σ:St) (H:Hp) (Q:Bool→Hp→Prop),Jk X pins σ H s→tc σ H Q →
 wpAny (model X.prog X.w) X.A (forIn ifs true fun c r=>if r=true then do let ok ← isTrue c X.env (eval c X.env); pure (ForInStep.yield ok) else pure (ForInStep.yield r)) (TP X pins σ Q) X.xe s
def Jct:TT:=fun _ H Q=>Q true H
theorem Zd {X:Cx}:Jix X [] Jct:=fun _ _ _ H _ I q=>wpAny_tests_nil ⟨H,I,q⟩
theorem Jgn {X:Cx} {c:Expr} {tc:TT} (h:PT X c tc):Jix X [c] tc:=fun pins s σ H Q I q=>wpAny_tests_one (h pins s σ H Q I q)
theorem JjM {prog:Program} {w:World} {A:Around} {R:Result→Shared→Prop} {s:Shared} {elt target iter:Expr} {ifs:List Expr} {scope:Scope} {pos:Pos} {it acc:Value} {env:Env} (I:Nat→Shared→Prop)
  (turn:∀ n s,I n s→wpAny (model prog w) A (pyNext it) (fun r s₁=>match r with
   | none=>R (.ok .next) s₁
   | some v=>wpAny (model prog w) A (letOwnedTupleGo target it v) (fun _ s₁'=>wpAny (model prog w) A (assign target env v) (fun _ s₂ =>
     wpAny (model prog w) A (forIn ifs true fun c r=>if r=true then do let ok ← isTrue c env (eval c env); pure (ForInStep.yield ok) else pure (ForInStep.yield r)) (fun ok s₃ =>
      if ok=true then wpAny (model prog w) A (eval elt env) (fun x s₄ =>
       wpAny (model prog w) A (call (.builtin "list.append") [acc,x]) (fun _ s₅=>∃ m,m < n∧I m s₅) (fun _ _=>False) s₄) (fun _ _=>False) s₃
      else ∃ m,m < n∧I m s₃) (fun _ _=>False) s₂) (fun _ _=>False) s₁') (fun _ _=>False) s₁) (fun _ _=>False) s)
  (n:Nat) (h:I n s) :
  codeAny (model prog w) A (.compLoop (.ListComp elt [⟨target,iter,ifs,0⟩] scope pos) 0 it acc env) R s:=by
 refine codeAny_loop rfl I (fun n s hI=>?_) n h;show wpAny _ A ((compTurn (.ListComp elt [⟨target,iter,ifs,0⟩] scope pos) 0 it acc env).onRaise (fun x=>do noteFrame x env; theTreesLotGoes x)) _ _ s;refine wpAny_noted ?_;rw [compTurn_list];refine wpAny_bind (wpAny_standAt (wpAny_bind (wpAny_mono (turn n s hI) (fun r s₁ h₁=>?_) fun _ _ h'=>h'.elim)));cases r with
 | none=>exact wpAny_pure h₁
 | some v =>
  refine wpAny_bind (wpAny_mono h₁ (fun _ s₁' h₁'=>?_) fun _ _ h'=>h'.elim);refine wpAny_bind (wpAny_mono h₁' (fun _ s₂ h₂=>wpAny_bind (wpAny_mono h₂ (fun ok s₃ h₃=>?_) fun _ _ h'=>h'.elim)) fun _ _ h'=>h'.elim);cases ok with
  | false=>exact wpAny_pure ⟨rfl,h₃⟩
  | true =>
   exact wpAny_bind (wpAny_bind (wpAny_mono h₃ (fun x s₄ h₄=>wpAny_bind (wpAny_mono h₄ (fun _ s₅ h₅=>wpAny_pure (wpAny_pure ⟨rfl,h₅⟩)) fun _ _ h'=>h'.elim)) fun _ _ h'=>h'.elim))
theorem JcD {env:Env}:∀ {names:List (Str×NameKind)} {x:Str} {k':NameKind},
  (names.map fun (n,k)=>if (k == NameKind.free && env.scope.kind == .function && env.kindOf n == some .cell) then (n,NameKind.cell) else (n,k)).lookup x=some k'→∃ k,names.lookup x=some k∧(k'=k∨(k=.free∧k'=.cell))
 | [],x,k',h=>by simp at h
 | (n,k) :: r,x,k',h=>by
  rw [List.map_cons] at h;by_cases hx:x=n
  ·subst hx;by_cases hc:(k == NameKind.free && env.scope.kind == .function && env.kindOf x == some .cell)=true
   ·have h:List.lookup x ((if (k == NameKind.free && env.scope.kind == .function && env.kindOf x == some .cell)=true then (x,NameKind.cell) else (x,k)) :: _)=some k':=h;rw [if_pos hc] at h;simp only [Bool.and_eq_true,beq_iff_eq] at hc;exact ⟨k,by simp [List.lookup_cons],.inr ⟨hc.1.1,by simpa [List.lookup_cons] using h.symm⟩⟩
   ·have h:List.lookup x ((if (k == NameKind.free && env.scope.kind == .function && env.kindOf x == some .cell)=true then (x,NameKind.cell) else (x,k)) :: _)=some k':=h;rw [if_neg hc] at h;exact ⟨k,by simp [List.lookup_cons],.inl (by simpa [List.lookup_cons] using h.symm)⟩
  ·have hb:(x == n)=false:=beq_eq_false_iff_ne.mpr hx;have h:List.lookup x ((if (k == NameKind.free && env.scope.kind == .function && env.kindOf n == some .cell)=true then (n,NameKind.cell) else (n,k)) :: _)=some k':=h;have h2:(r.map fun (n,k)=>if (k == NameKind.free && env.scope.kind == .function && env.kindOf n == some .cell) then (n,NameKind.cell) else (n,k)).lookup x=some k':=by
    by_cases hc:(k == NameKind.free && env.scope.kind == .function && env.kindOf n == some .cell)=true
    ·rw [if_pos hc] at h; simpa [List.lookup_cons,hb] using h
    ·rw [if_neg hc] at h; simpa [List.lookup_cons,hb] using h
   obtain ⟨k0,e,z⟩:=JcD h2;exact ⟨k0,by simpa [List.lookup_cons,hb] using e,z⟩
theorem JcE {env:Env}:∀ {names:List (Str×NameKind)} {x:Str},names.lookup x=some .free →
  (names.map fun (n,k)=>if (k == NameKind.free && env.scope.kind == .function && env.kindOf n == some .cell) then (n,NameKind.cell) else (n,k)).lookup x=some .cell∨(names.map fun (n,k)=>if (k == NameKind.free && env.scope.kind == .function && env.kindOf n == some .cell) then (n,NameKind.cell) else (n,k)).lookup x=some .free
 | [],x,h=>by simp at h
 | (n,k) :: r,x,h=>by
  rw [List.map_cons];show List.lookup x ((if (k == NameKind.free && env.scope.kind == .function && env.kindOf n == some .cell)=true then (n,NameKind.cell) else (n,k)) :: _)=_∨List.lookup x ((if (k == NameKind.free && env.scope.kind == .function && env.kindOf n == some .cell)=true then (n,NameKind.cell) else (n,k)) :: _)=_;by_cases hx:x=n
  ·subst hx;have hk:k=.free:=by simpa [List.lookup_cons] using h
   subst hk;split
   ·exact .inl (by simp [List.lookup_cons])
   ·exact .inr (by simp [List.lookup_cons])
  ·have hb:(x == n)=false:=beq_eq_false_iff_ne.mpr hx;have ih:=JcE (env:=env) (names:=r) (x:=x) (by simpa [List.lookup_cons,hb] using h);split
   ·simpa [List.lookup_cons,hb] using ih
   ·simpa [List.lookup_cons,hb] using ih
section
variable {X:Cx} {pins:List (Addr×Obj)} {σ:St} {H2:Hp} {s2:Shared}
theorem JfT {elt tg iter:Expr} {ifs:List Expr} {sc:Scope} {pos:Pos} {nt:Nat} {Nc:List Str} {js:List Nat} {J:It} {fp:List Addr} {it:Addr} {tn:Nat→Heap→Prop} {g:TG} {tc:TT} {te:TE} {Q:Addr→Hp→Prop} {E:Value→Shared→Prop}
  {N:List Str} {names:List (Str×NameKind)} (hcap:JeN N names nt Nc sc js=true) (hNX:X.N=N) (hsX:X.env.scope.names=names)
  (hg:∀ (cl:List (Str×Addr)) (fp:List Addr) (s:Shared) (H:Hp),PG (Yw X Nc sc cl fp s H) tg g) (hc:∀ (cl:List (Str×Addr)) (fp:List Addr) (s:Shared) (H:Hp),Jix (Yw X Nc sc cl fp s H) ifs tc)
  (he:∀ (cl:List (Str×Addr)) (fp:List Addr) (s:Shared) (H:Hp),PE (Yw X Nc sc cl fp s H) elt te) (calm:X.calm=true)
  (I2:Jk X pins σ H2 s2) (T:JgH X.prog X.w X.K tg J fp it tn) (st2:tn 0 s2.heap) (f2:∀ b∈fp,JcZ X pins H2 b)
  (hw:∀ D,H2 D=none→Jbn J g tc te (List.replicate nt none ++ Jeq js σ) D H2 (Q D)) {cl:List (Str×Addr)} (hcl:closureFor sc X.env=pure cl) (hcl1:∀ x c,cl.lookup x=some c→X.env.cells.lookup x=some c) (hcl2:∀ y∈sc.names,y.2=.free→∃ c,cl.lookup y.1=some c) :
  wpAny (model X.prog X.w) X.A (newList []) (fun acc s₃=>wpAny (model X.prog X.w) X.A (newFunctionEnv sc X.env.globals cl [] X.env.qual none .none (some X.env)) (fun cenv s₄ =>
   codeAny (model X.prog X.w) X.A (.compStart (.ListComp elt [⟨tg,iter,ifs,0⟩] sc pos) 0 (.ref it) acc { cenv with scope:=relabel sc X.env }) (fun r s'=>(∃ f,r=.ok f)∧∃ D H',acc=.ref D∧Jk X pins σ H' s'∧(∃ m,s'.heap.Ns cenv.locals m)∧JcZ X pins H' cenv.locals∧Q D H') s₄) E s₃) E s2:=by
 simp only [JeN,Bool.and_eq_true,decide_eq_true_eq,List.all_eq_true,beq_iff_eq] at hcap;obtain ⟨⟨⟨⟨nd,hlen⟩,all1⟩,all2⟩,hkind⟩:=hcap;subst hNX hsX;have hcell:∀ y∈sc.names,y.2≠.cell:=fun y hy z=>by
  have q:=all2 y hy;rw [z] at q;simp at q
 refine wpAny_newObj_type (wpAny_newFunctionEnv hcell (by intro y hy; simp at hy) (fun h₁ hns₁ hsb₁=>?_) hkind);have n2:H2 s2.heap.objs.size=none:=I2.hok.fresh (Nat.le_refl _);have I3:Jk X pins σ (upd H2 s2.heap.objs.size (.lst [])) { s2 with heap:=s2.heap.push { cls:=.type "list",data:=.seq ([]:List Value).toArray },toks:=s2.toks } :=
  I2.laid (fun b u e=>Heap.get?_push_of_some _ e) (Nat.le_refl _) ⟨Nat.zero_le _,[],0,.nil,Heap.get?_push_size _ rfl⟩
 obtain ⟨W,⟨m0,w0⟩,step⟩:=hw s2.heap.objs.size n2;generalize eH3:upd H2 s2.heap.objs.size (.lst [])=H3 at I3 w0;generalize es3:({ s2 with heap:=s2.heap.push { cls:=.type "list",data:=.seq ([]:List Value).toArray },toks:=s2.toks }:Shared)=s3 at I3;have e3:s2.heap.push { cls:=.type "list",data:=.seq ([]:List Value).toArray }=s3.heap:=by rw [← es3]
 have old3:∀ b o,s2.heap.get? b=some o→s3.heap.get? b=some o:=fun b o e=>by rw [← e3]; exact Heap.get?_push_of_some _ e
 have old4:∀ b o,s3.heap.get? b=some o→h₁.get? b=some o:=fun b o e=>by
  refine hsb₁.extBut b o ?_ (Heap.get?_push_of_some _ (by rw [← e3] at e; exact e));have:=Heap.lt_size e;rw [← e3] at this;exact Nat.ne_of_lt this
 have eC:(s2.heap.push { cls:=.type "list",data:=.seq ([]:List Value).toArray }).objs.size=s3.heap.objs.size:=by rw [e3]
 have fpold:∀ b∈fp,b < s3.heap.objs.size:=fun b hb=>by
  obtain ⟨o,e,_⟩:=T.obj 0 _ st2 b hb;exact Heap.lt_size (old3 b o e)
 have ok:(Yw X Nc sc cl fp s3 H3).Ok:=⟨I3.mod,hkind,I3.ok.glob,I3.ok.blt,Nat.le_refl _,fun x y c e1 e2=>I3.ok.inj x y c (hcl1 _ _ e1) (hcl1 _ _ e2),fun x hx=>?_,fun x c z=>(by cases z),fun _=>I3.ok.hd calm,I3.ok.frames,.inl rfl,
  fun b hb=>⟨Nat.ne_of_lt (fpold b hb),fun x c e=>(f2 b hb).2.2.2.2.1 x c (hcl1 _ _ e)⟩,I3.bs,Nat.le_trans I3.ok.bsz I3.sz,fun b o e hb=>?_,fun b hb hm=>?_,I3.stack,I3.stkFree⟩
 rotate_left
 ·have hx:(relabel sc X.env).names.lookup x=some .cell∨(relabel sc X.env).names.lookup x=some .free:=hx;have k:sc.names.lookup x=some .free:=by
   rcases hx with hx | hx
   ·obtain ⟨k,e,z⟩:=JcD hx;rcases z with z | z
    ·subst z; exact absurd rfl (hcell _ (PySem.mem_of_lookup e))
    ·rw [z.1] at e; exact e
   ·obtain ⟨k,e,z⟩:=JcD hx;rcases z with z | z
    ·subst z; exact e
    ·cases z.2
  exact hcl2 _ (PySem.mem_of_lookup k) rfl
 ·rcases (f2 b hb).2.2.2.1 with z | z
  ·exact I3.ok.noex b o e z
  ·exact absurd (Nat.lt_of_lt_of_le (Heap.lt_size (I3.ok.bs b o e).1) z) (Nat.lt_irrefl _)
 ·rcases List.mem_cons.mp (I3.stkSub b hm) with z | z
  ·exact (f2 b hb).2.1 z
  ·exact (f2 b hb).2.2.1 z
 have Ic:Jk (Yw X Nc sc cl fp s3 H3) [] (List.replicate nt none ++ Jeq js σ) H3 { s3 with heap:=h₁,toks:=s3.toks + ([]:List (Str×Value)).length }:=by
  refine ⟨ok,rfl,I3.bare,Un.kept old4,⟨_,(by have z:=hns₁; rw [eC] at z; exact z),fun i x v e1 e2 e3'=>?_⟩,fun x c e=>?_,I3.hok.fresh (Nat.le_refl _),fun x c e=>I3.freeC x c (hcl1 _ _ e),(fun p hp=>nomatch hp),I3.hok.kept old4,?_⟩
  ·have hi:nt≤i:=by
    refine Nat.le_of_not_lt fun z=>?_
    rw [List.getElem?_append_left (by simpa using z),List.getElem?_replicate] at e2;split at e2 <;> cases e2
   obtain ⟨k,rfl⟩:∃ k,i=nt + k:=⟨i - nt,by omega⟩
   rw [List.getElem?_append_right (by simp),List.length_replicate,Nat.add_sub_cancel_left] at e2;unfold Jeq at e2;rw [List.getElem?_map] at e2;cases hj:js[k]? with
   | none=>rw [hj] at e2; cases e2
   | some j =>
    rw [hj] at e2;have e2':(σ[j]?).join=some v:=Option.some.inj e2;have e2'':σ[j]?=some (some v):=by
     cases q:σ[j]? with
     | none=>rw [q] at e2'; cases e2'
     | some o=>rw [q] at e2'; rw [show o=some v from e2']
    have hz:(x,j)∈(Nc.drop nt).zip js:=by
     refine List.mem_of_getElem? (i:=k) ?_;rw [List.getElem?_zip_eq_some];exact ⟨by rw [List.getElem?_drop]; exact e1,hj⟩
    obtain ⟨⟨q1,q2⟩,q3⟩:=all1 _ hz;obtain ⟨m,hn,hl⟩:=I3.loc;obtain ⟨u,r,look⟩:=hl j x v q1 e2'' (Or.inr (Or.inl q3));refine ⟨u,r,.inr ⟨JcE q2,?_⟩⟩;obtain ⟨c',hc'⟩:=hcl2 _ (PySem.mem_of_lookup q2) rfl;rcases look with ⟨z,_⟩ | ⟨_,c,z1,z2⟩
    ·have z:X.env.scope.names.lookup x=some .local:=z;rw [q3] at z; cases z
    ·have z3:=hcl1 _ _ hc';rw [z1] at z3;cases z3;obtain ⟨o,ho,hd⟩:=z2;exact ⟨_,hc',o,old4 _ _ ho,hd⟩
  ·obtain ⟨v,o,ho,hd⟩:=I3.cell x c (hcl1 _ _ e);exact ⟨v,o,old4 _ _ ho,hd⟩
  ·show (List.replicate nt none ++ Jeq js σ).length=Nc.length;unfold Jeq;rw [List.length_append,List.length_replicate,List.length_map,hlen]
 have fpok:∀ {H:Hp},(∀ b∈fp,H b=none)→∀ b∈fp,JcZ (Yw X Nc sc cl fp s3 H3) [] H b:=fun hn b hb =>
  ⟨hn b hb,Nat.ne_of_lt (fpold b hb),ok.exfs b hb,.inl hb,fun x c e=>(f2 b hb).2.2.2.2.1 x c (hcl1 _ _ e),(fun p hp=>nomatch hp)⟩
 have fr0:∀ b∈fp,H3 b=none:=fun b hb=>by
  rw [← eH3,Jl (Nat.ne_of_lt (by obtain ⟨o,e,_⟩:=T.obj 0 _ st2 b hb; exact Heap.lt_size e))];exact (f2 b hb).1
 have st4:tn 0 h₁:=T.keep 0 _ _ st2 fun b hb o e=>old4 b o (old3 b o e)
 have back:∀ {σ':St} {H:Hp} {s':Shared} {pn:List (Addr×Obj)},Jk (Yw X Nc sc cl fp s3 H3) pn σ' H s'→Jk X pins σ H s':=fun {σ' H s' pn} Jv =>
  I3.call' (ch:=fp) Jv.os Jv.base Jv.hok Jv.bare fun b hb=>⟨(f2 b hb).2.2.2.1,(f2 b hb).2.1,(f2 b hb).2.2.2.2.1,(f2 b hb).2.2.2.2.2⟩
 have loop:codeAny (model X.prog X.w) X.A (.compLoop (.ListComp elt [⟨tg,iter,ifs,0⟩] sc pos) 0 (.ref it) (.ref s2.heap.objs.size) (compEnvC sc cl s3.heap.objs.size X.env))
   (fun r s'=>(∃ f,r=.ok f)∧∃ D H',(Value.ref s2.heap.objs.size)=.ref D∧Jk X pins σ H' s'∧(∃ m,s'.heap.Ns s3.heap.objs.size m)∧JcZ X pins H' s3.heap.objs.size∧Q D H') { s3 with heap:=h₁,toks:=s3.toks + ([]:List (Str×Value)).length }:=by
  refine JjM (fun n s'=>∃ i ys H,Jk (Yw X Nc sc cl fp s3 H3) [] (List.replicate nt none ++ Jeq js σ) H s'∧tn i s'.heap∧(∀ b∈fp,H b=none)∧W i n ys H) ?_ m0 ⟨0,[],H3,Ic,st4,fr0,w0⟩;rintro n s' ⟨i,ys,H,I,st,fr,w⟩;obtain ⟨hD,⟨stop,qn⟩ | ⟨go,Nx,hNx,stepx⟩⟩:=step i n ys H w
  ·refine JJ (T.done (Yw X Nc sc cl fp s3 H3) rfl rfl rfl calm i [] s' _ H _ I (fpok fr) st stop) fun r s1 ⟨hr,I1⟩=>?_
   subst hr;obtain ⟨m,hn,_⟩:=I1.loc;exact ⟨⟨_,rfl⟩,_,H,rfl,back I1,⟨m,hn⟩,I3.fpOk (Nat.le_refl _) I1.free,qn⟩
  ·refine JJ (T.item (Yw X Nc sc cl fp s3 H3) rfl rfl rfl calm i [] s' _ H _ I (fpok fr) st go) fun r s1 ⟨u,hr,h4⟩=>?_
   subst hr;refine JJ h4 fun _ s5 ⟨x,H5,I5,r5,y5,st5,fr5⟩=>?_
   have I5':=I5.pinned (fpok fr5) (T.obj _ _ st5);refine JJ (hg cl fp s3 H3 _ s5 _ H5 x u _ I5' r5 (stepx x H5 y5)) fun _ s6 ⟨σ6,H6,I6,ag,q6⟩=>?_
   have again:∀ {H7:Hp} {s7:Shared} {m':Nat} {zs:List V},Jk (Yw X Nc sc cl fp s3 H3) ([] ++ Jd3 fp s5.heap) σ6 H7 s7→m' < n→W (i + 1) m' zs H7→∃ m,m < n∧∃ i ys H,Jk (Yw X Nc sc cl fp s3 H3) [] (List.replicate nt none ++ Jeq js σ) H s7∧tn i s7.heap∧(∀ b∈fp,H b=none)∧W i m ys H:=fun {H7 s7 m' zs} I7 hm w7=>by
    refine ⟨m',hm,i + 1,zs,H7,I7.unpinned.weak ag.1.symm ag.2,T.keep _ _ _ st5 fun b hb o e=>(I7.pin (b,o) (List.mem_append_right _ (List.mem_append_right _ (Jcj hb e)))).1,fun b hb=>?_,w7⟩;obtain ⟨o,e,d⟩:=T.obj _ _ st5 b hb;exact (I7.pin (b,o) (List.mem_append_right _ (List.mem_append_right _ (Jcj hb e)))).2.1
   refine JJ (hc cl fp s3 H3 _ s6 σ6 H6 _ I6 q6) fun bk s7 ⟨H7,I7,q7⟩=>?_
   cases bk with
   | false =>
    rw [if_neg Bool.false_ne_true] at q7 ⊢;obtain ⟨m',hm,w7⟩:=hNx _ _ q7;exact again I7 hm w7
   | true =>
    rw [if_pos rfl] at q7 ⊢;refine JJ (he cl fp s3 H3 _ s7 σ6 H7 _ I7 q7) fun xv s8 ⟨v,H8,I8,r8,hD8,hlen8,qN⟩=>?_
    obtain ⟨m',hm,w8⟩:=hNx _ _ qN;refine JJ (Yc _ s8 σ6 H8 (.ref s2.heap.objs.size) [v] (.ref s2.heap.objs.size) [xv] (fun _ H9=>H9=upd H8 s2.heap.objs.size (.lst (ys ++ [v]))) I8 rfl (.cons r8 .nil) ?_) fun _ s9 ⟨_,H9,I9,_,e9⟩=>?_
    ·exact ⟨_,_,_,rfl,rfl,hD8,hlen8,rfl⟩
    ·subst e9;exact again I9 hm w8
 rw [eC] at *;exact codeAny_compStart_list loop (T.self _ 0 _ _ _ st4 loop)
def tLC (wi:TI) (g:TG) (tc:TT) (te:TE) (nt:Nat) (js:List Nat):TE:=fun σ H Q=>wi σ H fun J H1=>∀ D,H1 D=none→Jbn J g tc te (List.replicate nt none ++ Jeq js σ) D H1 fun H'=>Q (.ref D) H'
theorem Jhf {N:List Str} {names:List (Str×NameKind)} {nt:Nat} {Nc:List Str} {sc:Scope} {js:List Nat} (h:JeN N names nt Nc sc js=true):(∀ y∈sc.names,y.2=.local→sc.names.lookup y.1=some .local)∧(∀ y∈sc.names,y.2=.free→names.lookup y.1=some .cell)∧sc.kind=.function:=by
 simp only [JeN,Bool.and_eq_true,decide_eq_true_eq,List.all_eq_true,beq_iff_eq] at h;obtain ⟨⟨⟨⟨nd,hlen⟩,all1⟩,all2⟩,hkind⟩:=h;refine ⟨fun y hy hl=>?_,fun y hy hl=>?_,hkind⟩
 ·have q:=all2 y hy;rw [hl] at q;simpa using q
 ·have q:=all2 y hy;rw [hl] at q;simpa using q
theorem Jaz {elt tg iter:Expr} {ifs:List Expr} {sc:Scope} {pos:Pos} {nt:Nat} {Nc:List Str} {js:List Nat} {wi:TI} {g:TG} {tc:TT} {te:TE} {N:List Str} {names:List (Str×NameKind)}
  (hcap:JeN N names nt Nc sc js=true) (hi:PI X tg iter wi)
  (hg:∀ (cl:List (Str×Addr)) (fp:List Addr) (s:Shared) (H:Hp),PG (Yw X Nc sc cl fp s H) tg g) (hc:∀ (cl:List (Str×Addr)) (fp:List Addr) (s:Shared) (H:Hp),Jix (Yw X Nc sc cl fp s H) ifs tc)
  (he:∀ (cl:List (Str×Addr)) (fp:List Addr) (s:Shared) (H:Hp),PE (Yw X Nc sc cl fp s H) elt te) (hNX:X.N=N:=by rfl) (hsX:X.env.scope.names=names:=by rfl) (calm:X.calm=true:=by rfl)
  (hs:∀ x,foldedSetIterable iter X.env x=pure x:=by intro _; rfl):PE X (.ListComp elt [⟨tg,iter,ifs,0⟩] sc pos) (tLC wi g tc te nt js):=by
 intro pins s σ H Q I h;obtain ⟨hn1,hn2,hkind⟩:=Jhf hcap;obtain ⟨cl,hcl,hcl1,hcl2⟩:=JfU (sc:=sc) (env:=X.env) fun y hy hf=>I.ok.has y.1 (.inl (by show X.env.scope.names.lookup y.1=_; rw [hsX]; exact hn2 y hy hf))
 rw [eval_ListComp];refine wpAny_comprehension_free (use:=none) rfl hs hcl hkind hn1 (JJ (hi pins s σ H _ I h) fun v s1 h1=>JJ h1 fun itv s2 h2=>?_);obtain ⟨it,fp,tn,J,H2,e,I2,T,st2,f2,hw⟩:=h2;subst e;refine wpAny_mono (JfT (E:=fun _ _=>False) (Q:=fun D H'=>Q (.ref D) H') hcap hNX hsX hg hc he calm I2 T st2 f2 hw hcl hcl1 hcl2) (fun acc s3 h3=>wpAny_mono h3 (fun cenv s4 h4=>codeAny_mono h4 fun r s' hr=>?_) fun _ _ z=>z.elim) fun _ _ z=>z.elim
 obtain ⟨⟨f,rfl⟩,D,H',rfl,Jv,⟨m,hn⟩,fC,q⟩:=hr;obtain ⟨f0,f1,f2',f3,f4,f5⟩:=fC;exact ⟨m,hn,fun h' hs'=>⟨.ref D,H',Jv.turned (t':=s'.toks) (fun b o hb e=>(hs'.2 b hb).trans e) f0 f1 f3 f4 f5,rfl,q⟩⟩
theorem Jjq {elt tg iter:Expr} {ifs:List Expr} {sc:Scope} {pos spos py:Pos} {y:Str} {i:Nat} {nt:Nat} {Nc:List Str} {js:List Nat} {wi:TI} {g:TG} {tc:TT} {te:TE} {N:List Str} {names:List (Str×NameKind)}
  (hcap:JeN N names nt Nc sc js=true) (hN:X.N.Nodup) (hiy:X.N[i]?=some y) (hi:PI X tg iter wi)
  (hg:∀ (cl:List (Str×Addr)) (fp:List Addr) (s:Shared) (H:Hp),PG (Yw X Nc sc cl fp s H) tg g) (hc:∀ (cl:List (Str×Addr)) (fp:List Addr) (s:Shared) (H:Hp),Jix (Yw X Nc sc cl fp s H) ifs tc)
  (he:∀ (cl:List (Str×Addr)) (fp:List Addr) (s:Shared) (H:Hp),PE (Yw X Nc sc cl fp s H) elt te) (hNX:X.N=N:=by rfl) (hsX:X.env.scope.names=names:=by rfl) (calm:X.calm=true:=by rfl)
  (hsw:swapsWith (.ListComp elt [⟨tg,iter,ifs,0⟩] sc pos) (some (.Name y py)) spos.line X.env=pure true:=by rfl) (hy:X.env.scope.names.lookup y=some .local:=by rfl)
  (hs:∀ x,foldedSetIterable iter X.env x=pure x:=by intro _; rfl):PS X (.Assign [.Name y py] (.ListComp elt [⟨tg,iter,ifs,0⟩] sc pos) spos) (Jld (tLC wi g tc te nt js) (ZN i)):=by
 intro pins s σ H D0 I h;obtain ⟨hn1,hn2,hkind⟩:=Jhf hcap;obtain ⟨cl,hcl,hcl1,hcl2⟩:=JfU (sc:=sc) (env:=X.env) fun y hy hf=>I.ok.has y.1 (.inl (by show X.env.scope.names.lookup y.1=_; rw [hsX]; exact hn2 y hy hf))
 rw [exec_Assign_Name_used _ _ _ _ hsw];refine wpAny_bind (wpAny_standAt (wpAny_bind ?_));show wpAny _ X.A (do let _ ← comprehension (.ListComp elt [⟨tg,iter,ifs,0⟩] sc pos) sc X.env _ (newList []) false (eval iter X.env) (some (assign (.Name y py) X.env))) _ _ s;refine wpAny_bind (wpAny_mono (wpAny_comprehension_free (use:=some (assign (.Name y py) X.env)) (Q:=fun _ s'=>SP X pins D0 .next s') rfl hs hcl hkind hn1
  (JJ (hi pins s σ H _ I h) fun v s1 h1=>JJ h1 fun itv s2 h2=>?_)) (fun _ s' hq=>wpAny_pure (wpAny_pure hq)) fun _ _ e=>e)
 obtain ⟨it,fp,tn,J,H2,e,I2,T,st2,f2,hw⟩:=h2;subst e;refine wpAny_mono (JfT (E:=fun _ _=>False) (Q:=fun D H'=>ZN i (.ref D) σ H' D0.nx) hcap hNX hsX hg hc he calm I2 T st2 f2 hw hcl hcl1 hcl2) (fun acc s3 h3=>wpAny_mono h3 (fun cenv s4 h4=>codeAny_mono h4 fun r s' hr=>?_) fun _ _ z=>z.elim) fun _ _ z=>z.elim
 obtain ⟨⟨f,rfl⟩,D,H',rfl,Jv,⟨m,hn⟩,fC,q⟩:=hr;obtain ⟨f0,f1,f2',f3,f4,f5⟩:=fC;show wpAny _ X.A (assign (.Name y py) X.env (.ref D)) _ _ _;refine wpAny_assign_Name (JgX Jv hN hiy (Or.inl hy) (v:=.ref D) rfl (fun s'' I'' ⟨a,hsame,ha⟩=>?_) (Or.inr hy));refine ⟨m,hn.sameBut hsame ?_,fun h' hs'=>⟨_,H',I''.turned (t':=s''.toks) (fun b o hb e=>(hs'.2 b hb).trans e) f0 f1 f3 f4 f5,q⟩⟩;rcases ha with rfl | ha
 ·exact f1
 ·exact (f4 y a ha).symm
end
section
variable {X:Cx} {Nc:List Str} {sc:Scope} {cl:List (Str×Addr)} {fp:List Addr} {s:Shared} {H:Hp} {x:Str} {pos:Pos}
theorem JT (i:Nat) (hN:Nc[i]?=some x:=by rfl) (hf:sc.names.lookup x=some .free:=by rfl) (hd:(x == ("__debug__" : Str))=false:=by decide) (hcd:(x == ("__classdict__" : Str))=false:=by decide):PE (Yw X Nc sc cl fp s H) (.Name x pos) (Jjf i) :=
 JhY hN (Or.inr (JcE hf)) hd hcd
theorem YB (i:Nat) (hN:Nc[i]?=some x:=by rfl) (hl:sc.names.lookup x=some .local:=by rfl) (hd:(x == ("__debug__" : Str))=false:=by decide) (hcd:(x == ("__classdict__" : Str))=false:=by decide):PE (Yw X Nc sc cl fp s H) (.Name x pos) (Jjf i) :=
 JhY hN (Or.inl (lookup_relabel_local hl)) hd hcd
theorem Y2 (i:Nat) (nd:Nc.Nodup) (hN:Nc[i]?=some x:=by rfl) (hl:sc.names.lookup x=some .local:=by rfl):PG (Yw X Nc sc cl fp s H) (.Name x pos) (ZN i) :=
 Yj nd hN (Or.inl (lookup_relabel_local hl)) (Or.inr (lookup_relabel_local hl))
end
section
variable {tc:TT} {te:TE} {σc:St} {D:Addr} {H1:Hp} {Q:Hp→Prop}
theorem Jdx {J:It} {n:Nat} {X1:Nat→V→Prop} (Pv:Nat→List V→Hp→Prop) (h00:σc[0]?=some none) (hgo:∀ i H,i < n→(∃ ys,Pv i ys H)→J.go i H∧∀ x H',J.yld i H x H'→H'=H∧X1 i x) (hstop:∀ H,(∃ ys,Pv n ys H)→J.stop n H)
  (h0:Pv 0 [] (upd H1 D (.lst []))) (hl:∀ i ys H,Pv i ys H→H D=some (.lst ys))
  (hs:∀ i x ys H,i < n→X1 i x→Pv i ys H→tc (σc.set 0 (some x)) H fun b H3=>if b=true then te (σc.set 0 (some x)) H3 fun v H4=>H4 D=some (.lst ys)∧ys.length < sizeLine∧Pv (i + 1) (ys ++ [v]) (upd H4 D (.lst (ys ++ [v]))) else Pv (i + 1) ys H3)
  (hd:∀ ys H,Pv n ys H→Q H):Jbn J (ZN 0) tc te σc D H1 Q:=by
 refine ⟨fun i m ys H=>m=n - i∧i≤n∧Pv i ys H,⟨n,by simp,Nat.zero_le _,h0⟩,?_⟩;rintro i m ys H ⟨rfl,hi,p⟩;refine ⟨hl _ _ _ p,?_⟩;by_cases hlt:i < n
 ·obtain ⟨g1,g2⟩:=hgo i H hlt ⟨_,p⟩;refine .inr ⟨g1,Pv (i + 1),fun zs H' p'=>⟨n - (i + 1),by omega,rfl,hlt,p'⟩,fun x H' y=>?_⟩;obtain ⟨e,y1⟩:=g2 x H' y;subst e;exact ⟨(Jdc.refl _).set h00,hs i x ys _ hlt y1 p⟩
 ·have e:i=n:=by omega
  subst e;exact .inl ⟨hstop H ⟨_,p⟩,hd _ _ p⟩
theorem Jav {K:PySem.W.Frag} {a:Addr} {xs:List V} (Pv:Nat→List V→Hp→Prop) (h00:σc[0]?=some none) (hq:∀ i ys H,Pv i ys H→Jq K H a xs) (h0:Pv 0 [] (upd H1 D (.lst []))) (hl:∀ i ys H,Pv i ys H→H D=some (.lst ys))
  (hs:∀ i x ys H,xs[i]?=some x→Pv i ys H→tc (σc.set 0 (some x)) H fun b H3=>if b=true then te (σc.set 0 (some x)) H3 fun v H4=>H4 D=some (.lst ys)∧ys.length < sizeLine∧Pv (i + 1) (ys ++ [v]) (upd H4 D (.lst (ys ++ [v]))) else Pv (i + 1) ys H3)
  (hd:∀ ys H,Pv xs.length ys H→Q H):Jbn (Itl K a) (ZN 0) tc te σc D H1 Q :=
 Jdx (n:=xs.length) (X1:=fun i x=>xs[i]?=some x) Pv h00 (fun i H hi ⟨ys,p⟩=>⟨⟨xs,xs[i],hq _ _ _ p,by simp [hi]⟩,fun x H' y=>⟨y.1,y.2 xs (hq _ _ _ p)⟩⟩) (fun H ⟨ys,p⟩=>⟨xs,hq _ _ _ p,Nat.le_refl _⟩) h0 hl (fun i x ys H _ hx p=>hs i x ys H hx p) hd
theorem JjN {lo:Int} {n:Nat} (Pv:Nat→List V→Hp→Prop) (h00:σc[0]?=some none) (h0:Pv 0 [] (upd H1 D (.lst []))) (hl:∀ i ys H,Pv i ys H→H D=some (.lst ys))
  (hs:∀ i ys H,i < n→Pv i ys H→tc (σc.set 0 (some (.int (lo + i)))) H fun b H3=>if b=true then te (σc.set 0 (some (.int (lo + i)))) H3 fun v H4=>H4 D=some (.lst ys)∧ys.length < sizeLine∧Pv (i + 1) (ys ++ [v]) (upd H4 D (.lst (ys ++ [v]))) else Pv (i + 1) ys H3)
  (hd:∀ ys H,Pv n ys H→Q H):Jbn (Itr lo n) (ZN 0) tc te σc D H1 Q :=
 Jdx (n:=n) (X1:=fun i x=>x=.int (lo + i)) Pv h00 (fun i H hi _=>⟨hi,fun x H' y=>y⟩) (fun H _=>Nat.le_refl _) h0 hl (fun i x ys H hi hx p=>by subst hx; exact hs i ys H hi p) hd
end
end L2
namespace L2
open PySem PySem.Spec PyProof.Rows
section
variable {X:Cx} {e v1 v2:Expr} {es:List Expr} {te:TE} {pos:Pos}
def Jns (te:TE):TE:=fun σ H Q=>te σ H fun v H1=>∃ z,v=.str z∧(reprText z).length≤sizeLine∧Q (.str (reprText z)) H1
theorem JhZ (he:PE X e te):PE X (.FormattedValue e 114 none pos) (Jns te):=by
 intro pins s σ H Q I h;refine wpAny_FormattedValue_repr (JJ (he pins s σ H _ I h) fun v s1 ⟨x,H1,I1,r1,z,ez,hz,q⟩=>?_);subst ez;obtain ⟨t,rfl⟩:=r1;refine pyReprObj_str (PyProof.Rows.formatField_str (fun t' tk=>?_) hz) hz;exact ⟨.str (reprText z),H1,(I1.tok _).tok _,⟨_,rfl⟩,q⟩
def Jjg (te:TE):TE:=fun σ H Q=>te σ H fun v H1=>∃ i:Int,v=.int i∧i.natAbs.log2 < 1920∧Q (.str (toString i)) H1
theorem JiQ (he:PE X e te):PE X (.FormattedValue e (-1) none pos) (Jjg te):=by
 intro pins s σ H Q I h;refine PyProof.Rows.FormattedValue_plain (JJ (he pins s σ H _ I h) fun v s1 ⟨x,H1,I1,r1,i,ei,hi,q⟩=>?_);subst ei;obtain ⟨t,rfl⟩:=r1;exact PyProof.Rows.formatField_int_small hi ⟨.str (toString i),H1,I1.tok _,⟨_,rfl⟩,q⟩
def Jfw:List TE→Str→TE
 | [],acc=>fun _ H Q=>acc.length≤sizeLine∧Q (.str acc) H
 | t :: r,acc=>fun σ H Q=>t σ H fun v H1=>∃ y,v=.str y∧(acc ++ y).length≤sizeLine∧Jfw r (acc ++ y) σ H1 Q
inductive PJ (X:Cx):List Expr→List TE→Prop
 | nil:PJ X [] []
 | cons {e:Expr} {t:TE} {es:List Expr} {ts:List TE}:PE X e t→PJ X es ts→PJ X (e :: es) (t :: ts)
theorem Jih {pins:List (Addr×Obj)} {σ:St} {Q:VK}:∀ {es:List Expr} {ts:List TE} {acc:Str} {s:Shared} {H:Hp},PJ X es ts→Jk X pins σ H s→Jfw ts acc σ H Q →
  Joins (model X.prog X.w) X.A X.xe (es.map fun e=>eval e X.env) acc (fun out s₁=>out.length≤sizeLine∧EP X pins σ Q (.str out s₁.toks) { s₁ with toks:=s₁.toks + 1 }) s
 | _,_,acc,s,H,.nil,I,h=>⟨h.1,.str acc,H,I.tok _,⟨_,rfl⟩,h.2⟩
 | _,_,acc,s,H,.cons p r,I,h=>by
  refine JJ (p pins s σ H _ I h) fun v s1 ⟨x,H1,I1,r1,y,ey,hy,q⟩=>?_
  subst ey;obtain ⟨t,rfl⟩:=r1;exact ⟨y,t,rfl,hy,Jih r I1 q⟩
theorem JeC {ts:List TE} (h:PJ X (v1 :: v2 :: es) ts) (he:evalEach (v1 :: v2 :: es) X.env=(v1 :: v2 :: es).map fun e=>eval e X.env:=by rfl):PE X (.JoinedStr (v1 :: v2 :: es) pos) (Jfw ts Str.empty):=by
 intro pins s σ H Q I hq;refine wpAny_JoinedStr ?_;rw [he];exact Jih h I hq
end
section
variable {X:Cx}
theorem JnB:SlR X (fun x lo hi H Q=>∃ z,x=.str z∧z.length≤sizeLine∧Q (.str (Txt.slice z lo hi)) H):=by
 intro pins s σ H x v vl vu lo hi sl Q I rx hs pl pu h;obtain ⟨z,rfl,hz,q⟩:=h;obtain ⟨t,rfl⟩:=rx;obtain ⟨o,ho,hc,hd⟩:=hs;have fin:∀ t' k,EP X pins σ Q (.str (Txt.slice z lo hi) t') { s with toks:=k }:=fun t' k=>⟨.str (Txt.slice z lo hi),H,I.tok _,⟨_,rfl⟩,q⟩
 refine ⟨"str",_,F.slot_str_getitem.lookup,typeIs_str _ _ _,?_⟩;cases pl with
 | none =>
  cases pu with
  | none=>exact wpAny_getItem_str_slice (l:=none) (u:=none) (st:=none) ⟨o,ho,hc,hd⟩ rfl (post_val_or_str ⟨Nat.le_trans (Txt.slice_le z _ _) hz,fun t' k=>fin t' k⟩)
  | int j uj=>exact wpAny_getItem_str_slice (l:=none) (u:=some (j,uj)) (st:=none) ⟨o,ho,hc,hd⟩ rfl (post_val_or_str ⟨Nat.le_trans (Txt.slice_le z _ _) hz,fun t' k=>fin t' k⟩)
 | int i ui =>
  cases pu with
  | none=>exact wpAny_getItem_str_slice (l:=some (i,ui)) (u:=none) (st:=none) ⟨o,ho,hc,hd⟩ rfl (post_val_or_str ⟨Nat.le_trans (Txt.slice_le z _ _) hz,fun t' k=>fin t' k⟩)
  | int j uj=>exact wpAny_getItem_str_slice (l:=some (i,ui)) (u:=some (j,uj)) (st:=none) ⟨o,ho,hc,hd⟩ rfl (post_val_or_str ⟨Nat.le_trans (Txt.slice_le z _ _) hz,fun t' k=>fin t' k⟩)
theorem Jg0:ZB X (compareOp .LtE) (fun x y H Q=>∃ i j,x=.str i∧y=.str j∧Q (.bl (!decide (j.cps.toList < i.cps.toList))) H):=by
 intro pins s σ H x y v u Q I rx ry h;obtain ⟨i,j,rfl,rfl,q⟩:=h;obtain ⟨t,rfl⟩:=rx;obtain ⟨t',rfl⟩:=ry;exact PySem.P.le_str ⟨.bl _,H,I,rfl,q⟩
theorem Jf6:∀ {ys:List Str} {us:List Value},Jt (ys.map V.str) us→StrsAre us ys
 | [],_,r=>by cases r; exact .nil
 | y :: ys,_,r=>by
  cases r with
  | cons r rr =>
   obtain ⟨t,rfl⟩:=r;exact .cons y t (Jf6 rr)
theorem Jm9:MtR X "str.join" (fun x xs H Q=>∃ z l ys,x=.str z∧xs=[.ref l]∧Jq X.K H l (ys.map V.str)∧(ys.map (·.length)).sum + ys.length * z.length≤16777216∧Q (.str (Txt.join z ys)) H):=by
 intro pins s σ H x xs v us Q I rx rs h;obtain ⟨z,l,ys,rfl,rfl,hl,hz,q⟩:=h;obtain ⟨t,rfl⟩:=rx;obtain ⟨u,rfl,ru⟩:=Jt.one rs;cases ru;obtain ⟨its,r,pl,_⟩:=I.list hl;exact PyProof.Rows.join_list pl.isList (by simpa using Jf6 r) hz fun t' k=>⟨.str (Txt.join z ys),H,I.tok _,⟨_,rfl⟩,q⟩
end
def Its (z:Str):It:=⟨fun i _=>i < z.length,fun i H x H'=>H'=H∧∃ c,z.cps[i]?=some c∧x=.str ⟨#[c]⟩,fun i _=>z.length≤i⟩
theorem JhD {P:Program} {w:World} {K:PySem.W.Frag} {tg:Expr} (it:Addr) (z:Str) (t:Tok) (ty:String) (hty:ty = "str_ascii_iterator"∨ty = "str_iterator") (W:∀ A':Around,A'.handled=none→Walks P w A' it [it] [it] z.cps.size (SignAt z) (fun i h=>h.IsStrIter it ty z t i)) :
  JgH P w K tg (Its z) [it] it (fun i h=>i≤z.cps.size∧h.IsStrIter it ty z t i) where
 mem:=by simp
 obj:=fun i h st b hb=>by
  have e:b=it:=by simpa using hb
  subst e;obtain ⟨_,o,e,c,d⟩:=st;exact ⟨o,e,fun v z=>by rw [d] at z; cases z⟩
 keep:=fun i h h' st k=>let ⟨hi,o,e,r⟩:=st; ⟨hi,o,k it (by simp) o e,r⟩
 item:=by
  intro X hP hw hK hc i pins s σ H E I hf st hg;subst hP hw hK;obtain ⟨f0,f1,f2,f3,f4,f5⟩:=hf it (by simp);have hi:i < z.cps.size:=hg;refine (W X.A (I.ok.hd hc)).item i s _ _ hi st.2 fun v h' tk hv st' kk=>?_
  obtain ⟨c,u,hc',rfl⟩:=hv;have I1:Jk X pins σ H { s with heap:=h',toks:=tk }:=I.turned (fun b o hb e=>kk b o (by simpa using hb) e) f0 f1 f3 f4 f5;obtain ⟨o,e,hcl,d⟩:=id st';exact ⟨_,rfl,JhA (s:={ s with heap:=h',toks:=tk }) (n:=ty) e hcl d (by rcases hty with rfl | rfl <;> decide) ⟨.str ⟨#[c]⟩,H,I1,⟨u,rfl⟩,⟨rfl,c,hc',rfl⟩,⟨hi,st'⟩,fun b hb=>(hf b hb).1⟩⟩
 done:=by
  intro X hP hw hK hc i pins s σ H E I hf st hg;subst hP hw hK;obtain ⟨f0,f1,f2,f3,f4,f5⟩:=hf it (by simp);have hi:z.cps.size≤i:=hg;obtain rfl:i=z.cps.size:=Nat.le_antisymm st.1 hi;exact (W X.A (I.ok.hd hc)).done s _ _ st.2 fun h' tk kk=>⟨rfl,I.turned (fun b o hb e=>kk b o (by simpa using hb) e) f0 f1 f3 f4 f5⟩
 self:=fun A i s Q E st h=>by
  rcases hty with rfl | rfl
  ·exact wpAny_pyIter_striter_ascii st.2 h
  ·exact wpAny_pyIter_striter_wide st.2 h
section
variable {X:Cx} {tg:Expr}
def Jpn (tl:TE):TI:=fun σ H R=>tl σ H fun x H1=>∃ z,x=.str z∧R (Its z) H1
theorem Jkg {l:Expr} {tl:TE} (hl:PE X l tl):PI X tg l (Jpn tl):=by
 intro pins s σ H R I h;refine JJ (hl pins s σ H _ I h) fun v s1 ⟨x,H1,I1,r1,z,ez,q⟩=>?_
 subst ez;obtain ⟨t,rfl⟩:=r1;have fp:∀ b∈[s1.heap.objs.size],JcZ X pins H1 b:=fun b hb=>by
  have e:b=s1.heap.objs.size:=by simpa using hb
  subst e;exact I1.fpOk (Nat.le_refl _) (I1.hok.fresh (Nat.le_refl _))
 cases ha:z.cps.all (· < 128)
 ·refine wpAny_pyIter_wide ha ?_;exact ⟨s1.heap.objs.size,[s1.heap.objs.size],_,_,H1,rfl,I1.kept (t':=s1.toks) fun b o e=>Heap.get?_push_of_some _ e,JhD _ z t "str_iterator" (.inr rfl) (fun A' hA=>Walks.strWide hA _ z t),⟨Nat.zero_le _,_,Heap.get?_push_size _ rfl,rfl,rfl⟩,fp,q⟩
 ·refine wpAny_pyIter_ascii ha ?_;exact ⟨s1.heap.objs.size,[s1.heap.objs.size],_,_,H1,rfl,I1.kept (t':=s1.toks) fun b o e=>Heap.get?_push_of_some _ e,JhD _ z t "str_ascii_iterator" (.inl rfl) (fun A' hA=>Walks.strAscii hA _ z t),⟨Nat.zero_le _,_,Heap.get?_push_size _ rfl,rfl,rfl⟩,fp,q⟩
end
theorem Jmf {tc:TT} {te:TE} {σc:St} {D:Addr} {H1:Hp} {Q:Hp→Prop} {z:Str} (Pv:Nat→List V→Hp→Prop) (h00:σc[0]?=some none) (h0:Pv 0 [] (upd H1 D (.lst []))) (hl:∀ i ys H,Pv i ys H→H D=some (.lst ys))
  (hs:∀ i c ys H,z.cps[i]?=some c→Pv i ys H→tc (σc.set 0 (some (.str ⟨#[c]⟩))) H fun b H3=>if b=true then te (σc.set 0 (some (.str ⟨#[c]⟩))) H3 fun v H4=>H4 D=some (.lst ys)∧ys.length < sizeLine∧Pv (i + 1) (ys ++ [v]) (upd H4 D (.lst (ys ++ [v]))) else Pv (i + 1) ys H3)
  (hd:∀ ys H,Pv z.length ys H→Q H):Jbn (Its z) (ZN 0) tc te σc D H1 Q :=
 Jdx (n:=z.length) (X1:=fun i x=>∃ c,z.cps[i]?=some c∧x=.str ⟨#[c]⟩) Pv h00 (fun i H hi _=>⟨hi,fun x H' y=>y⟩) (fun H _=>Nat.le_refl _) h0 hl (fun i x ys H hi hx p=>by obtain ⟨c,hc,rfl⟩:=hx; exact hs i c ys H hc p) hd
section
variable {X:Cx}
theorem JmK {bs:List Bool}:∀ {us:List Value},Jt (bs.map V.bl) us→us=bs.map Value.bool:=by
 induction bs with
 | nil=>intro us r; cases r; rfl
 | cons b bs ih =>
  intro us r;cases r with
  | cons r rr =>
   cases (show _=Value.bool b from r);rw [ih rr]; rfl
theorem Jmg (hc:X.calm=true):Zb X (.builtin "all") (fun xs H Q=>∃ (l:Addr) (bs:List Bool),xs=[.ref l]∧Jq X.K H l (bs.map V.bl)∧Q (.bl (bs.all id)) H):=by
 intro pins s σ H xs us Q I r h;obtain ⟨l,bs,rfl,hl,q⟩:=h;obtain ⟨u,rfl,ru⟩:=Jt.one r;cases ru;obtain ⟨its,rv,pl,hz⟩:=I.list hl;have e:=JmK rv;subst e;refine call_all_walk (wpAny_pyIter_list pl.isList ?_);have hlt:l < s.heap.objs.size:=by obtain ⟨o,n,e,_⟩:=pl; exact Heap.lt_size e
 refine ⟨_,_,_,_,_,_,fun i=>(bs[i]?).getD true,rfl,Walks.list (A:=X.A.in1) (I.ok.hd hc) s.heap.objs.size l (Nat.ne_of_lt hlt) (bs.map Value.bool).toArray,?_,?_,fun h' tk kk=>?_⟩
 ·exact ⟨⟨_,Heap.get?_push_size _ rfl,rfl,rfl⟩,(by obtain ⟨o,n,e,c,d1,d2⟩:=pl; exact ⟨o,Heap.get?_push_of_some _ e,c,n,d2⟩)⟩
 ·intro i v s' Q' E' hP hQ;have hP:(bs.map Value.bool).toArray[i]?=some v:=hP;rw [List.getElem?_toArray,List.getElem?_map] at hP;cases hb:bs[i]? with
  | none=>rw [hb] at hP; cases hP
  | some b =>
   rw [hb] at hP;cases hP;have hQ:Q' ((bs[i]?).getD true) s':=hQ;rw [hb] at hQ;exact wpAny_truthy_bool hQ
 ·have e:(List.range (bs.map Value.bool).toArray.size).all (fun i=>(bs[i]?).getD true)=bs.all id:=by
   rw [List.size_toArray,List.length_map,Bool.eq_iff_iff,List.all_eq_true,List.all_eq_true];constructor
   ·intro h b hb;obtain ⟨i,hi,rfl⟩:=List.mem_iff_getElem.mp hb;have z:=h i (List.mem_range.mpr hi);rw [List.getElem?_eq_getElem hi] at z;exact z
   ·intro h i hi;have hi':=List.mem_range.mp hi;rw [List.getElem?_eq_getElem hi'];exact h _ (List.getElem_mem hi')
  rw [e];exact ⟨.bl _,H,I.kept fun b o e=>kk b o (fun z=>absurd (Heap.lt_size e) (by rw [List.mem_singleton.mp z]; exact Nat.lt_irrefl _)) (Heap.get?_push_of_some _ e),rfl,q⟩
end
end L2
namespace L2
open PySem PySem.Spec PyProof.Rows
def tm (n:Nat) (z:Str):Prop:=z.length≤n∧∀ c∈z.cps.toList,c < 16 ^ 8
theorem tm.mono {n m:Nat} {z:Str} (h:tm n z) (l:n≤m):tm m z:=⟨Nat.le_trans h.1 l,h.2⟩
theorem Jkv {z:Str} {l u:Option Int} {c:Nat} (h:c∈(Txt.slice z l u).cps.toList):c∈z.cps.toList:=by
 unfold Txt.slice at h;split at h
 ·exact h
 ·obtain ⟨i,_,e⟩:=List.mem_filterMap.mp (List.mem_toArray.mp (Array.mem_toList_iff.mp h));have e':z.cps.toList[i]?=some c:=by simpa using e
  exact List.mem_of_getElem? e'
theorem Jlb {n:Nat} {z:Str} (l u:Option Int) (h:tm n z):tm n (Txt.slice z l u):=⟨Nat.le_trans (Txt.slice_le z l u) h.1,fun c hc=>h.2 c (Jkv hc)⟩
theorem Jnb {xs:List V} {lo hi:Option Int} {x:V} (h:x∈JaO xs lo hi):x∈xs:=List.mem_of_mem_drop (List.mem_of_mem_take h)
end L2
namespace L2
open PySem PySem.Spec PyProof.Rows
section
variable {te:TE} {σc:St} {D:Addr} {H1:Hp} {Q:Hp→Prop}
theorem Jep {J:It} {n:Nat} {X1:Nat→V→Prop} (F:Nat→V→Prop) (h00:σc[0]?=some none) (hgo:∀ i H,i < n→Jg H1 H→J.go i H∧∀ x H',J.yld i H x H'→H'=H∧X1 i x) (hstop:∀ H,Jg H1 H→J.stop n H)
  (hD:H1 D=none) (hlen:n≤sizeLine) (he:∀ i x H,i < n→X1 i x→Jg H1 H→∀ Q':VK,(∀ v,F i v→Q' v H)→te (σc.set 0 (some x)) H Q')
  (hd:∀ ys H,Jg H1 H→H D=some (.lst ys)→ys.length=n→(∀ i v,ys[i]?=some v→F i v)→Q H):Jbn J (ZN 0) Jct te σc D H1 Q:=by
 refine Jdx (n:=n) (X1:=X1) (fun i ys H=>Jg H1 H∧H D=some (.lst ys)∧ys.length=i∧∀ j v,ys[j]?=some v→F j v) h00 (fun i H hi ⟨ys,p⟩=>hgo i H hi p.1) (fun H ⟨ys,p⟩=>hstop H p.1)
  ⟨Jg.upd hD,Jf,rfl,fun j v e=>by simp at e⟩ (fun i ys H p=>p.2.1) (fun i x ys H hi hx p=>?_) (fun ys H p=>hd ys H p.1 p.2.1 p.2.2.1 p.2.2.2)
 obtain ⟨e,hy,hl,hf⟩:=p;simp only [Jct,if_true];refine he i x H hi hx e _ fun v hv=>⟨hy,by omega,fun b u q=>?_,Jf,by simp [hl],fun j u q=>?_⟩
 ·rw [Jl (Jn q hD)];exact e b u q
 ·by_cases hj:j < ys.length
  ·rw [List.getElem?_append_left hj] at q;exact hf j u q
  ·rw [List.getElem?_append_right (by omega)] at q;have hj2:j - ys.length < 1:=(List.getElem?_eq_some_iff.mp q).1;have e1:j=i:=by omega
   have e2:j - ys.length=0:=by omega
   rw [e2] at q;cases q;rw [e1];exact hv
theorem Jhe {K:PySem.W.Frag} {a:Addr} {xs:List V} (F:Nat→V→Prop) (h00:σc[0]?=some none) (hS:Jq K H1 a xs) (hD:H1 D=none) (hlen:xs.length≤sizeLine)
  (he:∀ i x H,xs[i]?=some x→Jg H1 H→∀ Q':VK,(∀ v,F i v→Q' v H)→te (σc.set 0 (some x)) H Q')
  (hd:∀ ys H,Jg H1 H→H D=some (.lst ys)→ys.length=xs.length→(∀ i v,ys[i]?=some v→F i v)→Q H):Jbn (Itl K a) (ZN 0) Jct te σc D H1 Q :=
 Jep (n:=xs.length) (X1:=fun i x=>xs[i]?=some x) F h00 (fun i H hi e=>⟨⟨xs,xs[i],e.seq hS,by simp [hi]⟩,fun x H' y=>⟨y.1,y.2 xs (e.seq hS)⟩⟩) (fun H e=>⟨xs,e.seq hS,Nat.le_refl _⟩) hD hlen (fun i x H _ hx e=>he i x H hx e) hd
theorem Jhx {z:Str} (F:Nat→V→Prop) (h00:σc[0]?=some none) (hD:H1 D=none) (hlen:z.length≤sizeLine)
  (he:∀ i c H,z.cps[i]?=some c→Jg H1 H→∀ Q':VK,(∀ v,F i v→Q' v H)→te (σc.set 0 (some (.str ⟨#[c]⟩))) H Q')
  (hd:∀ ys H,Jg H1 H→H D=some (.lst ys)→ys.length=z.length→(∀ i v,ys[i]?=some v→F i v)→Q H):Jbn (Its z) (ZN 0) Jct te σc D H1 Q :=
 Jep (n:=z.length) (X1:=fun i x=>∃ c,z.cps[i]?=some c∧x=.str ⟨#[c]⟩) F h00 (fun i H hi _=>⟨hi,fun x H' y=>y⟩) (fun H _=>Nat.le_refl _) hD hlen (fun i x H hi hx e=>by obtain ⟨c,hc,rfl⟩:=hx; exact he i c H hc e) hd
end
end L2
namespace HS
open PySem PySem.SetTable
def adv (m:Nat) (p:Probe):Probe :=
 if p.more > 0 then ⟨p.j + 1,p.more - 1,p.i,p.perturb,p.dummy⟩
 else ⟨(leap m p.i p.perturb).1,runEnd m (leap m p.i p.perturb).1 - (leap m p.i p.perturb).1,(leap m p.i p.perturb).1,(leap m p.i p.perturb).2,p.dummy⟩
theorem JfY (t:SetTable) (p:Probe):t.advance p=adv t.mask p:=by
 unfold SetTable.advance adv;split <;> rfl
def st (m i q:Nat):Probe:=⟨i,runEnd m i - i,i,q,none⟩
def Ye (m:Nat) (h:Int):Probe:=st m (bits h % (m + 1)) (bits h)
def J4 (m:Nat):Nat→Probe→Probe
 | 0,p=>p
 | k + 1,p=>J4 m k (adv m p)
theorem Jcp (m:Nat):∀ a b p,J4 m (a + b) p=J4 m b (J4 m a p)
 | 0,b,p=>by rw [Nat.zero_add]; rfl
 | a + 1,b,p=>by
  have e:a + 1 + b=(a + b) + 1:=by omega
  rw [e];exact Jcp m a b (adv m p)
theorem Jei (m:Nat):∀ k p,(J4 m k p).dummy=p.dummy
 | 0,_=>rfl
 | k + 1,p=>by
  show (J4 m k (adv m p)).dummy=p.dummy;rw [Jei m k];unfold adv;split <;> rfl
theorem Jco {m i q:Nat}:∀ {d:Nat},d≤runEnd m i - i→J4 m d (st m i q)=⟨i + d,runEnd m i - i - d,i,q,none⟩
 | 0,_=>rfl
 | d + 1,h=>by
  rw [Jcp m d 1,Jco (d:=d) (by omega)];show adv m _=_;unfold adv;rw [if_pos (by show runEnd m i - i - d > 0; omega)];show Probe.mk _ _ _ _ _=_;congr 1
theorem Jii {m i q:Nat}:J4 m (runEnd m i - i + 1) (st m i q)=st m (leap m i q).1 (leap m i q).2:=by
 rw [Jcp m _ 1,Jco (Nat.le_refl _)];show adv m _=_;unfold adv;rw [if_neg (by show ¬ runEnd m i - i - (runEnd m i - i) > 0; omega)];rfl
theorem JiN (m i:Nat):runEnd m i - i≤9:=by unfold runEnd; split <;> omega
theorem Jkc {m i:Nat} (h:i≤m):runEnd m i≤m:=by unfold runEnd; split <;> omega
theorem Jgs (m i q:Nat):(leap m i q).1≤m:=Nat.le_of_lt_succ (Nat.mod_lt _ (Nat.succ_pos _))
def Zo (m:Nat):Nat→Nat×Nat→Nat×Nat
 | 0,x=>x
 | L + 1,x=>Zo m L (leap m x.1 x.2)
theorem JcC (m:Nat):∀ a b x,Zo m (a + b) x=Zo m b (Zo m a x)
 | 0,b,x=>by rw [Nat.zero_add]; rfl
 | a + 1,b,x=>by
  have e:a + 1 + b=(a + b) + 1:=by omega
  rw [e];exact JcC m a b _
theorem Jk4 (m:Nat):∀ L i q,∃ k,k≤10 * L∧J4 m k (st m i q)=st m (Zo m L (i,q)).1 (Zo m L (i,q)).2
 | 0,i,q=>⟨0,Nat.le_refl _,rfl⟩
 | L + 1,i,q=>by
  obtain ⟨k,hk,e⟩:=Jk4 m L (leap m i q).1 (leap m i q).2;have r:=JiN m i;refine ⟨runEnd m i - i + 1 + k,by omega,?_⟩;rw [Jcp,Jii,e];rfl
theorem JhR (m:Nat):∀ L i q,(Zo m L (i,q)).2=q / 32 ^ L
 | 0,i,q=>by simp [Zo]
 | L + 1,i,q=>by
  show (Zo m L ((leap m i q).1,(leap m i q).2)).2=_;rw [JhR m L];show q / 32 / 32 ^ L=_;rw [Nat.div_div_eq_div_mul,Nat.pow_succ,Nat.mul_comm]
theorem JiM (m:Nat):∀ L i q,i≤m→(Zo m L (i,q)).1≤m
 | 0,i,q,h=>h
 | L + 1,i,q,h=>JiM m L _ _ (Jgs m i q)
def Jjs (m:Nat):Nat→Nat→List Nat
 | 0,i=>[i]
 | L + 1,i=>i :: Jjs m L ((i * 5 + 1) % (m + 1))
theorem Jd7 (m:Nat):∀ n i j,j∈Jjs m n i→∃ L,L≤n∧(Zo m L (i,0)).1=j
 | 0,i,j,h=>⟨0,Nat.le_refl _,(List.mem_singleton.mp h).symm⟩
 | n + 1,i,j,h=>by
  rcases List.mem_cons.mp h with rfl | h
  ·exact ⟨0,Nat.zero_le _,rfl⟩
  ·obtain ⟨L,hL,e⟩:=Jd7 m n _ j h;refine ⟨L + 1,by omega,?_⟩;show (Zo m L (leap m i 0)).1=j;have e2:leap m i 0=((i * 5 + 1) % (m + 1),0):=by unfold leap; simp
   rw [e2];exact e
def Msk (m:Nat):Prop:=m=7∨m=31∨m=127
def JmF (m:Nat):Bool:=((List.range (m + 1)).all fun j=>(Jjs m m 0).contains j) && decide (Zo m (m + 1) (0,0)=(0,0))
theorem Jmj {m:Nat} (h:Msk m):JmF m=true:=by
 rcases h with rfl | rfl | rfl <;> decide +kernel
theorem JnF (m:Nat) (L i:Nat):Zo m L (i,0)=((Zo m L (i,0)).1,0):=Prod.ext rfl (by rw [JhR]; exact Nat.zero_div _)
theorem Jkj {m i j:Nat} (h:Msk m) (hi:i≤m) (hj:j≤m):∃ L,L≤m∧(Zo m L (i,0)).1=j:=by
 have z:=Jmj h;unfold JmF at z;rw [Bool.and_eq_true] at z;obtain ⟨z1,z2⟩:=z;have per:Zo m (m + 1) (0,0)=(0,0):=of_decide_eq_true z2;obtain ⟨a,ha,ea⟩:=Jd7 m m 0 i (List.contains_iff_mem.mp (List.all_eq_true.mp z1 i (List.mem_range.mpr (by omega))));obtain ⟨b,hb,eb⟩:=Jd7 m m 0 j (List.contains_iff_mem.mp (List.all_eq_true.mp z1 j (List.mem_range.mpr (by omega))));have ei:Zo m a (0,0)=(i,0):=by rw [JnF,ea]
 by_cases hab:a≤b
 ·refine ⟨b - a,by omega,?_⟩;rw [← ei,← JcC,show a + (b - a)=b by omega];exact eb
 ·refine ⟨m + 1 - a + b,by omega,?_⟩;rw [← ei,← JcC,show a + (m + 1 - a + b)=(m + 1) + b by omega,JcC,per];exact eb
theorem JkS {m i q j:Nat} (h:Msk m) (hi:i≤m) (hq:q < 2 ^ 64) (hj:j≤m):∃ L,L≤13 + m∧(Zo m L (i,q)).1=j:=by
 have e:Zo m 13 (i,q)=((Zo m 13 (i,q)).1,0):=by
  refine Prod.ext rfl ?_;rw [JhR];exact Nat.div_eq_of_lt (Nat.lt_trans hq (by decide))
 obtain ⟨L,hL,e2⟩:=Jkj h (JiM m 13 i q hi) hj;refine ⟨13 + L,by omega,?_⟩;rw [JcC,e];exact e2
theorem Ji7 (h:Int):bits h < 2 ^ 64:=by
 unfold bits;have h1:=Int.emod_lt_of_pos h (b:=(2 ^ 64:Int)) (by decide);have h0:=Int.emod_nonneg h (b:=(2 ^ 64:Int)) (by decide);omega
theorem Jez (m:Nat) (h:Int):bits h % (m + 1)≤m:=Nat.le_of_lt_succ (Nat.mod_lt _ (Nat.succ_pos _))
theorem JfN {m:Nat}:∀ {k p},p.j + p.more≤m→(J4 m k p).j + (J4 m k p).more≤m
 | 0,p,h=>h
 | k + 1,p,h=>by
  refine JfN (k:=k) (p:=adv m p) ?_;unfold adv;split
  ·show p.j + 1 + (p.more - 1)≤m;omega
  ·show (leap m p.i p.perturb).1 + (runEnd m (leap m p.i p.perturb).1 - (leap m p.i p.perturb).1)≤m;have a:=Jgs m p.i p.perturb;have b:=Jkc a;omega
theorem Je2 (m:Nat) (h:Int):(Ye m h).j + (Ye m h).more≤m:=by
 have a:=Jez m h;have b:=Jkc a;show bits h % (m + 1) + (runEnd m (bits h % (m + 1)) - bits h % (m + 1))≤m;omega
def Jbl (m:Nat) (occ:Nat→Bool) (p:Probe) (k:Nat):Prop:=occ (J4 m k p).j=false∧∀ k',k' < k→occ (J4 m k' p).j=true
theorem Jma {m:Nat} {occ:Nat→Bool} {p:Probe}:∀ {k:Nat},occ (J4 m k p).j=false→∃ k',k'≤k∧Jbl m occ p k':=by
 intro k
 induction k using Nat.strongRecOn with
 | _ k ih =>
  intro h;by_cases hx:∃ k',k' < k∧occ (J4 m k' p).j=false
  ·obtain ⟨k',h1,h2⟩:=hx;obtain ⟨k2,h3,h4⟩:=ih k' h1 h2;exact ⟨k2,by omega,h4⟩
  ·refine ⟨k,Nat.le_refl _,h,fun k' hk=>?_⟩;cases hb:occ (J4 m k' p).j with
   | true=>rfl
   | false=>exact absurd ⟨k',hk,hb⟩ hx
theorem Jmb {m:Nat} {occ:Nat→Bool} {h:Int} {j:Nat} (hm:Msk m) (hj:j≤m) (ho:occ j=false):∃ k,k < 10 * (m + 15)∧Jbl m occ (Ye m h) k:=by
 obtain ⟨L,hL,e⟩:=JkS hm (Jez m h) (Ji7 h) hj;obtain ⟨k,hk,e2⟩:=Jk4 m L (bits h % (m + 1)) (bits h);have e3:(J4 m k (Ye m h)).j=j:=by
  show (J4 m k (st m _ _)).j=j;rw [e2];exact e
 obtain ⟨k',h1,h2⟩:=Jma (occ:=occ) (by rw [e3]; exact ho);exact ⟨k',by omega,h2⟩
theorem Jbl.step {m:Nat} {occ:Nat→Bool} {p:Probe} {k:Nat} (h:Jbl m occ p (k + 1)):occ p.j=true∧Jbl m occ (adv m p) k:=⟨h.2 0 (Nat.succ_pos _),h.1,fun k' hk=>h.2 (k' + 1) (by omega)⟩
theorem JiW {t:SetTable} {hashAt:Nat→Int} {h:Int} {occ:Nat→Bool} (ho:∀ j,occ j=true→∃ i,t.slot j=.live i) (hf:∀ j,occ j=false→t.slot j=.empty):∀ (k fuel:Nat) (p:Probe),k < fuel→Jbl t.mask occ p k→p.dummy=none →
  (∃ n i,n < k∧t.slot (J4 t.mask n p).j=.live i∧hashAt i=h∧(∀ n' i',n' < n→t.slot (J4 t.mask n' p).j=.live i'→hashAt i'≠h)∧probe.go t hashAt h fuel p=some (.candidate (J4 t.mask n p).j i (J4 t.mask (n + 1) p))) ∨
  ((∀ n i,n < k→t.slot (J4 t.mask n p).j=.live i→hashAt i≠h)∧probe.go t hashAt h fuel p=some (.empty (J4 t.mask k p).j none))
 | 0,fuel + 1,p,_,hF,hd=>by
  refine .inr ⟨fun n i hn=>absurd hn (Nat.not_lt_zero _),?_⟩;have hz:t.slot p.j=.empty:=hf _ hF.1;unfold probe.go;rw [hz,hd];rfl
 | k + 1,fuel + 1,p,hk,hF,hd=>by
  obtain ⟨h1,h2⟩:=hF.step;obtain ⟨i,hi⟩:=ho _ h1;by_cases hh:hashAt i=h
  ·refine .inl ⟨0,i,Nat.succ_pos _,hi,hh,fun n' i' hn=>absurd hn (Nat.not_lt_zero _),?_⟩;unfold probe.go;rw [hi];simp only [hh,beq_self_eq_true,if_true,JfY];rfl
  ·have e:probe.go t hashAt h (fuel + 1) p=probe.go t hashAt h fuel (adv t.mask p):=by
    rw [probe.go];rw [hi];have hb:(hashAt i == h)=false:=by simpa using hh
    simp only [hb,Bool.false_eq_true,if_false,JfY]
   have hd2:(adv t.mask p).dummy=none:=by
    have z:=Jei t.mask 1 p;exact z.trans hd
   rcases JiW ho hf k fuel (adv t.mask p) (by omega) h2 hd2 with ⟨n,i2,a1,a2,a3,a4,a5⟩ | ⟨a1,a2⟩
   ·refine .inl ⟨n + 1,i2,by omega,a2,a3,fun n' i' hn hs=>?_,by rw [e,a5]; rfl⟩;cases n' with
    | zero =>
     have z:t.slot p.j=.live i':=hs;rw [hi] at z;cases z;exact hh
    | succ n'=>exact a4 n' i' (by omega) hs
   ·refine .inr ⟨fun n i2 hn hs=>?_,by rw [e,a2]; rfl⟩;cases n with
    | zero =>
     have z:t.slot p.j=.live i2:=hs;rw [hi] at z;cases z;exact hh
    | succ n=>exact a1 n i2 (by omega) hs
def Ris (xs:Array Nat):Prop:=∀ a b,a < b→b < xs.size→xs.getD a 0 < xs.getD b 0
theorem Jfp {xs:Array Nat} {j:Nat} (hr:Ris xs):∀ (fuel lo hi:Nat),hi - lo≤fuel→lo≤hi→hi≤xs.size→(∀ k,k < lo→xs.getD k 0 < j)→(∀ k,hi≤k→k < xs.size→j≤xs.getD k 0) →
  below.go xs j fuel lo hi≤xs.size∧(∀ k,k < below.go xs j fuel lo hi→xs.getD k 0 < j)∧(∀ k,below.go xs j fuel lo hi≤k→k < xs.size→j≤xs.getD k 0)
 | 0,lo,hi,hf,hl,hz,h1,h2=>by
  have e:lo=hi:=by omega
  subst e;unfold below.go;exact ⟨hz,h1,h2⟩
 | fuel + 1,lo,hi,hf,hl,hz,h1,h2=>by
  unfold below.go;by_cases hlt:lo < hi
  ·rw [if_pos hlt];have hm1:lo≤(lo + hi) / 2:=by omega
   have hm2:(lo + hi) / 2 < hi:=by omega
   have e:xs.getD ((lo + hi) / 2) j=xs.getD ((lo + hi) / 2) 0:=by
    have hlt2:(lo + hi) / 2 < xs.size:=by omega
    simp [Array.getD,hlt2]
   dsimp only;rw [e];by_cases hc:xs.getD ((lo + hi) / 2) 0 < j
   ·rw [if_pos hc];refine Jfp hr fuel _ hi (by omega) (by omega) hz (fun k hk=>?_) h2;by_cases hk2:k=(lo + hi) / 2
    ·rw [hk2]; exact hc
    ·exact Nat.lt_trans (hr k _ (by omega) (by omega)) hc
   ·rw [if_neg hc];refine Jfp hr fuel lo _ (by omega) hm1 (by omega) h1 (fun k hk hks=>?_);by_cases hk2:k=(lo + hi) / 2
    ·rw [hk2]; omega
    ·have:=hr _ k (show (lo + hi) / 2 < k by omega) hks;omega
  ·rw [if_neg hlt];have e:lo=hi:=by omega
   subst e;exact ⟨hz,h1,h2⟩
theorem JfX {xs:Array Nat} (hr:Ris xs) (j:Nat):below xs j≤xs.size∧(∀ k,k < below xs j→xs.getD k 0 < j)∧(∀ k,below xs j≤k→k < xs.size→j≤xs.getD k 0) :=
 Jfp hr xs.size 0 xs.size (by omega) (Nat.zero_le _) (Nat.le_refl _) (fun k hk=>absurd hk (Nat.not_lt_zero _)) fun k hk hks=>by omega
def Yt (place:Array Nat) (j:Nat):Bool:=place.toList.contains j
theorem Jdt {place:Array Nat} {j:Nat}:Yt place j=true↔∃ a,a < place.size∧place.getD a 0=j:=by
 unfold Yt;rw [List.contains_iff_mem,List.mem_iff_getElem];constructor
 ·rintro ⟨a,ha,e⟩;have ha':a < place.size:=by simpa using ha
  exact ⟨a,ha',by simpa [Array.getD,ha'] using e⟩
 ·rintro ⟨a,ha,e⟩;exact ⟨a,by simpa using ha,by simpa [Array.getD,ha] using e⟩
theorem JdY {t:SetTable} (hr:Ris t.place) {a:Nat} (ha:a < t.place.size):t.slot (t.place.getD a 0)=.live a:=by
 obtain ⟨b1,b2,b3⟩:=JfX hr (t.place.getD a 0);have e:below t.place (t.place.getD a 0)=a:=by
  rcases Nat.lt_trichotomy (below t.place (t.place.getD a 0)) a with h | h | h
  ·have:=b3 _ (Nat.le_refl _) (by omega);have:=hr _ a h ha;omega
  ·exact h
  ·have:=b2 a h;omega
 unfold SetTable.slot;dsimp only;rw [e];have e2:t.place[a]?=some (t.place.getD a 0):=by simp [Array.getD,ha]
 rw [e2];simp
theorem Jfy {t:SetTable} (hr:Ris t.place) (hd:t.dummies=#[]) {j:Nat} (h:Yt t.place j=false):t.slot j=.empty:=by
 unfold SetTable.slot;dsimp only;have hn:(t.place[below t.place j]? == some j)=false:=by
  cases hb:(t.place[below t.place j]? == some j) with
  | false=>rfl
  | true =>
   have z:t.place[below t.place j]?=some j:=by simpa using hb
   obtain ⟨hlt,e⟩:=Array.getElem?_eq_some_iff.mp z;have:Yt t.place j=true:=Jdt.mpr ⟨_,hlt,by simp [Array.getD,hlt,e]⟩;rw [h] at this; cases this
 rw [hn,hd];have hh:has #[] j=false:=by unfold has; simp
 rw [hh];rfl
theorem JlY {t:SetTable} (hr:Ris t.place) {j:Nat} (h:Yt t.place j=true):∃ i,t.slot j=.live i:=by
 obtain ⟨a,ha,rfl⟩:=Jdt.mp h;exact ⟨a,JdY hr ha⟩
theorem Jnd {t:SetTable} (hr:Ris t.place) (hd:t.dummies=#[]) {j i:Nat} (h:t.slot j=.live i):i < t.place.size∧t.place.getD i 0=j:=by
 cases ho:Yt t.place j with
 | false=>rw [Jfy hr hd ho] at h; cases h
 | true =>
  obtain ⟨a,ha,rfl⟩:=Jdt.mp ho;rw [JdY hr ha] at h;cases h;exact ⟨ha,rfl⟩
theorem Jak:∀ {l r:List Nat},l.Nodup→(∀ x∈l,x∈r)→l.length≤r.length
 | [],_,_,_=>Nat.zero_le _
 | x :: l,r,hn,hs=>by
  have hx:=hs x (List.mem_cons_self ..);have h1:=List.nodup_cons.mp hn;have z:=Jak (l:=l) (r:=r.erase x) h1.2 fun y hy=>(List.mem_erase_of_ne (by rintro rfl; exact h1.1 hy)).mpr (hs y (List.mem_cons_of_mem _ hy))
  rw [List.length_erase_of_mem hx] at z;have:0 < r.length:=List.length_pos_of_mem hx;simp only [List.length_cons];omega
theorem Jnj {place:Array Nat} {m:Nat} (h:place.size≤m):∃ j,j≤m∧Yt place j=false:=by
 by_cases hx:∃ j,j≤m∧Yt place j=false
 ·exact hx
 ·exfalso;have z:=Jak (l:=List.range (m + 1)) (r:=place.toList) List.nodup_range fun x hx2=>by
   cases ho:Yt place x with
   | false=>exact absurd ⟨x,by have:=List.mem_range.mp hx2; omega,ho⟩ hx
   | true=>exact List.contains_iff_mem.mp ho
  rw [List.length_range,Array.length_toList] at z;omega
end HS
namespace HS
open PySem PySem.SetTable
def Jf1 (m:Nat) (occ:Nat→Bool) (h:Int) (j:Nat):Prop:=∃ k,(J4 m k (Ye m h)).j=j∧∀ k',k' < k→occ (J4 m k' (Ye m h)).j=true
theorem Jf1.mono {m:Nat} {occ occ':Nat→Bool} {h:Int} {j:Nat} (r:Jf1 m occ h j) (ho:∀ j,occ j=true→occ' j=true):Jf1 m occ' h j:=let ⟨k,e,a⟩:=r; ⟨k,e,fun k' hk=>ho _ (a k' hk)⟩
structure Tab (t:SetTable) (es:Array (Int×Value)):Prop where
 msk:Msk t.mask
 dum:t.dummies=#[]
 siz:t.place.size=es.size
 ris:Ris t.place
 ub:∀ j∈t.place.toList,j≤t.mask
 cap:es.size≤t.mask
 rch:∀ z∈t.place.toList.zip es.toList,Jf1 t.mask (Yt t.place) z.2.1 z.1
theorem Tab.fits {t:SetTable} {es:Array (Int×Value)} (T:Tab t es):t.fits es.size=true:=by
 unfold SetTable.fits SetTable.fill;rw [T.dum,T.siz];have:=T.cap;simp;exact this
theorem Tab.first {t:SetTable} {es:Array (Int×Value)} (T:Tab t es) (h:Int):∃ k,k < 10 * turns t.mask∧Jbl t.mask (Yt t.place) (Ye t.mask h) k:=by
 obtain ⟨j,hj,ho⟩:=Jnj (place:=t.place) (m:=t.mask) (by rw [T.siz]; exact T.cap);exact Jmb T.msk hj ho
theorem Tab.met {t:SetTable} {es:Array (Int×Value)} (T:Tab t es) {h:Int} {k a:Nat} {e:Int×Value} (hF:Jbl t.mask (Yt t.place) (Ye t.mask h) k) (he:es.toList[a]?=some e) (hh:e.1=h) :
  ∃ n,n < k∧t.slot (J4 t.mask n (Ye t.mask h)).j=.live a:=by
 have ha:a < es.size:=by
  have:=(List.getElem?_eq_some_iff.mp he).1;simpa using this
 have ha':a < t.place.size:=by rw [T.siz]; exact ha
 have hz:(t.place.getD a 0,e)∈t.place.toList.zip es.toList:=by
  refine List.mem_of_getElem? (i:=a) ?_;rw [List.getElem?_zip_eq_some];refine ⟨?_,he⟩;simp [Array.getD,ha']
 obtain ⟨n,e1,e2⟩:=T.rch _ hz;have hh':(Ye t.mask e.1)=Ye t.mask h:=by rw [hh]
 dsimp only at e1 e2;rw [hh'] at e1;rw [hh'] at e2;have hocc:Yt t.place (t.place.getD a 0)=true:=Jdt.mpr ⟨a,ha',rfl⟩;refine ⟨n,?_,by rw [e1]; exact JdY T.ris ha'⟩;rcases Nat.lt_trichotomy n k with q | q | q
 ·exact q
 ·subst q;have:=hF.1;rw [e1,hocc] at this;cases this
 ·have:=e2 k q;rw [hF.1] at this;cases this
theorem Jgk {xs:Array Nat}:Ris xs↔xs.toList.Pairwise (· < ·):=by
 rw [List.pairwise_iff_getElem];constructor
 ·intro h i j hi hj hij;have hi':i < xs.size:=by simpa using hi
  have hj':j < xs.size:=by simpa using hj
  have:=h i j hij hj';simpa [Array.getD,hi',hj'] using this
 ·intro h a b hab hb;have ha:a < xs.size:=by omega
  have:=h a b (by simpa using ha) (by simpa using hb) hab;simpa [Array.getD,ha,hb] using this
theorem Jci {α β:Type} {P:List α} {E:List β} {z:α×β}:z∈P.zip E↔∃ i:Nat,P[i]?=some z.1∧E[i]?=some z.2:=by
 rw [List.mem_iff_getElem?];constructor
 ·rintro ⟨i,e⟩;exact ⟨i,List.getElem?_zip_eq_some.mp e⟩
 ·rintro ⟨i,e⟩;exact ⟨i,List.getElem?_zip_eq_some.mpr e⟩
theorem Jja {α β:Type} {P:List α} {E:List β} {p:Nat} {s:α} {e:β} (h:P.length=E.length) {z:α×β} (hz:z∈(P.take p ++ s :: P.drop p).zip (E.take p ++ e :: E.drop p)):z∈P.zip E∨z=(s,e):=by
 rw [List.zip_append (by rw [List.length_take,List.length_take,h]),List.zip_cons_cons] at hz;rcases List.mem_append.mp hz with q | q
 ·obtain ⟨i,e1,e2⟩:=Jci.mp q;rw [List.getElem?_take] at e1 e2;refine .inl (Jci.mpr ⟨i,?_,?_⟩)
  ·split at e1
   ·exact e1
   ·cases e1
  ·split at e2
   ·exact e2
   ·cases e2
 ·rcases List.mem_cons.mp q with q | q
  ·exact .inr q
  ·obtain ⟨i,e1,e2⟩:=Jci.mp q;rw [List.getElem?_drop] at e1 e2;exact .inl (Jci.mpr ⟨_,e1,e2⟩)
theorem JnN {t:SetTable} {es:Array (Int×Value)} (T:Tab t es) (j:Nat):t.put j=({ t with place:=insertAt t.place (below t.place j) j,dummies:=#[] },below t.place j):=by
 unfold SetTable.put;have hh:has #[] j=false:=by unfold has; simp
 simp only [T.dum,hh,Bool.false_eq_true,if_false]
theorem JfI {place:Array Nat} {p j j':Nat}:Yt (insertAt place p j) j'=true↔j'=j∨Yt place j'=true:=by
 unfold Yt;rw [List.contains_iff_mem,List.contains_iff_mem,SetTable.toList_insertAt,List.mem_append,List.mem_cons];constructor
 ·rintro (h | h | h)
  ·exact .inr (List.mem_of_mem_take h)
  ·exact .inl h
  ·exact .inr (List.mem_of_mem_drop h)
 ·rintro (h | h)
  ·exact .inr (.inl h)
  ·rw [← List.take_append_drop p place.toList] at h;rcases List.mem_append.mp h with h | h
   ·exact .inl h
   ·exact .inr (.inr h)
theorem Tab.put {t:SetTable} {es:Array (Int×Value)} (T:Tab t es) {h:Int} {x:Value} {k:Nat} (b:Bool) (hF:Jbl t.mask (Yt t.place) (Ye t.mask h) k) (hc:es.size + 1≤t.mask) :
  Tab { mask:=t.mask,place:=insertAt t.place (below t.place (J4 t.mask k (Ye t.mask h)).j) (J4 t.mask k (Ye t.mask h)).j,dummies:=#[],finger:=t.finger,led:=t.led,moves:=t.moves,plain:=b }
   (insertAt es (below t.place (J4 t.mask k (Ye t.mask h)).j) (h,x)):=by
 generalize hj:(J4 t.mask k (Ye t.mask h)).j=j;have ho:Yt t.place j=false:=by rw [← hj]; exact hF.1
 have hle:j≤t.mask:=by
  have:=JfN (m:=t.mask) (k:=k) (Je2 t.mask h);omega
 obtain ⟨b1,b2,b3⟩:=JfX T.ris j;have mono:∀ j',Yt t.place j'=true→Yt (insertAt t.place (below t.place j) j) j'=true:=fun j' q=>JfI.mpr (.inr q)
 refine ⟨T.msk,rfl,?_,?_,?_,?_,?_⟩
 ·have e1:(insertAt t.place (below t.place j) j).size=t.place.size + 1:=by
   rw [← Array.length_toList,(SetTable.insertAt_perm t.place _ j).length_eq,Array.length_toList,Array.size_push]
  have e2:(insertAt es (below t.place j) (h,x)).size=es.size + 1:=by
   rw [← Array.length_toList,(SetTable.insertAt_perm es _ (h,x)).length_eq,Array.length_toList,Array.size_push]
  show (insertAt t.place (below t.place j) j).size=_;rw [e1,e2,T.siz]
 ·rw [Jgk];show (insertAt t.place (below t.place j) j).toList.Pairwise _;rw [SetTable.toList_insertAt];have hp:=Jgk.mp T.ris;rw [List.pairwise_append,List.pairwise_cons];refine ⟨hp.sublist (List.take_sublist _ _),⟨fun a ha=>?_,hp.sublist (List.drop_sublist _ _)⟩,fun a ha c hc=>?_⟩
  ·obtain ⟨i,hi,e⟩:=List.mem_iff_getElem.mp ha;rw [List.getElem_drop] at e;have hi2:below t.place j + i < t.place.size:=by
    rw [List.length_drop,Array.length_toList] at hi;omega
   have e2:t.place.getD (below t.place j + i) 0=a:=by rw [← e]; simp [Array.getD,hi2]
   have h1:=b3 _ (Nat.le_add_right _ i) hi2;have h2:a≠j:=fun q=>by
    have:=Jdt.mpr ⟨_,hi2,e2.trans q⟩;rw [ho] at this; cases this
   omega
  ·have hlt:∀ a∈t.place.toList.take (below t.place j),a < j:=fun a ha=>by
    obtain ⟨i,hi,e⟩:=List.mem_iff_getElem.mp ha;rw [List.getElem_take] at e;rw [List.length_take,Array.length_toList] at hi;have hi2:i < t.place.size:=by omega
    have e2:t.place.getD i 0=a:=by rw [← e]; simp [Array.getD,hi2]
    have:=b2 i (by omega);omega
   rcases List.mem_cons.mp hc with q | q
   ·rw [q]; exact hlt a ha
   ·have hp2:=hp;rw [← List.take_append_drop (below t.place j) t.place.toList,List.pairwise_append] at hp2;exact hp2.2.2 a ha c q
 ·intro a ha;have:Yt (insertAt t.place (below t.place j) j) a=true:=List.contains_iff_mem.mpr ha;rcases JfI.mp this with q | q
  ·rw [q]; exact hle
  ·exact T.ub a (List.contains_iff_mem.mp q)
 ·rw [← Array.length_toList,(SetTable.insertAt_perm es _ (h,x)).length_eq,Array.length_toList,Array.size_push];exact hc
 ·intro z hz;have hz':z∈(insertAt t.place (below t.place j) j).toList.zip (insertAt es (below t.place j) (h,x)).toList:=hz;rw [SetTable.toList_insertAt,SetTable.toList_insertAt] at hz';rcases Jja (by rw [Array.length_toList,Array.length_toList,T.siz]) hz' with q | q
  ·exact (T.rch z q).mono mono
  ·rw [q];exact ⟨k,hj,fun k' hk=>mono _ (hF.2 k' hk)⟩
def Zh (owner:Array (Option Nat)) (j:Nat):Bool:=(owner.getD j (some 0)).isSome
theorem Jha {m:Nat} {owner:Array (Option Nat)}:∀ (fuel i q:Nat),i≤m→(∃ L,L < fuel∧Zh owner (Zo m L (i,q)).1=false) →
  ∃ k,layClean.free m owner fuel i q=some (J4 m k (st m i q)).j∧Jbl m (Zh owner) (st m i q) k
 | 0,i,q,hi,⟨L,hL,_⟩=>absurd hL (Nat.not_lt_zero _)
 | fuel + 1,i,q,hi,⟨L,hL,hf⟩=>by
  have hr:=JiN m i;have hge:i≤runEnd m i:=by unfold runEnd; split <;> omega
  unfold layClean.free;cases hx:(List.range (runEnd m i + 1 - i)).find? fun k=>(owner.getD (i + k) (some 0)).isNone with
  | some k =>
   obtain ⟨h1,h2,h3⟩:=List.find?_range_eq_some.mp hx;have hk:k≤runEnd m i - i:=by have:=List.mem_range.mp h2; omega
   refine ⟨k,?_,?_,fun k' hk'=>?_⟩
   ·rw [Jco hk]
   ·rw [Jco hk];show (owner.getD (i + k) (some 0)).isSome=false;cases ho:owner.getD (i + k) (some 0) with
    | none=>rfl
    | some a=>rw [ho] at h1; cases h1
   ·rw [Jco (by omega)];have z:=h3 k' hk';show (owner.getD (i + k') (some 0)).isSome=true;cases ho:owner.getD (i + k') (some 0) with
    | none=>rw [ho] at z; simp at z
    | some a=>rfl
  | none =>
   have hn:=List.find?_eq_none.mp hx;have occd:∀ d,d≤runEnd m i - i→Zh owner (i + d)=true:=fun d hd=>by
    have z:=hn d (List.mem_range.mpr (by omega));show (owner.getD (i + d) (some 0)).isSome=true;cases ho:owner.getD (i + d) (some 0) with
    | none=>rw [ho] at z; simp at z
    | some a=>rfl
   cases L with
   | zero =>
    have z:=occd 0 (Nat.zero_le _);rw [Nat.add_zero] at z;have hf':Zh owner i=false:=hf;rw [z] at hf'; cases hf'
   | succ L =>
    obtain ⟨k,e,hF⟩:=Jha fuel (leap m i q).1 (leap m i q).2 (Jgs m i q) ⟨L,by omega,hf⟩;have eI:∀ n,J4 m (runEnd m i - i + 1 + n) (st m i q)=J4 m n (st m (leap m i q).1 (leap m i q).2):=fun n=>by rw [Jcp,Jii]
    refine ⟨runEnd m i - i + 1 + k,?_,?_,fun k' hk'=>?_⟩
    ·rw [eI]; exact e
    ·rw [eI]; exact hF.1
    ·by_cases hs:k'≤runEnd m i - i
     ·rw [Jco hs]; exact occd k' hs
     ·obtain ⟨n,rfl⟩:∃ n,k'=runEnd m i - i + 1 + n:=⟨k' - (runEnd m i - i + 1),by omega⟩
      rw [eI];exact hF.2 n (by omega)
structure Own (m:Nat) (owner:Array (Option Nat)) (done:List Int):Prop where
 siz:owner.size=m + 1
 all:∀ a,a < done.length→∃ j,j≤m∧owner.getD j none=some a
 has:∀ j a,owner.getD j none=some a→∃ h,done[a]?=some h∧Jf1 m (Zh owner) h j
 inj:∀ j j' a,owner.getD j none=some a→owner.getD j' none=some a→j=j'
theorem Own.lt {m:Nat} {owner:Array (Option Nat)} {done:List Int} (O:Own m owner done) {j a:Nat} (h:owner.getD j none=some a):j≤m∧a < done.length:=by
 obtain ⟨hh,e,_⟩:=O.has j a h;refine ⟨?_,(List.getElem?_eq_some_iff.mp e).1⟩;by_cases hj:j < owner.size
 ·have:=O.siz; omega
 ·rw [show owner.getD j none=none by simp [Array.getD,hj]] at h; cases h
theorem Jd6 {owner:Array (Option Nat)} {j:Nat} (hj:j < owner.size):owner.getD j (some 0)=owner.getD j none:=by simp [Array.getD,hj]
theorem Own.free {m:Nat} {owner:Array (Option Nat)} {done:List Int} (O:Own m owner done) (h:done.length≤m):∃ j,j≤m∧Zh owner j=false:=by
 by_cases hx:∃ j,j≤m∧Zh owner j=false
 ·exact hx
 ·exfalso;have hall:∀ j,j≤m→∃ a,owner.getD j none=some a:=fun j hj=>by
   cases ho:Zh owner j with
   | false=>exact absurd ⟨j,hj,ho⟩ hx
   | true =>
    unfold Zh at ho;rw [Jd6 (by rw [O.siz]; omega)] at ho;exact Option.isSome_iff_exists.mp ho
  have hnd:((List.range (m + 1)).map fun j=>(owner.getD j none).getD 0).Nodup:=by
   rw [List.Nodup,List.pairwise_map];refine List.Pairwise.imp_of_mem ?_ (List.pairwise_lt_range (n:=m + 1));intro a b ha hb hlt e;obtain ⟨x,ex⟩:=hall a (by have:=List.mem_range.mp ha; omega);obtain ⟨y,ey⟩:=hall b (by have:=List.mem_range.mp hb; omega);rw [ex,ey] at e;have e':x=y:=e;subst e';have:=O.inj a b x ex ey;omega
  have z:=Jak (r:=List.range done.length) hnd fun x hx2=>by
   obtain ⟨j,hj,e⟩:=List.mem_map.mp hx2;obtain ⟨y,ey⟩:=hall j (by have:=List.mem_range.mp hj; omega);rw [ey] at e;have e':y=x:=e;subst e';exact List.mem_range.mpr (O.lt ey).2
  rw [List.length_map,List.length_range,List.length_range] at z;omega
theorem Own.step {m:Nat} {owner:Array (Option Nat)} {done:List Int} (hm:Msk m) (O:Own m owner done) (h:done.length≤m) (x:Int) :
  ∃ j,layClean.free m owner (turns m) (bits x % (m + 1)) (bits x)=some j∧Own m (owner.setIfInBounds j (some done.length)) (done ++ [x]):=by
 obtain ⟨f,hf,ho⟩:=O.free h;obtain ⟨L,hL,eL⟩:=JkS hm (Jez m x) (Ji7 x) hf;obtain ⟨k,e,hF⟩:=Jha (owner:=owner) (turns m) (bits x % (m + 1)) (bits x) (Jez m x) ⟨L,by unfold turns; omega,by rw [eL]; exact ho⟩;generalize hj:(J4 m k (st m (bits x % (m + 1)) (bits x))).j=j at e;have hjm:j≤m:=by
  have:=JfN (m:=m) (k:=k) (Je2 m x);have e2:(J4 m k (Ye m x)).j=j:=hj;omega
 have hjs:j < owner.size:=by rw [O.siz]; omega
 have hj0:owner.getD j none=none:=by
  have z:=hF.1;rw [hj] at z;unfold Zh at z;rw [Jd6 hjs] at z;cases q:owner.getD j none with
  | none=>rfl
  | some a=>rw [q] at z; cases z
 have get:∀ i,(owner.setIfInBounds j (some done.length)).getD i none=if i=j then some done.length else owner.getD i none:=fun i=>by
  rw [Array.getD_eq_getD_getElem?,Array.getElem?_setIfInBounds];by_cases q:i=j
  ·subst q; simp [hjs]
  ·have q':¬ j=i:=fun w=>q w.symm
   rw [if_neg q',if_neg q,Array.getD_eq_getD_getElem?]
 have mono:∀ i,Zh owner i=true→Zh (owner.setIfInBounds j (some done.length)) i=true:=fun i q=>by
  unfold Zh at q ⊢;by_cases hi:i < owner.size
  ·rw [Jd6 (by simpa using hi),get];rw [Jd6 hi] at q;by_cases w:i=j
   ·rw [if_pos w]; rfl
   ·rw [if_neg w]; exact q
  ·simp [Array.getD,hi]
 refine ⟨j,e,by simpa using O.siz,fun a ha=>?_,fun i a hi=>?_,fun i i' a hi hi'=>?_⟩
 ·by_cases hlt:a < done.length
  ·obtain ⟨i,hi,ei⟩:=O.all a hlt;refine ⟨i,hi,?_⟩;rw [get,if_neg (fun q=>by rw [q,hj0] at ei; cases ei)];exact ei
  ·rw [List.length_append,List.length_singleton] at ha;have:a=done.length:=by omega
   subst this;exact ⟨j,hjm,by rw [get,if_pos rfl]⟩
 ·rw [get] at hi;split at hi
  ·rename_i q;cases hi;refine ⟨x,by simp,?_⟩;rw [q];exact ⟨k,hj,fun k' hk=>mono _ (hF.2 k' hk)⟩
  ·obtain ⟨hh,e1,r⟩:=O.has i a hi;exact ⟨hh,by rw [List.getElem?_append_left (List.getElem?_eq_some_iff.mp e1).1]; exact e1,r.mono mono⟩
 ·rw [get] at hi hi';split at hi <;> split at hi'
  ·rename_i q q'; rw [q,q']
  ·cases hi;have:=(O.lt hi').2;omega
  ·cases hi';have:=(O.lt hi).2;omega
  ·exact O.inj i i' a hi hi'
def Jif (m:Nat) (acc:Option (Array (Option Nat)×Nat)) (h:Int):Option (Array (Option Nat)×Nat):=do
 let (owner,k) ← acc;let j ← layClean.free m owner (turns m) (bits h % (m + 1)) (bits h)
 pure (owner.setIfInBounds j (some k),k + 1)
theorem Jie {m:Nat} (hm:Msk m):∀ (todo done:List Int) (owner:Array (Option Nat)),Own m owner done→done.length + todo.length≤m→∃ owner',todo.foldl (Jif m) (some (owner,done.length))=some (owner',done.length + todo.length)∧Own m owner' (done ++ todo)
 | [],done,owner,O,_=>⟨owner,by simp,by simpa using O⟩
 | x :: todo,done,owner,O,h=>by
  simp only [List.length_cons] at h;obtain ⟨j,e,O2⟩:=O.step hm (by omega) x;obtain ⟨o3,e3,O3⟩:=Jie hm todo (done ++ [x]) _ O2 (by rw [List.length_append,List.length_singleton]; omega);refine ⟨o3,?_,by simpa using O3⟩;rw [List.foldl_cons];have e4:Jif m (some (owner,done.length)) x=some (owner.setIfInBounds j (some done.length),done.length + 1):=by
   unfold Jif;simp [e]
  rw [e4];rw [List.length_append,List.length_singleton] at e3;rw [e3];simp only [List.length_cons];congr 2;omega
theorem Jky {m:Nat} (hm:Msk m) (hashes:Array Int) (h:hashes.size≤m):∃ owner,layClean m hashes=some owner∧Own m owner hashes.toList:=by
 have O0:Own m (Array.replicate (m + 1) none) []:=by
  have g:∀ j,(Array.replicate (m + 1) (none:Option Nat)).getD j none=none:=fun j=>by
   rw [Array.getD_eq_getD_getElem?,Array.getElem?_replicate];split <;> rfl
  refine ⟨by simp,fun a ha=>absurd ha (Nat.not_lt_zero _),fun j a e=>?_,fun j j' a e=>?_⟩
  ·rw [g] at e; cases e
  ·rw [g] at e; cases e
 obtain ⟨owner,e,O⟩:=Jie hm hashes.toList [] _ O0 (by simpa using h);refine ⟨owner,?_,by simpa using O⟩;unfold layClean;have e2:(hashes.foldl (init:=some (Array.replicate (m + 1) none,0)) fun acc h=>do
  let (owner,k) ← acc;let j ← layClean.free m owner (turns m) (bits h % (m + 1)) (bits h)
  pure (owner.setIfInBounds j (some k),k + 1))=hashes.toList.foldl (Jif m) (some (Array.replicate (m + 1) none,0)):=by
  rw [← Array.foldl_toList];rfl
 rw [e2];have e3:hashes.toList.foldl (Jif m) (some (Array.replicate (m + 1) none,0))=some (owner,0 + hashes.toList.length):=e;rw [e3];rfl
theorem JhB {es:Array (Int×Value)}:∀ {live:List (Nat×Nat)},(∀ x∈live,x.2 < es.size)→((live.map (·.2)).filterMap (es[·]?)).length=live.length ∧
  ∀ z∈(live.map (·.1)).zip ((live.map (·.2)).filterMap (es[·]?)),∃ x∈live,z.1=x.1∧es[x.2]?=some z.2
 | [],_=>⟨rfl,fun z hz=>nomatch hz⟩
 | x :: r,h=>by
  obtain ⟨a,b⟩:=JhB (live:=r) fun y hy=>h y (List.mem_cons_of_mem _ hy)
  have hx:=h x (List.mem_cons_self ..);have e:es[x.2]?=some es[x.2]:=Array.getElem?_eq_getElem hx;rw [List.map_cons,List.filterMap_cons_some e,List.map_cons,List.zip_cons_cons];refine ⟨by rw [List.length_cons,List.length_cons,a],fun z hz=>?_⟩;rcases List.mem_cons.mp hz with q | q
  ·exact ⟨x,List.mem_cons_self ..,by rw [q],by rw [q]; exact e⟩
  ·obtain ⟨y,hy,e1,e2⟩:=b z q;exact ⟨y,List.mem_cons_of_mem _ hy,e1,e2⟩
theorem JoA {m:Nat} (hm:Msk m) (finger moves:Nat) (led plain:Bool) (es:Array (Int×Value)) (h:es.size≤m) :
  ∃ t order,laid m finger moves led plain (es.map (·.1))=some (t,order)∧Tab t (order.filterMap (es[·]?))∧(order.filterMap (es[·]?)).size=es.size∧(∀ e,e∈(order.filterMap (es[·]?)).toList↔e∈es.toList)∧t.mask=m:=by
 obtain ⟨owner,eo,O⟩:=Jky hm (es.map (·.1)) (by simpa using h);have hlen:(es.map (·.1)).toList.length=es.size:=by simp
 let live:=(List.range (m + 1)).filterMap fun j=>(owner.getD j none).map (j,·)
 have hlive:∀ x,x∈live↔owner.getD x.1 none=some x.2:=fun x=>by
  rw [List.mem_filterMap];constructor
  ·rintro ⟨j,hj,e⟩;obtain ⟨a,ea,e2⟩:=Option.map_eq_some_iff.mp e;rw [← e2];exact ea
  ·intro e;exact ⟨x.1,List.mem_range.mpr (by have:=(O.lt e).1; omega),by rw [e]; rfl⟩
 have hlt:∀ x∈live,x.2 < es.size:=fun x hx=>by rw [← hlen]; exact (O.lt ((hlive x).mp hx)).2
 obtain ⟨zl,zm⟩:=JhB hlt;have efst:live.map (·.1)=(List.range (m + 1)).filter fun j=>(owner.getD j none).isSome:=by
  show ((List.range (m + 1)).filterMap fun j=>(owner.getD j none).map (j,·)).map (·.1)=_;rw [List.map_filterMap]
  induction List.range (m + 1) with
  | nil=>rfl
  | cons a r ih =>
   cases ho:owner.getD a none with
   | none=>simp only [List.filterMap_cons,List.filter_cons,ho,Option.map_none,Option.isSome_none,Bool.false_eq_true,if_false]; exact ih
   | some b=>simp only [List.filterMap_cons,List.filter_cons,ho,Option.map_some,Option.isSome_some,if_true]; rw [ih]
 have hocc:∀ j,Zh owner j=true→j≤m→Yt (live.map (·.1)).toArray j=true:=fun j q hj=>by
  unfold Yt;rw [List.contains_iff_mem,List.toList_toArray,efst,List.mem_filter];refine ⟨List.mem_range.mpr (by omega),?_⟩;unfold Zh at q;rw [Jd6 (by rw [O.siz]; omega)] at q;exact q
 have hcount:live.length=es.size:=by
  have n1:(live.map (·.2)).Nodup:=by
   rw [List.Nodup,List.pairwise_map];refine List.Pairwise.imp_of_mem (R:=fun x y=>x.1 < y.1) ?_ ?_
   ·intro x y hx hy hxy e;have e1:=(hlive x).mp hx;have e2:=(hlive y).mp hy;rw [← e] at e2;have:=O.inj _ _ _ e1 e2;omega
   ·have z:(live.map (·.1)).Pairwise (· < ·):=by rw [efst]; exact List.pairwise_lt_range.sublist List.filter_sublist
    exact List.pairwise_map.mp z
  have a1:=Jak n1 (r:=List.range es.size) fun x hx=>by
   obtain ⟨y,hy,e⟩:=List.mem_map.mp hx;rw [← e];exact List.mem_range.mpr (hlt y hy)
  have a2:=Jak (l:=List.range es.size) (r:=live.map (·.2)) List.nodup_range fun x hx=>by
   obtain ⟨j,hj,e⟩:=O.all x (by rw [hlen]; exact List.mem_range.mp hx);exact List.mem_map.mpr ⟨(j,x),(hlive _).mpr e,rfl⟩
  rw [List.length_map,List.length_range] at a1 a2;omega
 have efm:((live.map (·.2)).toArray.filterMap (es[·]?)).toList=(live.map (·.2)).filterMap (es[·]?):=by rw [Array.toList_filterMap]
 have esz:((live.map (·.2)).toArray.filterMap (es[·]?)).size=es.size:=by rw [← Array.length_toList,efm,zl,hcount]
 refine ⟨{ mask:=m,place:=(live.map (·.1)).toArray,dummies:=#[],finger,led,moves,plain },(live.map (·.2)).toArray,?_,⟨hm,rfl,?_,?_,?_,?_,?_⟩,esz,fun e=>?_,rfl⟩
 ·unfold laid;rw [eo];rfl
 ·rw [esz];show (live.map (·.1)).toArray.size=es.size;rw [List.size_toArray,List.length_map,hcount]
 ·rw [Jgk];show (live.map (·.1)).toArray.toList.Pairwise _;rw [List.toList_toArray,efst];exact List.pairwise_lt_range.sublist List.filter_sublist
 ·intro j hj;have hj':j∈(live.map (·.1)).toArray.toList:=hj;rw [List.toList_toArray] at hj';obtain ⟨x,hx,e⟩:=List.mem_map.mp hj';rw [← e];exact (O.lt ((hlive x).mp hx)).1
 ·rw [esz]; exact h
 ·intro z hz;rw [efm] at hz;have hz':z∈(live.map (·.1)).zip ((live.map (·.2)).filterMap (es[·]?)):=by simpa using hz
  obtain ⟨x,hx,e1,e2⟩:=zm z hz';obtain ⟨hh,e3,r⟩:=O.has _ _ ((hlive x).mp hx);have e4:hh=z.2.1:=by
   rw [Array.getElem?_toList,Array.getElem?_map,e2] at e3;exact (Option.some.inj e3).symm
  rw [e1,← e4];obtain ⟨k,ek,ak⟩:=r;refine ⟨k,ek,fun k' hk=>hocc _ (ak k' hk) ?_⟩;have:=JfN (m:=m) (k:=k') (Je2 m hh);show (J4 m k' (Ye m hh)).j≤m;omega
 ·rw [efm,List.mem_filterMap];constructor
  ·rintro ⟨a,_,q⟩;exact List.mem_of_getElem? (by rw [Array.getElem?_toList]; exact q)
  ·intro he;obtain ⟨a,ha,q⟩:=List.mem_iff_getElem.mp he;have ha':a < es.size:=by simpa using ha
   obtain ⟨j,hj,e⟩:=O.all a (by rw [hlen]; exact ha');refine ⟨a,List.mem_map.mpr ⟨(j,a),(hlive _).mpr e,rfl⟩,?_⟩;rw [Array.getElem?_eq_getElem ha'];simpa using q
end HS
namespace HS
open PySem PySem.SetTable L2
section
variable {prog:Program} {w:World} {A:Around} {E:Value→Shared→Prop} {s:Shared}
abbrev TK (prog:Program) (w:World):=IsTupleKey (J7 prog w)
abbrev hsh (prog:Program) (w:World) (ks:List JP):Int:=tupleKeyHash (J7 prog w) ks
theorem JiD (n:Nat) {v:Value} (h:carriedByValue v=true):ofAClassStatement n v=pure false:=by
 cases v with
 | ref a=>simp [carriedByValue] at h
 | _=>first | rfl | simp [ofAClassStatement] | (unfold ofAClassStatement; rfl)
theorem JeS {ks:List JP} {a:Addr} {Q:Bool→Shared→Prop} (hk:TK prog w s.heap ks a) (h:Q false s):wpAny (model prog w) A (ofAClassStatement 8 (.ref a)) Q E s:=by
 obtain ⟨o,items,n,ho,hc,hd,hi⟩:=hk;unfold ofAClassStatement;refine wpAny_bind (PySem.W.Looks.here (show PySem.W.Looks _ s.heap (typeOf (.ref a)) (.type "tuple") from hc ▸ (PySem.W.Looks.ld ho).andThen .now) ?_);dsimp only;rw [if_pos (by decide)];refine wpAny_bind (wpAny_pure ?_);rw [if_neg (by decide)];refine wpAny_bind (wpAny_seqItems ho hd ?_);dsimp only;refine wpAny_bind ?_;rw [← Array.forIn_toList];refine wpAny_forIn_list _ (fun rest r s'=>r=(none,())∧s'=s∧∀ v∈rest,carriedByValue v=true) _ ?_ ?_ _ _ ⟨rfl,rfl,hi.byValue⟩
 ·rintro v rest r s' ⟨hr,rfl,hall⟩;rw [JiD _ (hall v List.mem_cons_self)];refine wpAny_bind (wpAny_pure ?_);rw [if_neg (by decide)];exact wpAny_pure ⟨rfl,rfl,fun u hu'=>hall u (List.mem_cons_of_mem _ hu')⟩
 ·rintro r s' ⟨hr,rfl,_⟩;subst hr;exact wpAny_pure h
theorem JmW {ks:List JP} {x:Addr} {stored:List Value} {Q:Bool→Shared→Prop} (hk:TK prog w s.heap ks x) (hall:∀ v∈stored,∃ a k',v=.ref a∧TK prog w s.heap k' a) (h:Q false s) :
  wpAny (model prog w) A (searchCouldBeSeen (.ref x) stored) Q E s:=by
 unfold searchCouldBeSeen;refine wpAny_bind ?_;refine wpAny_forIn_list _ (fun rest r s'=>r=(none,())∧s'=s∧∀ v∈rest,∃ a k',v=.ref a∧TK prog w s.heap k' a) _ ?_ ?_ _ _ ⟨rfl,rfl,hall⟩
 ·rintro v rest r s' ⟨hr,rfl,hall⟩;obtain ⟨a,k',rfl,hk'⟩:=hall v List.mem_cons_self;have rest_ok:∀ v∈rest,∃ a k',v=Value.ref a∧TK prog w s'.heap k' a:=fun u hu'=>hall u (List.mem_cons_of_mem _ hu')
  dsimp only;split
  ·exact wpAny_pure ⟨rfl,rfl,rest_ok⟩
  ·refine wpAny_bind (wpAny_eqIsQuiet_tuple hk ?_);rw [if_neg (by decide)];refine wpAny_bind (wpAny_eqIsQuiet_tuple hk' ?_);rw [if_neg (by decide)];refine wpAny_bind (JeS hk ?_);rw [if_neg (by decide)];refine wpAny_bind (JeS hk' ?_);rw [if_neg (by decide)];exact wpAny_pure ⟨rfl,rfl,rest_ok⟩
 ·rintro r s' ⟨hr,rfl,_⟩;subst hr;exact wpAny_pure h
structure Jc9 (prog:Program) (w:World) (h:Heap) (S:Addr) (es:Array (Int×Value)) (t:SetTable) (D:List (List JP)):Prop where
 tab:Tab t es
 full:es.size * 5 < t.mask * 3
 els:∀ e∈es.toList,∃ ks∈D,∃ a,e=(hsh prog w ks,.ref a)∧TK prog w h ks a
 all:∀ ks∈D,∃ a,(hsh prog w ks,.ref a)∈es.toList∧TK prog w h ks a
 siz:es.size=D.length
theorem Jjn {S x:Addr} {ks:List JP} {o:Obj} {es:Array (Int×Value)} {ep:Nat} {t:SetTable} {D:List (List JP)} {Q:SetFound→Shared→Prop} (hu:A.units < cLine) (ho:s.heap.get? S=some o) (hd:o.data=.set es ep t)
  (SA:Jc9 prog w s.heap S es t D) (hk:TK prog w s.heap ks x) :
  ∀ (k fuel:Nat) (sd:Option Probe),k < fuel→k < 10 * turns t.mask→Jbl t.mask (Yt t.place) (sd.getD (t.probeStart (hsh prog w ks))) k→(sd.getD (t.probeStart (hsh prog w ks))).dummy=none →
   ((∃ n i a,n < k∧t.slot (J4 t.mask n (sd.getD (t.probeStart (hsh prog w ks)))).j=.live i∧es.toList[i]?=some (hsh prog w ks,.ref a)∧TK prog w s.heap ks a)→Q (.there none) s) →
   ((∀ n i a,n < k→t.slot (J4 t.mask n (sd.getD (t.probeStart (hsh prog w ks)))).j=.live i→es.toList[i]?=some (hsh prog w ks,.ref a)→TK prog w s.heap ks a→False)→Q (.free (J4 t.mask k (sd.getD (t.probeStart (hsh prog w ks)))).j false) s) →
   wpAny (model prog w) A (setSearchFrom S (.ref x) (hsh prog w ks) true fuel sd) Q E s:=by
 intro k
 induction k using Nat.strongRecOn with
 | _ k ih =>
  intro fuel sd hf hb hF hdm h1 h2;obtain ⟨fuel,rfl⟩:∃ f,fuel=f + 1:=⟨fuel - 1,by omega⟩
  unfold setSearchFrom;refine wpAny_bind (wpAny_setState_of ho hd SA.tab.fits ?_);dsimp only;have hg:¬ t.gaveWay=true:=by
   unfold SetTable.gaveWay;rcases SA.tab.msk with e | e | e <;> rw [e] <;> decide
  rw [if_neg hg];have spec:=JiW (t:=t) (hashAt:=fun i=>(es[i]?.map (·.1)).getD 0) (h:=hsh prog w ks) (fun j=>JlY SA.tab.ris) (fun j=>Jfy SA.tab.ris SA.tab.dum) k (10 * turns t.mask) (sd.getD (t.probeStart (hsh prog w ks))) hb hF hdm;split
  ·rename_i met hmet;rcases spec with ⟨n,i,a1,a2,a3,a4,a5⟩ | ⟨a1,a2⟩
   ·have e:=Option.some.inj (hmet.symm.trans a5);subst e;dsimp only;obtain ⟨hi,hpl⟩:=Jnd SA.tab.ris SA.tab.dum a2;have hie:i < es.size:=by rw [← SA.tab.siz]; exact hi
    obtain ⟨k',hk'D,b,eb,hkb⟩:=SA.els es[i] (by simp);have hei:es[i]?=some (hsh prog w k',.ref b):=by rw [Array.getElem?_eq_getElem hie,eb]
    have heL:es.toList[i]?=some (hsh prog w k',.ref b):=by rw [Array.getElem?_toList]; exact hei
    have hhash:hsh prog w k'=hsh prog w ks:=by
     rw [hei] at a3;exact a3
    have eI:∀ j,J4 t.mask j (J4 t.mask (n + 1) (sd.getD (t.probeStart (hsh prog w ks))))=J4 t.mask (n + 1 + j) (sd.getD (t.probeStart (hsh prog w ks))):=fun j=>(Jcp t.mask (n + 1) j _).symm
    have again:k'≠ks→wpAny (model prog w) A (setSearchFrom S (.ref x) (hsh prog w ks) true fuel (some (J4 t.mask (n + 1) (sd.getD (t.probeStart (hsh prog w ks)))))) Q E s:=fun he=>by
     have ek:n + 1 + (k - (n + 1))=k:=by omega
     refine ih (k - (n + 1)) (by omega) fuel (some (J4 t.mask (n + 1) (sd.getD (t.probeStart (hsh prog w ks))))) (by omega) (by omega) ⟨?_,fun j hj=>?_⟩ ?_ (fun q=>?_) (fun q=>?_)
     ·show Yt t.place (J4 t.mask _ (J4 t.mask (n + 1) _)).j=false;rw [eI,ek]; exact hF.1
     ·show Yt t.place (J4 t.mask _ (J4 t.mask (n + 1) _)).j=true;rw [eI]; exact hF.2 _ (by omega)
     ·show (J4 t.mask (n + 1) _).dummy=none;rw [Jei]; exact hdm
     ·obtain ⟨n2,i2,c,c1,c2,c3,c4⟩:=q;have c2':t.slot (J4 t.mask n2 (J4 t.mask (n + 1) (sd.getD (t.probeStart (hsh prog w ks))))).j=.live i2:=c2;rw [eI] at c2';exact h1 ⟨_,i2,c,by omega,c2',c3,c4⟩
     ·show Q (.free (J4 t.mask _ (J4 t.mask (n + 1) (sd.getD (t.probeStart (hsh prog w ks))))).j false) s;rw [eI,ek];refine h2 fun n2 i2 c c1 c2 c3 c4=>?_
      rcases Nat.lt_trichotomy n2 n with g | g | g
      ·exact a4 n2 i2 g c2 (by rw [← Array.getElem?_toList,c3]; rfl)
      ·subst g;rw [a2] at c2;cases c2;rw [heL] at c3;have e5:=congrArg (fun z=>z.2) (Option.some.inj c3);have e6:b=c:=Value.ref.inj e5;subst e6;exact he (hkb.inj c4)
      ·refine q (n2 - (n + 1)) i2 c (by omega) ?_ c3 c4;show t.slot (J4 t.mask _ (J4 t.mask (n + 1) _)).j=_;rw [eI,show n + 1 + (n2 - (n + 1))=n2 by omega];exact c2
    cases hl:t.led
    ·rw [if_pos (by rfl)];refine wpAny_bind (JmW hk (fun v hv=>?_) ?_)
     ·obtain ⟨e,he,rfl⟩:=List.mem_map.mp hv;have he2:e∈es.toList:=by
       have:=Array.mem_toList_iff.mp he;exact Array.mem_toList_iff.mpr (Array.mem_filter.mp this).1
      obtain ⟨k2,_,b2,rfl,hb2⟩:=SA.els e he2;exact ⟨b2,k2,rfl,hb2⟩
     ·rw [if_neg (by decide)];rw [hei];dsimp only;refine wpAny_bind (wpAny_holding (wpAny_eqBool_tuple hu hkb hk ?_));refine wpAny_bind (wpAny_setState_of ho hd SA.tab.fits ?_);dsimp only;by_cases he:k'=ks
      ·subst he;rw [decide_eq_true rfl,if_pos (by decide)];exact wpAny_pure (h1 ⟨n,i,b,a1,a2,heL,hkb⟩)
      ·rw [decide_eq_false he,if_neg (by decide)];have hsm:t.sameMemory t.moves t.mask=some true:=by unfold SetTable.sameMemory; rw [if_pos (by simp)]
       rw [hsm];dsimp only;rw [if_pos rfl,a2];dsimp only;rw [hei];dsimp only;refine wpAny_bind (wpAny_isSame_ref_self ?_);rw [if_pos rfl];refine wpAny_bind (wpAny_pure ?_);dsimp only;rw [if_neg (by decide)];exact again he
    ·rw [if_neg (by decide)];rw [hei];dsimp only;refine wpAny_bind (wpAny_holding (wpAny_eqBool_tuple hu hkb hk ?_));refine wpAny_bind (wpAny_setState_of ho hd SA.tab.fits ?_);dsimp only;by_cases he:k'=ks
     ·subst he;rw [decide_eq_true rfl,if_pos (by decide)];exact wpAny_pure (h1 ⟨n,i,b,a1,a2,heL,hkb⟩)
     ·rw [decide_eq_false he,if_neg (by decide)];have hsm:t.sameMemory t.moves t.mask=some true:=by unfold SetTable.sameMemory; rw [if_pos (by simp)]
      rw [hsm];dsimp only;rw [if_pos rfl,a2];dsimp only;rw [hei];dsimp only;refine wpAny_bind (wpAny_isSame_ref_self ?_);rw [if_pos rfl];refine wpAny_bind (wpAny_pure ?_);dsimp only;rw [if_neg (by decide)];exact again he
   ·have e:=Option.some.inj (hmet.symm.trans a2);subst e;exact wpAny_pure (h2 fun n i a hn hs he hka=>a1 n i hn hs (by
     show (es[i]?.map (·.1)).getD 0=_;rw [← Array.getElem?_toList,he]; rfl))
  ·rename_i hmet;exfalso;rcases spec with ⟨n,i,a1,a2,a3,a4,a5⟩ | ⟨a1,a2⟩
   ·exact hmet _ a5
   ·exact hmet _ a2
open Classical in
noncomputable def dd (D:List (List JP)) (ks:List JP):List (List JP):=if ks∈D then D else D ++ [ks]
theorem TK.stay {h h':Heap} {S a:Addr} {o:Obj} {ks:List JP} {es:Array (Int×Value)} {ep:Nat} {t:SetTable} (hk:TK prog w h ks a) (ho:h.get? S=some o) (hd:o.data=.set es ep t) (hs:Heap.SameBut S h h'):TK prog w h' ks a:=by
 obtain ⟨o',items,n,ho',hc,hd',hi⟩:=hk;have hne:a≠S:=by
  rintro rfl;obtain rfl:o'=o:=Option.some.inj (ho'.symm.trans ho);rw [hd] at hd';exact nomatch hd'
 exact ⟨o',items,n,(hs.2 a hne).trans ho',hc,hd',hi⟩
theorem Jnh {M:Model} {ks:List JP} {a:Addr} {Q:Bool→Shared→Prop} (hk:TK prog w s.heap ks a) (h:∀ b,Q b s):wpAny (model prog w) A (hashByValue 8 (.ref a)) Q E s:=by
 have hT:=hk.typeIs;obtain ⟨o,items,n,ho,hc,hd,hi⟩:=hk;unfold hashByValue;refine wpAny_bind (wpAny_specialOf hT F.slot_tuple_hash.lookup ?_);dsimp only;refine wpAny_bind (wpAny_seqItems ho hd ?_);refine wpAny_bind ?_;show wpAny _ _ (forIn items _ _) _ _ s;rw [← Array.forIn_toList];refine wpAny_forIn_list _ (fun rest r s'=>r=(none,())∧s'=s∧∀ v∈rest,carriedByValue v=true) _ ?_ ?_ _ _ ⟨rfl,rfl,hi.byValue⟩
 ·rintro v rest r s' ⟨hr,rfl,hall⟩;have hb:∃ b,hashByValue 7 v=pure b:=by
   have hv:=hall v List.mem_cons_self;cases v <;> first | exact ⟨_,rfl⟩ | (simp [carriedByValue] at hv; done)
  obtain ⟨b,eb⟩:=hb;rw [eb];refine wpAny_bind (wpAny_pure ?_);cases b with
  | true =>
   rw [if_neg (by decide)];exact wpAny_pure ⟨rfl,rfl,fun u hu'=>hall u (List.mem_cons_of_mem _ hu')⟩
  | false =>
   rw [if_pos (by decide)];exact wpAny_pure (wpAny_pure (h _))
 ·rintro r s' ⟨hr,rfl,_⟩;subst hr;exact wpAny_pure (h _)
theorem Jlc {S x:Addr} {ks:List JP} {o:Obj} {es es1:Array (Int×Value)} {ep:Nat} {t t1:SetTable} {D:List (List JP)} {Q:Bool→Shared→Prop} (ho:s.heap.get? S=some o) (hex:o.ExactSet) (hd:o.data=.set es ep t)
  (SA:Jc9 prog w s.heap S es t D) (hk:TK prog w s.heap ks x) (hn:D.length < 64) (T1:Tab t1 es1) (hsz:es1.size=es.size + 1) (hmk:t1.mask=t.mask) (hmem:∀ e,e∈es1.toList↔e∈es.toList∨e=(hsh prog w ks,.ref x))
  (h:∀ b h' es' ep' t' o',Heap.SameBut S s.heap h'→h'.get? S=some o'→o'.ExactSet→o'.data=.set es' ep' t'→Jc9 prog w h' S es' t' (D ++ [ks])→Q b { s with heap:=h' }) :
  wpAny (model prog w) A (do
   storeSet S es1 t1
   if (!false && t1.tooFull)=true then do
    setRelay S (grown (es.size + 1))
    pure true
   else pure true) Q E s:=by
 have hes:=SA.siz;have bound:∀ n,n≤1000→n≤sizeLine:=fun n hn=>by rw [sizeLine_eq]; omega
 have mk:∀ {h':Heap} {es':Array (Int×Value)} {t':SetTable},Heap.SameBut S s.heap h'→Tab t' es'→es'.size * 5 < t'.mask * 3→es'.size=es1.size→(∀ e,e∈es'.toList↔e∈es1.toList)→Jc9 prog w h' S es' t' (D ++ [ks]):=fun {h' es' t'} hs T f z m=>by
  refine ⟨T,f,fun e he=>?_,fun k2 hk2=>?_,by rw [z,hsz,hes,List.length_append]; rfl⟩
  ·rcases (hmem e).mp ((m e).mp he) with q | q
   ·obtain ⟨k2,a1,a,a2,a3⟩:=SA.els e q;exact ⟨k2,List.mem_append_left _ a1,a,a2,a3.stay ho hd hs⟩
   ·exact ⟨ks,List.mem_append_right _ (List.mem_singleton.mpr rfl),x,q,hk.stay ho hd hs⟩
  ·rcases List.mem_append.mp hk2 with q | q
   ·obtain ⟨a,a1,a2⟩:=SA.all k2 q;exact ⟨a,(m _).mpr ((hmem _).mpr (.inl a1)),a2.stay ho hd hs⟩
   ·rw [List.mem_singleton.mp q];exact ⟨x,(m _).mpr ((hmem _).mpr (.inr rfl)),hk.stay ho hd hs⟩
 refine wpAny_bind (wpAny_storeSet_of ho hd ?_ (bound _ (by omega)));have hg:∀ {hh:Heap} {o:Obj} {es es':Array (Int×Value)} {ep:Nat} {t t':SetTable},hh.get? S=some o→o.data=.set es ep t→(hh.update S (Obj.putSet es' t')).get? S=some { o with data:=.set es' (ep + 1) t' }:=fun {hh o es es' ep t t'} ho hd=>by
  have z:=Heap.get?_update_self (Obj.putSet es' t') ho (by rw [putSet_of es' t' hd]; rfl);rw [putSet_of es' t' hd] at z;exact z
 have ho1:=hg (es':=es1) (t':=t1) ho hd;have hs1:=Heap.SameBut.update s.heap S (Obj.putSet es1 t1);have hfill:t1.fill=es1.size:=by unfold SetTable.fill; rw [T1.dum,T1.siz]; rfl
 by_cases hf:t1.tooFull=true
 ·rw [if_pos (by rw [hf]; rfl)];have hfull:=SA.full;unfold SetTable.tooFull at hf;rw [hfill,decide_eq_true_eq,hmk] at hf;obtain ⟨m',hm',hw,hcap⟩:∃ m',Msk m'∧sizeAbove (grown (es.size + 1))=m' + 1∧es1.size * 5 < m' * 3:=by
   rcases SA.tab.msk with e | e | e
   ·refine ⟨31,.inr (.inl rfl),?_,by omega⟩;have e4:es.size=4:=by omega
    rw [e4]; decide
   ·refine ⟨127,.inr (.inr rfl),?_,by omega⟩;have e4:es.size=18:=by omega
    rw [e4]; decide
   ·omega
  have hm127:m'≤127:=by rcases hm' with e | e | e <;> omega
  obtain ⟨t2,order,e2,T2,z2,m2,_⟩:=JoA hm' t1.finger (t1.movedTo m') t1.led t1.plain es1 (by omega);have erel:t1.relaid (es1.map (·.1)) (grown (es.size + 1))=some (t2,order):=by
   unfold SetTable.relaid;rw [hw];exact e2
  unfold setRelay;refine wpAny_bind (wpAny_bind (wpAny_setState_of (s:={ s with heap:=s.heap.update S (Obj.putSet es1 t1) }) ho1 rfl T1.fits ?_));dsimp only;rw [if_neg (by rw [hw]; exact Nat.not_lt.mpr (bound _ (by omega)))];refine wpAny_bind ?_;rw [erel];show wpAny _ _ (if ((order.filterMap (es1[·]?)).size != es1.size)=true then _ else _) _ _ _;rw [if_neg (by rw [z2]; simp)];refine wpAny_pure ?_;dsimp only;refine wpAny_storeSet_of (s:={ s with heap:=s.heap.update S (Obj.putSet es1 t1) }) ho1 rfl ?_ (bound _ (by omega));have hs2:=hs1.trans (Heap.SameBut.update (s.heap.update S (Obj.putSet es1 t1)) S (Obj.putSet (order.filterMap (es1[·]?)) t2));exact wpAny_pure (h _ _ _ _ _ _ hs2 (hg ho1 rfl) hex rfl (mk hs2 T2 (by rw [z2]; have:=T2.cap; omega) z2 m2))
 ·rw [if_neg (by simpa using hf)];refine wpAny_pure (h _ _ es1 _ t1 _ hs1 ho1 hex rfl (mk hs1 T1 ?_ rfl fun _=>Iff.rfl));unfold SetTable.tooFull at hf;rw [hfill,decide_eq_true_eq] at hf;omega
theorem Jno {S x:Addr} {ks:List JP} {o:Obj} {es:Array (Int×Value)} {ep:Nat} {t:SetTable} {D:List (List JP)} {Q:Bool→Shared→Prop} (hu:A.units < cLine) (ho:s.heap.get? S=some o) (hex:o.ExactSet) (hd:o.data=.set es ep t)
  (SA:Jc9 prog w s.heap S es t D) (hk:TK prog w s.heap ks x) (hn:D.length < 64)
  (h:∀ b h' tk es' ep' t' o',Heap.SameBut S s.heap h'→h'.get? S=some o'→o'.ExactSet→o'.data=.set es' ep' t'→Jc9 prog w h' S es' t' (dd D ks)→Q b { s with heap:=h',toks:=tk }) :
  wpAny (model prog w) A (setAdd S (.ref x)) Q E s:=by
 unfold setAdd;refine wpAny_holding (wpAny_bind (wpAny_pyHash_tuple hu hk ?_));unfold setAddHashed setAddHashedIn;refine wpAny_holding (wpAny_bind (wpAny_setState_of ho hd SA.tab.fits ?_));dsimp only;have hbs:byScan (.ref x) es=false:=rfl;rw [hbs,if_neg (by decide)];obtain ⟨k,hk1,hF⟩:=SA.tab.first (hsh prog w ks);have hm:t.mask≤127:=by rcases SA.tab.msk with e | e | e <;> omega
 have SA2:Jc9 prog w ({ s with toks:=s.toks + (ks.length + 1) }:Shared).heap S es t D:=SA;refine wpAny_bind (Jjn (s:={ s with toks:=s.toks + (ks.length + 1) }) hu ho hd SA2 hk k 100000 none (by unfold turns at hk1; omega) hk1 hF rfl ?_ ?_)
 ·rintro ⟨n,i,a,g1,g2,g3,g4⟩;dsimp only;have hin:ks∈D:=by
   obtain ⟨k2,hk2,b,e,hb⟩:=SA.els _ (List.mem_of_getElem? g3);have e6:a=b:=Value.ref.inj (congrArg (fun z=>z.2) e);subst e6;rw [IsTupleKey.inj g4 hb];exact hk2
  have e:dd D ks=D:=by unfold dd; exact if_pos hin
  exact wpAny_pure (h _ s.heap _ es ep t o (Heap.SameBut.refl S s.heap) ho hex hd (by rw [e]; exact SA))
 ·intro hno;dsimp only;have hnin:ks∉D:=fun hin=>by
   obtain ⟨a,ha,hka⟩:=SA.all ks hin;obtain ⟨i,hi⟩:=List.mem_iff_getElem?.mp ha;obtain ⟨n,hn1,hn2⟩:=SA.tab.met hF hi rfl;exact hno n i a hn1 hn2 hi hka
  have edd:dd D ks=D ++ [ks]:=by unfold dd; exact if_neg hnin
  refine wpAny_bind (wpAny_setState_of ho hd SA.tab.fits ?_);dsimp only;have hc:es.size + 1≤t.mask:=by
   have:=SA.full;rcases SA.tab.msk with e | e | e <;> omega
  have hmem:∀ (p:Nat) e,e∈(insertAt es p (hsh prog w ks,Value.ref x)).toList↔e∈es.toList∨e=(hsh prog w ks,.ref x):=fun p e=>by
   rw [(SetTable.insertAt_perm es p _).mem_iff,Array.toList_push,List.mem_append,List.mem_singleton]
  have hsz:∀ p:Nat,(insertAt es p (hsh prog w ks,Value.ref x)).size=es.size + 1:=fun p=>by
   rw [← Array.length_toList,(SetTable.insertAt_perm es p _).length_eq,Array.length_toList,Array.size_push]
  have fin:=fun (b:Bool)=>Jlc (prog:=prog) (w:=w) (A:=A) (E:=E) (s:={ s with toks:=s.toks + (ks.length + 1) }) (Q:=Q) ho hex hd SA2 hk hn (SA.tab.put (x:=.ref x) b hF hc) (hsz _) rfl (hmem _) fun b h' es' ep' t' o' a1 a2 a3 a4 a5=>h b h' _ es' ep' t' o' a1 a2 a3 a4 (by rw [edd]; exact a5)
  have ep2:=JnN SA.tab (J4 t.mask k (Ye t.mask (hsh prog w ks))).j;have ep3:t.put (J4 t.mask k ((none:Option Probe).getD (t.probeStart (hsh prog w ks)))).j=_:=ep2;rw [ep3];dsimp only;by_cases hp:t.plain=true
  ·rw [if_pos hp];refine wpAny_bind (Jnh (M:=model prog w) hk fun b=>?_);cases b with
   | true=>exact fin t.plain
   | false=>exact fin false
  ·rw [if_neg hp];refine wpAny_bind (wpAny_pure ?_);exact fin t.plain
end
end HS
set_option maxHeartbeats 3200000
namespace HS
open PySem PySem.SetTable L2
section
variable {prog:Program} {w:World} {A:Around} {E:Value→Shared→Prop} {s:Shared} {R:Result→Shared→Prop}
theorem Jlu {S I l:Addr} {items:Array Value} (hh:A.in1.handled=none) (hlI:l≠I) (hSI:S≠I) (hSl:S≠l) (J:Nat→Heap→Prop)
  (hJ:∀ i j h h',J i h→h.IsListIter I l j→(∀ b o,b≠I→h.get? b=some o→h'.get? b=some o)→J i h')
  (hadd:∀ i v (s':Shared) (E':Value→Shared→Prop) (Q:Bool→Shared→Prop),items[i]?=some v→J i s'.heap→(∀ b h' tk,Heap.SameBut S s'.heap h'→J (i + 1) h'→Q b { s' with heap:=h',toks:=tk })→wpAny (model prog w) A.in1 (setAdd S v) Q E' s') :
  ∀ (k i:Nat) (h:Heap) (tk:Nat),items.size - i=k→i≤items.size→h.IsListIter I l i→h.IsList l items→J i h →
   (∀ h' tk',(∀ b o,b≠S→b≠I→h.get? b=some o→h'.get? b=some o)→J items.size h'→R (.ok (.ret .none)) { s with heap:=h',toks:=tk' }) →
   codeAny (model prog w) A (.builtin "set.update.loop" ⟨[.ref S,.ref I],[]⟩) R { s with heap:=h,toks:=tk }:=by
 have W:=Walks.list (prog:=prog) (w:=w) hh I l hlI items;intro k
 induction k with
 | zero =>
  intro i h tk e0 e1 it li j hR;obtain rfl:i=items.size:=by omega
  refine codeAny_builtin PyProof.Rows.F.entry_set_update_loop (by
   rw [Around.under_plainId PyProof.Rows.F.plain_set_update_loop _];show wpAny _ A.in1 (pyNext (.ref I) >>= _) _ _ _;refine wpAny_bind (W.done _ _ _ ⟨it,li⟩ fun h' tk' kk=>?_);exact wpAny_pure (hR h' tk' (fun b o _ hb e=>kk b o (by simpa using hb) e) (hJ _ _ _ _ j it fun b o hb e=>kk b o (by simpa using hb) e)))
 | succ k ih =>
  intro i h tk e0 e1 it li j hR;have hlt:i < items.size:=by omega
  refine codeAny_builtin PyProof.Rows.F.entry_set_update_loop (by
   rw [Around.under_plainId PyProof.Rows.F.plain_set_update_loop _];show wpAny _ A.in1 (pyNext (.ref I) >>= _) _ _ _;refine wpAny_bind (W.item i _ _ _ hlt ⟨it,li⟩ fun v h1 tk1 hv st1 kk=>?_);have j1:J i h1:=hJ _ _ _ _ j it fun b o hb e=>kk b o (by simpa using hb) e
   show wpAny _ A.in1 (holding [v] (setAdd S v) >>= _) _ _ _;refine wpAny_bind (wpAny_holding (hadd i v { s with heap:=h1,toks:=tk1 } _ _ hv j1 fun b h2 tk2 sb j2=>?_));have it2:h2.IsListIter I l (i + 1):=st1.1.at fun o e=>(sb.2 I (Ne.symm hSI)).trans e
   have li2:h2.IsList l items:=st1.2.at fun o e=>(sb.2 l (Ne.symm hSl)).trans e
   refine wpAny_pure ⟨plainId_quiet PyProof.Rows.F.plain_set_update_loop _,ih (i + 1) h2 tk2 (by omega) hlt it2 li2 j2 fun h3 tk3 keep j3=>hR h3 tk3 (fun b o hb hbI e=>keep b o hb hbI ((sb.2 b hb).trans (kk b o (by simpa using hbI) e))) j3⟩)
theorem JeY {l:Addr} {items:Array Value} {Q:Value→Shared→Prop} (hh:A.handled=none) (hl:s.heap.IsList l items) (J:Addr→Nat→Heap→Prop)
  (h0:∀ (led:Bool) (h':Heap),h'.get? s.heap.objs.size=some { cls:=.type "set",dict:=none,data:=.set #[] 0 (.fresh 0 0 led) }→(∀ b o,s.heap.get? b=some o→h'.get? b=some o)→J s.heap.objs.size 0 h')
  (hJ:∀ S I i j h h',J S i h→h.IsListIter I l j→(∀ b o,b≠I→h.get? b=some o→h'.get? b=some o)→J S i h')
  (hadd:∀ S i v (A':Around) (s':Shared) (E':Value→Shared→Prop) (Q':Bool→Shared→Prop),A'.units≤A.units + 4→items[i]?=some v→J S i s'.heap→(∀ b h' tk,Heap.SameBut S s'.heap h'→J S (i + 1) h'→Q' b { s' with heap:=h',toks:=tk })→wpAny (model prog w) A' (setAdd S v) Q' E' s')
  (h:∀ (h':Heap) (tk:Nat),J s.heap.objs.size items.size h'→(∀ b o,b < s.heap.objs.size→s.heap.get? b=some o→h'.get? b=some o)→Q (.ref s.heap.objs.size) { s with heap:=h',toks:=tk }) :
  wpAny (model prog w) A (call (.type "set") [.ref l]) Q E s:=by
 obtain ⟨c,tl,hmro⟩:=F.called_set.mro;have made:=F.called_set.made;have sub:=F.called_set.sub;refine wpAny_call (codeAny_of_tree (wpAny_pure ⟨Code.quiet_builtin _ (by decide +kernel),codeAny_builtin F.entry_type_call ?_⟩));rw [Around.under_plain (weight_type_call_type "set" [.ref l] []) rfl];have n1:=F.called_set.notType;have n2:=F.called_set.canCreate;have n3:=F.typeCall_set_1 (.ref l)
 repeat (any_goals (first | assumption | wp_step))
 let fresh (led:Bool):Obj:={ cls:=.type "set",dict:=none,data:=.set #[] 0 (.fresh 0 0 led) }
 refine codeAny_mono (code_set_new_1 (.ref l) (E:=E) (Q₁:=fun obj s1=>∃ led,obj=.ref s.heap.objs.size∧s1={ s with heap:=s.heap.push (fresh led) }) fun led=>⟨led,rfl,rfl⟩) fun r s1 hr=>?_
 rcases r with e | f
 ·exact hr
 cases f with
 | ret obj =>
  obtain ⟨led,rfl,rfl⟩:=hr;have gS:(s.heap.push (fresh led)).get? s.heap.objs.size=some (fresh led):=Heap.get?_push_size _ rfl;have tS:Shared.TypeIs { s with heap:=s.heap.push (fresh led) } (.ref s.heap.objs.size) "set":=⟨_,gS,rfl⟩
  have i1:=F.called_set.init.lookup;have i2:=F.called_set.init.bind (.ref s.heap.objs.size)
  repeat (any_goals (first | assumption | wp_step))
  refine codeAny_mono (codeAny_call_builtin (R:=wants (fun r s2=>r=.none∧∃ h' tk,s2={ s with heap:=h',toks:=tk }∧J s.heap.objs.size items.size h'∧∀ b o,b < s.heap.objs.size→s.heap.get? b=some o→h'.get? b=some o) E)
   F.called_set.init.plain F.entry_set_init (check_set_init_1 tS ?_)) fun r2 s2 hr2=>?_
  ·obtain ⟨ol,gl,cl,nl,dl⟩:=hl;obtain ⟨k1,k2,k3,k4⟩:=ol;simp only at cl dl;subst cl dl;have gl1:(s.heap.push (fresh led)).get? l=some { cls:=.type "list",dict:=k2,data:=.seq items nl,slots:=k4 }:=Heap.get?_push_of_some _ gl;have z1:=F.sub_list_set;have z2:=F.sub_list_frozenset;have z3:(Value.type "list" == Value.type "dict")=false:=by decide
   have ll:(s.heap.push (fresh led)).IsList l items:=⟨_,gl1,rfl,nl,rfl⟩
   have lS:l < s.heap.objs.size:=Heap.lt_size gl;unfold Builtin.«set.__init__» noKeywords Builtin.Frozenset.updateFrom;generalize pe:pyIter=PI
   wp_walk
   subst pe;refine wpAny_pyIter_list ll (wpAny_bind (wpAny_runValue ?_));have szp:(s.heap.push (fresh led)).objs.size=s.heap.objs.size + 1:=Heap.size_push ..;refine Jlu (s:={ s with heap:=s.heap.push (fresh led) }) (I:=(s.heap.push (fresh led)).objs.size) (l:=l) (items:=items) (by simp [hh]) (Nat.ne_of_lt (by rw [szp]; exact Nat.lt_succ_of_lt lS)) (Nat.ne_of_lt (by rw [szp]; exact Nat.lt_succ_self _)) (Nat.ne_of_gt lS) (J s.heap.objs.size) (fun i j h h'=>hJ _ _ i j h h')
    (fun i v s' E' Q' hv j q=>hadd _ i v _ s' E' Q' (by show A.units + 1 + 1 + 1≤A.units + 4; omega) hv j q) (items.size - 0) 0 _ _ rfl (Nat.zero_le _) ⟨_,Heap.get?_push_size _ rfl,rfl,rfl⟩ (ll.push _) ?_ ?_
   ·exact h0 led _ (Heap.get?_push_of_some _ gS) fun b o e=>Heap.get?_push_of_some _ (Heap.get?_push_of_some _ e)
   ·intro h' tk' keep j;refine wpAny_pure (wpAny_pure ⟨rfl,h',tk',rfl,j,fun b o hb e=>keep b o (Nat.ne_of_lt hb) (Nat.ne_of_lt (by rw [szp]; exact Nat.lt_succ_of_lt hb)) (Heap.get?_push_of_some _ (Heap.get?_push_of_some _ e))⟩)
  ·rcases r2 with e | f2
   ·exact hr2
   cases f2 with
   | ret r =>
    obtain ⟨rfl,h',tk,rfl,j,keep⟩:=hr2
    repeat (any_goals (first | assumption | wp_step))
    exact h _ _ j keep
   | _=>exact hr2.elim
 | _=>exact hr.elim
end
end HS
namespace L2
open PySem PySem.Spec PyProof.Rows HS
open Classical in
noncomputable def dg {α:Type} (D:List α) (x:α):List α:=if x∈D then D else D ++ [x]
theorem JjL {α:Type} {D:List α} {x:α} (h:x∈D):dg D x=D:=by unfold dg; exact if_pos h
theorem JfS {α:Type} {D:List α} {x:α} (h:¬ x∈D):dg D x=D ++ [x]:=by unfold dg; exact if_neg h
noncomputable def Jen {α:Type} (l:List α):List α:=l.foldl dg []
theorem JeK {α:Type}:∀ (l D:List α),(l.foldl dg D).length≤D.length + l.length
 | [],D=>Nat.le_refl _
 | x :: l,D=>by
  rw [List.foldl_cons];have z:=JeK l (dg D x);by_cases h:x∈D
  ·rw [JjL h] at z ⊢; simp only [List.length_cons]; omega
  ·rw [JfS h] at z ⊢; rw [List.length_append] at z; simp only [List.length_cons,List.length_nil] at z ⊢; omega
theorem JiZ {α:Type} (l:List α):(Jen l).length≤l.length:=by have:=JeK l []; simpa [Jen] using this
theorem JfP {α:Type}:∀ (l D:List α),(D ++ l).Nodup→l.foldl dg D=D ++ l
 | [],D,_=>by simp
 | x :: l,D,h=>by
  have hx:¬ x∈D:=fun q=>by
   rw [List.nodup_append] at h;exact h.2.2 x q x (List.mem_cons_self ..) rfl
  rw [List.foldl_cons,JfS hx,JfP l (D ++ [x]) (by simpa using h)];simp
theorem JfR {α:Type} {l:List α} (h:l.Nodup):(Jen l).length=l.length:=by unfold Jen; rw [JfP l [] (by simpa using h)]; simp
theorem Jek {α:Type} {l:List α} {i:Nat} {x:α} (h:l[i]?=some x):(l.take (i + 1)).foldl dg []=dg ((l.take i).foldl dg []) x:=by
 rw [List.take_succ,h];simp
def szO (a:Addr) (n:Nat):HO:=.ext fun h=>∃ o es ep t,h.get? a=some o∧o.ExactSet∧o.data=.set es ep t∧t.fits es.size=true∧es.size=n∧n≤1000
theorem JjZ {P:Program} {w:World} {H:Hp} {h:Heap} {a:Addr} {n:Nat} {o:Obj} {es:Array (Int×Value)} {ep:Nat} {t:SetTable} (h1:h.get? a=some o) (h2:o.ExactSet) (h3:o.data=.set es ep t) (h4:t.fits es.size=true) (h5:es.size=n) (h6:n≤1000) :
  J9 P w H h a (szO a n):=⟨⟨o,es,ep,t,h1,h2,h3,h4,h5,h6⟩,⟨o,h1⟩,fun g1 g2 ⟨o,es,ep,t,e1,r⟩ k=>⟨o,es,ep,t,k o e1,r⟩⟩
section
variable {X:Cx}
theorem JiI:Zb X (.builtin "len") (fun xs H Q=>∃ a n,xs=[.ref a]∧H a=some (szO a n)∧Q (.int n) H):=by
 intro pins s σ H xs us Q I r h;obtain ⟨a,n,rfl,hn,q⟩:=h;obtain ⟨u,rfl,ru⟩:=Jt.one r;cases ru;obtain ⟨⟨o,es,ep,t,e1,e2,e3,e4,rfl,e6⟩,_⟩:=(show J9 X.prog X.w H s.heap a (szO a n) from I.hok a _ hn)
 exact call_len_set e1 e2 e3 e4 (by omega) ⟨.int es.size,H,(I.tok _).tok _,⟨_,rfl⟩,q⟩
theorem Jcm:∀ {vs:List V} {us:List Value} {i:Nat} {x:V},Jt vs us→vs[i]?=some x→∃ u,us[i]?=some u∧JF x u
 | _,_,i,x,.nil,h=>by simp at h
 | _,_,0,x,.cons r t,h=>by
  cases h;exact ⟨_,rfl,r⟩
 | _,_,i + 1,x,.cons r t,h=>Jcm (i:=i) t (by simpa using h)
def JdA (K:PySem.W.Frag) (H:Hp) (vs:List V) (kss:List (List JP)):Prop:=vs.length=kss.length∧∀ (i:Nat) v ks,vs[i]?=some v→kss[i]?=some ks→∃ a,v=.ref a∧J0 K H a (ks.map kV)
theorem Jij {P:Program} {w:World}:∀ {ks:List JP} {us:List Value},Jt (ks.map kV) us→ItemsAre (J7 P w) ks us
 | [],_,r=>by cases r; exact .nil
 | k :: ks,_,r=>by
  cases r with
  | cons r rr=>exact .cons (Jhy r) (Jij rr)
theorem Jje {pins:List (Addr×Obj)} {σ:St} {H:Hp} {s:Shared} {a:Addr} {ks:List JP} (I:Jk X pins σ H s) (h:J0 X.K H a (ks.map kV)):TK X.prog X.w s.heap ks a:=by
 obtain ⟨its,r,⟨o,e,c,n,d⟩,_⟩:=I.tuple h;exact ⟨o,its.toArray,n,e,c,d,by simpa using Jij r⟩
theorem Jf5 {prog:Program} {w:World} {h h':Heap} {ks:List JP} {a:Addr} (hk:TK prog w h ks a) (k:∀ o,h.get? a=some o→(∃ its n,o.data=.seq its n)→h'.get? a=some o):TK prog w h' ks a:=by
 obtain ⟨o,its,n,e,c,d,i⟩:=hk;exact ⟨o,its,n,k o e ⟨its,n,d⟩,c,d,i⟩
def Jmx (K:PySem.W.Frag):List V→Hp→VK→Prop:=fun xs H Q=>∃ l vs kss,xs=[.ref l]∧Jq K H l vs∧JdA K H vs kss∧kss.length≤64∧∀ p,H p=none→Q (.ref p) (upd H p (szO p (Jen kss).length))
theorem JkT (hc:X.calm=true) (hu:X.A.units + 64 < cLine):Zb X (.type "set") (Jmx X.K):=by
 intro pins s σ H xs us Q I r h;obtain ⟨l,vs,kss,rfl,hl,⟨tl,tt⟩,hz,q⟩:=h;obtain ⟨u,rfl,ru⟩:=Jt.one r;cases ru;obtain ⟨its,rv,pl,_⟩:=I.list hl;have rlen:=rv.length;have at_:∀ (i:Nat) v,its.toArray[i]?=some v→∃ ks a,kss[i]?=some ks∧v=.ref a∧TK X.prog X.w s.heap ks a:=fun i v hv=>by
  have hi:i < its.length:=by
   have:=(Array.getElem?_eq_some_iff.mp hv).1;simpa using this
  obtain ⟨x,hx⟩:∃ x,vs[i]?=some x:=⟨vs[i],List.getElem?_eq_getElem (by omega)⟩
  obtain ⟨ks,hks⟩:∃ ks,kss[i]?=some ks:=⟨kss[i],List.getElem?_eq_getElem (by omega)⟩
  obtain ⟨a,rfl,ha⟩:=tt i x ks hx hks;obtain ⟨u,hu1,hu2⟩:=Jcm rv hx;have e:v=u:=by
   rw [List.getElem?_toArray] at hv;exact Option.some.inj (hv.symm.trans hu1)
  subst e;cases (show v=.ref a from hu2);exact ⟨ks,a,hks,rfl,Jje I ha⟩
 have hsz:its.toArray.size=kss.length:=by rw [List.size_toArray]; omega
 refine JeY (J:=fun S i h'=>(∀ b o,b < s.heap.objs.size→s.heap.get? b=some o→(∃ its n,o.data=.seq its n)→h'.get? b=some o)∧∃ o es ep t,h'.get? S=some o∧o.ExactSet∧o.data=.set es ep t∧Jc9 X.prog X.w h' S es t ((kss.take i).foldl dg []))
  (I.ok.hd hc) pl.isList ?_ ?_ ?_ ?_
 ·intro led h' g keep;refine ⟨fun b o _ e _=>keep b o e,_,#[],0,_,g,⟨rfl,rfl,rfl⟩,rfl,⟨.inl rfl,rfl,rfl,fun a b _ hb=>absurd hb (Nat.not_lt_zero _),fun j hj=>by simp [SetTable.fresh] at hj,Nat.zero_le _,fun z hz=>by simp [SetTable.fresh] at hz⟩,?_,fun e he=>by simp at he,fun ks hks=>?_,rfl⟩
  ·show 0 * 5 < 7 * 3
   decide
  ·rw [List.take_zero] at hks; exact nomatch hks
 ·rintro S Ia i j h1 h2 ⟨k1,o,es,ep,t,e1,e2,e3,SA⟩ ⟨oi,i1,i2,i3⟩ keep;have seq:∀ b o',h1.get? b=some o'→(∃ its n,o'.data=.seq its n)→h2.get? b=some o':=fun b o' e ⟨its,n,d⟩=>keep b o' (by
   rintro rfl;rw [i1] at e; cases e;rw [i3] at d; cases d) e
  refine ⟨fun b o' hb e d=>seq b o' (k1 b o' hb e d) d,o,es,ep,t,keep S o (by
   rintro rfl;rw [i1] at e1; cases e1;rw [i3] at e3; cases e3) e1,e2,e3,SA.tab,SA.full,fun e he=>?_,fun ks hks=>?_,SA.siz⟩
  ·obtain ⟨ks,a1,a,a2,a3⟩:=SA.els e he;exact ⟨ks,a1,a,a2,Jf5 a3 fun o' e' d=>seq _ _ e' d⟩
  ·obtain ⟨a,a1,a2⟩:=SA.all ks hks;exact ⟨a,a1,Jf5 a2 fun o' e' d=>seq _ _ e' d⟩
 ·rintro S i v A' s' E' Q' hA hv ⟨k1,o,es,ep,t,e1,e2,e3,SA⟩ hQ;obtain ⟨ks,a,hks,rfl,hk⟩:=at_ i v hv;have hk':TK X.prog X.w s'.heap ks a:=Jf5 hk fun o' e' d=>k1 a o' (Heap.lt_size e') e' d
  have hlt:((kss.take i).foldl dg []).length < 64:=by
   have z:=JeK (kss.take i) [];have z2:=(List.getElem?_eq_some_iff.mp hks).1;rw [List.length_take] at z;simp only [List.length_nil] at z;omega
  refine Jno (by omega) e1 e2 e3 SA hk' hlt fun b h' tk es' ep' t' o' sb g1 g2 g3 g4=>hQ b h' tk sb ⟨fun b' o2 hb e d=>?_,o',es',ep',t',g1,g2,g3,?_⟩
  ·have z:=k1 b' o2 hb e d;have hne:b'≠S:=by
    rintro rfl;rw [e1] at z; cases z;obtain ⟨its,n,d⟩:=d;rw [e3] at d; cases d
   exact (sb.2 b' hne).trans z
  ·rw [Jek hks];have e:dg ((kss.take i).foldl dg []) ks=dd ((kss.take i).foldl dg []) ks:=by unfold dg dd; split <;> rfl
   rw [e];exact g4
 ·rintro h' tk ⟨_,o,es,ep,t,e1,e2,e3,SA⟩ keep;rw [hsz,List.take_length] at SA;have hf:H s.heap.objs.size=none:=I.hok.fresh (Nat.le_refl _);refine ⟨.ref s.heap.objs.size,_,I.laid (fun b u e=>keep b u (Heap.lt_size e) e) (Nat.le_refl _) (JjZ e1 e2 e3 SA.tab.fits SA.siz ?_),rfl,q _ hf⟩;have:=JiZ kss;show (Jen kss).length≤1000;omega
def Jmy (K:PySem.W.Frag):List V→Hp→VK→Prop:=fun xs H Q=>∃ l ss,xs=[.ref l]∧Jq K H l (ss.map V.str)∧ss.length≤64∧∀ p,H p=none→Q (.ref p) (upd H p (szO p (Jen ss).length))
theorem JkU (hc:X.calm=true):Zb X (.type "set") (Jmy X.K):=by
 intro pins s σ H xs us Q I r h;obtain ⟨l,ss,rfl,hl,hz,q⟩:=h;obtain ⟨u,rfl,ru⟩:=Jt.one r;cases ru;obtain ⟨its,rv,pl,_⟩:=I.list hl;have rlen:=rv.length;rw [List.length_map] at rlen;have at_:∀ (i:Nat) v,its.toArray[i]?=some v→∃ x t,ss[i]?=some x∧v=.str x t:=fun i v hv=>by
  have hi:i < its.length:=by
   have:=(Array.getElem?_eq_some_iff.mp hv).1;simpa using this
  obtain ⟨x,hx⟩:∃ x,ss[i]?=some x:=⟨ss[i],List.getElem?_eq_getElem (by omega)⟩
  obtain ⟨u,hu1,hu2⟩:=Jcm (i:=i) (x:=.str x) rv (by rw [List.getElem?_map,hx]; rfl);have e:v=u:=by
   rw [List.getElem?_toArray] at hv;exact Option.some.inj (hv.symm.trans hu1)
  subst e;obtain ⟨t,e⟩:=hu2;exact ⟨x,t,hx,e⟩
 have hsz:its.toArray.size=ss.length:=by rw [List.size_toArray]; omega
 refine JeY (J:=fun S i h'=>∃ f,h'.SetOf (J7 X.prog X.w) S f ((ss.take i).foldl dg []).length∧∀ x:Str,f (.inr x)=true↔x∈(ss.take i).foldl dg []) (I.ok.hd hc) pl.isList ?_ ?_ ?_ ?_
 ·intro led h' g keep;refine ⟨fun _=>false,⟨_,#[],0,_,g,⟨rfl,rfl,rfl⟩,rfl,fun e he=>by simp at he,fun k=>by simp,by decide,rfl,rfl⟩,fun x=>?_⟩;rw [List.take_zero];simp
 ·rintro S Ia i j h1 h2 ⟨f,⟨o,es,ep,t,e1,e2,e3,r⟩,hf⟩ ⟨oi,i1,i2,i3⟩ keep;refine ⟨f,⟨o,es,ep,t,keep S o ?_ e1,e2,e3,r⟩,hf⟩;rintro rfl;rw [i1] at e1; cases e1;rw [i3] at e3; cases e3
 ·rintro S i v A' s' E' Q' hA hv ⟨f,hS,hf⟩ hQ;obtain ⟨x,t,hx,rfl⟩:=at_ i v hv;have hlt:((ss.take i).foldl dg []).length + 1 < scanBound:=by
   have z:=JeK (ss.take i) [];have z2:=(List.getElem?_eq_some_iff.mp hx).1;rw [List.length_take] at z;simp only [List.length_nil] at z;show _ + 1 < 4096;omega
  unfold setAdd;refine wpAny_holding (wpAny_bind ((J7 X.prog X.w).pyHash (JaQ X.prog X.w x t) ?_));refine wpAny_setAddHashed_of (knd:=J7 X.prog X.w) (s:={ s' with toks:=s'.toks + 1 }) (JaQ X.prog X.w x t) rfl hS hlt fun h' sb hS2=>?_
  refine hQ _ h' _ sb ⟨fun k'=>f k' || decide (k'=.inr x),?_,?_⟩
  ·rw [Jek hx];by_cases hin:x∈(ss.take i).foldl dg []
   ·rw [JjL hin];have e:=(hf x).mpr hin;rw [if_pos e] at hS2;exact hS2
   ·rw [JfS hin];have e:¬ f (.inr x)=true:=fun w=>hin ((hf x).mp w)
    rw [if_neg e] at hS2;rw [List.length_append];exact hS2
  ·intro y;rw [Jek hx,Bool.or_eq_true,hf y,decide_eq_true_eq];by_cases hin:x∈(ss.take i).foldl dg []
   ·rw [JjL hin];exact ⟨fun z=>z.elim id fun e=>(Sum.inr.inj e) ▸ hin,.inl⟩
   ·rw [JfS hin,List.mem_append,List.mem_singleton];exact ⟨fun z=>z.imp id fun e=>Sum.inr.inj e,fun z=>z.imp id fun e=>by rw [e]⟩
 ·rintro h' tk ⟨f,⟨o,es,ep,t,e1,e2,e3,_,_,_,e7,e8⟩,hf⟩ keep;rw [hsz,List.take_length] at e8;have hfr:H s.heap.objs.size=none:=I.hok.fresh (Nat.le_refl _);refine ⟨.ref s.heap.objs.size,_,I.laid (fun b u e=>keep b u (Heap.lt_size e) e) (Nat.le_refl _) (JjZ e1 e2 e3 e7 e8 ?_),rfl,q _ hfr⟩;have:=JiZ ss;show (Jen ss).length≤1000;omega
def JoC (K:PySem.W.Frag):List V→Hp→VK→Prop:=fun xs H Q=>Jmy K xs H Q∨Jmx K xs H Q
theorem JkV (hc:X.calm=true) (hu:X.A.units + 64 < cLine):Zb X (.type "set") (JoC X.K):=by
 intro pins s σ H xs us Q I r h;rcases h with h | h
 ·exact JkU hc pins s σ H xs us Q I r h
 ·exact JkT hc hu pins s σ H xs us Q I r h
end
end L2
namespace KS
open PySem PySem.W PyProof.Rows
section
variable {O:KeyOrd} {key:Nat→O.α} {n:Nat}
def Ok (O:KeyOrd) (key:Nat→O.α) (n:Nat) {α:Type} (Post:α→Prop):KasT α→Prop
 | .ret a=>Post a
 | .ask i j k=>i < n∧j < n∧Ok O key n Post (k (O.blt (key i) (key j)))
theorem Ok.bind {α β:Type} {Post:β→Prop} {f:α→KasT β}:∀ {t:KasT α},Ok O key n (fun a=>Ok O key n Post (f a)) t→Ok O key n Post (t.bind f)
 | .ret _,h=>h
 | .ask _ _ _,h=>⟨h.1,h.2.1,Ok.bind h.2.2⟩
theorem Ok.wp {α:Type} {Post:α→Prop} {cmp:Nat→Nat→(Bool→Shared→Prop)→Shared→Prop} {Q:α→Shared→Prop} {s:Shared} (hc:∀ i j C,i < n→j < n→C (O.blt (key i) (key j)) s→cmp i j C s) (hq:∀ a,Post a→Q a s):∀ {t:KasT α},Ok O key n Post t→t.kasWp cmp Q s
 | .ret _,h=>hq _ h
 | .ask i j k,h=>hc i j _ h.1 h.2.1 (Ok.wp hc hq h.2.2)
def Pm (n:Nat) (p:Array Nat):Prop:=p.Perm (List.toArray (List.range n))
theorem Pm.size {p:Array Nat} (h:Pm n p):p.size=n:=by rw [Array.Perm.size_eq h]; simp
theorem Pm.lt {p:Array Nat} (h:Pm n p) (h0:0 < n) (i:Nat):p.getD i 0 < n:=by
 by_cases hi:i < p.size
 ·have hm:p[i]∈p:=Array.getElem_mem hi;have hm2:p[i]∈List.toArray (List.range n):=h.mem_iff.mp hm;rw [List.mem_toArray,List.mem_range] at hm2;simpa [Array.getD,hi] using hm2
 ·simpa [Array.getD,hi] using h0
def Kp (key:Nat→O.α) (p:Array Nat) (i:Nat):O.α:=key (p.getD i 0)
def Srt (O:KeyOrd) (key:Nat→O.α) (p:Array Nat) (m:Nat):Prop:=∀ i j,i≤j→j < m→O.kle (Kp key p i) (Kp key p j)
def Fal (O:KeyOrd) (key:Nat→O.α) (p:Array Nat) (m:Nat):Prop:=∀ i j,i≤j→j < m→O.kle (Kp key p j) (Kp key p i)
theorem Jdw {p q:Array Nat} {i j:Nat} (h:p[i]?=q[j]?):p.getD i 0=q.getD j 0:=by rw [Array.getD_eq_getD_getElem?,Array.getD_eq_getD_getElem?,h]
theorem JfA {p:Array Nat} {i j:Nat} (hj:j≤p.size) (k:Nat):Kp key (kas_rev p i j) k=if i≤k∧k < j then Kp key p (i + j - 1 - k) else Kp key p k:=by
 have e:=getElem?_mirror_all (i:=i) hj k;unfold Kp kas_rev;split
 ·rename_i h;rw [if_pos h] at e;rw [Jdw e]
 ·rename_i h;rw [if_neg h] at e;rw [Jdw e]
theorem Jd1 {p:Array Nat} (i j:Nat) (h:Pm n p):Pm n (kas_rev p i j):=(mirror_perm p i j _).trans h
theorem Jod {p:Array Nat} {s d:Nat} (hs:s < p.size) (hd:d≤s) (k:Nat):Kp key (bubble p s d) k=if k=s - d then Kp key p s else if s - d < k∧k≤s then Kp key p (k - 1) else Kp key p k:=by
 have e:=getElem?_bubble hs d hd k;unfold Kp;by_cases h1:k=s - d
 ·rw [if_pos h1] at e ⊢; rw [Jdw e]
 ·rw [if_neg h1] at e ⊢;by_cases h2:s - d < k∧k≤s
  ·rw [if_pos h2] at e ⊢; rw [Jdw e]
  ·rw [if_neg h2] at e ⊢; rw [Jdw e]
theorem nlt {a b:O.α} (h:¬ O.blt a b=true):O.kle b a:=by
 show O.blt a b=false;simpa using h
theorem Jiv {Post:Nat→Prop} {p:Array Nat} (hp:Pm n p) (h0:0 < n):∀ (f a:Nat),1≤a→Srt O key p a→(∀ m,a≤m→m≤a + f→Srt O key p m→(m < a + f→O.klt (Kp key p m) (Kp key p (m - 1)))→Post m)→Ok O key n Post (kas_asc p f a)
 | 0,a,h1,hs,hq=>hq a (Nat.le_refl _) (Nat.le_refl _) hs fun h=>absurd h (Nat.lt_irrefl _)
 | f + 1,a,h1,hs,hq=>by
  refine ⟨hp.lt h0 _,hp.lt h0 _,?_⟩;dsimp only;by_cases hc:O.blt (key (p.getD a 0)) (key (p.getD (a - 1) 0))=true
  ·rw [if_pos hc];exact hq a (Nat.le_refl _) (by omega) hs fun _=>hc
  ·rw [if_neg hc];have hle:O.kle (Kp key p (a - 1)) (Kp key p a):=nlt hc;refine Jiv hp h0 f (a + 1) (by omega) (fun i j hij hj=>?_) fun m g1 g2 g3 g4=>hq m (by omega) (by omega) g3 fun h=>g4 (by omega)
   by_cases hja:j < a
   ·exact hs i j hij hja
   ·obtain rfl:j=a:=by omega
    by_cases hia:i=j
    ·subst hia; exact O.kle_refl _
    ·exact O.kle_trans (hs i (j - 1) (by omega) (by omega)) hle
def Dsc (O:KeyOrd) (key:Nat→O.α) (p:Array Nat) (a q:Nat):Prop:=q + 1≤a∧Fal O key p a∧∀ i,a - (q + 1)≤i→i < a→O.kle (Kp key p i) (Kp key p (a - 1))
theorem Dsc.rev {p:Array Nat} {a q:Nat} (ha:a≤p.size) (h:Dsc O key p a q):(∀ k,Kp key (kas_rev p (a - (q + 1)) a) k=Kp key p k):=by
 obtain ⟨h1,h2,h3⟩:=h;have same:∀ i,a - (q + 1)≤i→i < a→Kp key p i=Kp key p (a - 1):=fun i g1 g2=>O.kle_antisymm (h3 i g1 g2) (h2 i (a - 1) (by omega) (by omega))
 intro k;rw [JfA ha];split
 ·rename_i h;rw [same _ (by omega) (by omega),same k h.1 h.2]
 ·rfl
theorem Dsc.congr {p p':Array Nat} {a q:Nat} (h:Dsc O key p a q) (e:∀ k,Kp key p' k=Kp key p k):Dsc O key p' a q :=
 ⟨h.1,fun i j hij hj=>by rw [e,e]; exact h.2.1 i j hij hj,fun i g1 g2=>by rw [e,e]; exact h.2.2 i g1 g2⟩
theorem Dsc.next {p:Array Nat} {a q:Nat} (h:Dsc O key p a q) (hlt:O.klt (Kp key p a) (Kp key p (a - 1))):Dsc O key p (a + 1) 0:=by
 refine ⟨by omega,fun i j hij hj=>?_,fun i g1 g2=>?_⟩
 ·by_cases hja:j < a
  ·exact h.2.1 i j hij hja
  ·obtain rfl:j=a:=by omega
   by_cases hia:i=j
   ·subst hia; exact O.kle_refl _
   ·have:=h.1;exact O.kle_trans (O.kle_of_klt hlt) (h.2.1 i (j - 1) (by omega) (by omega))
 ·obtain rfl:i=a:=by omega
  exact O.kle_refl _
theorem Dsc.same {p:Array Nat} {a q:Nat} (h:Dsc O key p a q) (e:Kp key p a=Kp key p (a - 1)):Dsc O key p (a + 1) (q + 1):=by
 have h1:=h.1;refine ⟨by omega,fun i j hij hj=>?_,fun i g1 g2=>?_⟩
 ·by_cases hja:j < a
  ·exact h.2.1 i j hij hja
  ·obtain rfl:j=a:=by omega
   by_cases hia:i=j
   ·subst hia; exact O.kle_refl _
   ·rw [e];exact h.2.1 i (j - 1) (by omega) (by omega)
 ·show O.kle (Kp key p i) (Kp key p (a + 1 - 1));rw [Nat.add_sub_cancel,e];by_cases hia:i=a
  ·subst hia; rw [e]; exact O.kle_refl _
  ·exact h.2.2 i (by omega) (by omega)
theorem JeM {Post:Array Nat×Nat×Nat→Prop} (h0:0 < n):∀ (f:Nat) (p:Array Nat) (a q:Nat),Pm n p→a + f≤n→Dsc O key p a q→(∀ p' a' q',Pm n p'→a≤a'→a'≤a + f→Dsc O key p' a' q'→Post (p',a',q'))→Ok O key n Post (kas_desc f p a q)
 | 0,p,a,q,hp,hn,hd,hq=>hq p a q hp (Nat.le_refl _) (Nat.le_refl _) hd
 | f + 1,p,a,q,hp,hn,hd,hq=>by
  have hz:=hp.size;refine ⟨hp.lt h0 _,hp.lt h0 _,?_⟩;dsimp only;by_cases hc:O.blt (key (p.getD a 0)) (key (p.getD (a - 1) 0))=true
  ·rw [if_pos hc];have hd2:=hd.next hc;by_cases hq0:q > 0
   ·rw [if_pos hq0];have e:=hd.rev (by omega);exact JeM h0 f _ (a + 1) 0 (Jd1 _ _ hp) (by omega) (hd2.congr e) fun p' a' q' g1 g2 g3 g4=>hq p' a' q' g1 (by omega) (by omega) g4
   ·rw [if_neg hq0];exact JeM h0 f p (a + 1) 0 hp (by omega) hd2 fun p' a' q' g1 g2 g3 g4=>hq p' a' q' g1 (by omega) (by omega) g4
  ·rw [if_neg hc];refine ⟨hp.lt h0 _,hp.lt h0 _,?_⟩;dsimp only;by_cases hc2:O.blt (key (p.getD (a - 1) 0)) (key (p.getD a 0))=true
   ·rw [if_pos hc2];exact hq p a q hp (Nat.le_refl _) (by omega) hd
   ·rw [if_neg hc2];have e:Kp key p a=Kp key p (a - 1):=O.kle_antisymm (nlt hc2) (nlt hc);exact JeM h0 f p (a + 1) (q + 1) hp (by omega) (hd.same e) fun p' a' q' g1 g2 g3 g4=>hq p' a' q' g1 (by omega) (by omega) g4
theorem JhE {Post:Nat×Array Nat→Prop} (h0:0 < n) {a nrem:Nat} {p:Array Nat} (hp:Pm n p) (h1:1≤a) (ha:a≤nrem) (hn:nrem≤n) (hf:Fal O key p a) (hq:∀ m p',Pm n p'→1≤m→m≤nrem→Srt O key p' m→Post (m,p')):Ok O key n Post (kas_tail3 a nrem p):=by
 have hz:=hp.size;unfold kas_tail3;refine Ok.bind (Jiv (Jd1 0 a hp) h0 (nrem - a) a h1 (fun i j hij hj=>?_) fun m g1 g2 g3 _=>hq m _ (Jd1 0 a hp) (by omega) (by omega) g3);rw [JfA (by omega),JfA (by omega),if_pos ⟨Nat.zero_le _,by omega⟩,if_pos ⟨Nat.zero_le _,hj⟩];exact hf _ _ (by omega) (by omega)
theorem JeX {Post:Nat×Array Nat→Prop} (h0:0 < n) {a nrem:Nat} {p:Array Nat} (hp:Pm n p) (h1:1≤a) (ha:a + 1≤nrem) (hn:nrem≤n) (hf:Fal O key p a) (hlt:O.klt (Kp key p a) (Kp key p (a - 1))) (hq:∀ m p',Pm n p'→1≤m→m≤nrem→Srt O key p' m→Post (m,p')) :
  Ok O key n Post (kas_descPart a nrem p):=by
 have hd:Dsc O key p a 0:=⟨h1,hf,fun i g1 g2=>by
  obtain rfl:i=a - 1:=by omega
  exact O.kle_refl _⟩
 unfold kas_descPart;refine Ok.bind (JeM h0 _ p (a + 1) 0 hp (by omega) (hd.next hlt) fun p' a' q' g1 g2 g3 g4=>?_);have hz:=g1.size;dsimp only;split
 ·refine JhE h0 (Jd1 _ _ g1) (by omega) (by omega) hn (fun i j hij hj=>?_) hq;rw [g4.rev (by omega),g4.rev (by omega)];exact g4.2.1 i j hij hj
 ·exact JhE h0 g1 (by omega) (by omega) hn g4.2.1 hq
theorem Jme {Post:Nat×Array Nat→Prop} (h0:0 < n) {p:Array Nat} (hp:Pm n p) (hq:∀ m p',Pm n p'→1≤m→m≤n→Srt O key p' m→Post (m,p')):Ok O key n Post (kas_count n p):=by
 have hz:=hp.size;unfold kas_count;refine Ok.bind (Jiv hp h0 (n - 1) 1 (Nat.le_refl _) (fun i j hij hj=>?_) fun m g1 g2 g3 g4=>?_)
 ·obtain rfl:i=j:=by omega
  exact O.kle_refl _
 ·by_cases hm:(m == n)=true
  ·rw [if_pos hm];exact hq m p hp g1 (by omega) g3
  ·rw [if_neg hm];have hmn:m≠n:=fun e=>hm (by simp [e])
   have hlt:=g4 (by omega);by_cases hm1:m > 1
   ·rw [if_pos hm1];refine ⟨hp.lt h0 _,hp.lt h0 _,?_⟩;dsimp only;by_cases hc:O.blt (key (p.getD 0 0)) (key (p.getD (m - 1) 0))=true
    ·rw [if_pos hc];exact hq m p hp g1 (by omega) g3
    ·rw [if_neg hc];have all:∀ i,i < m→Kp key p i=Kp key p (m - 1):=fun i hi=>by
      refine O.kle_antisymm (g3 i (m - 1) (by omega) (by omega)) ?_;exact O.kle_trans (nlt hc) (g3 0 i (Nat.zero_le _) hi)
     have e:∀ k,Kp key (kas_rev p 0 m) k=Kp key p k:=fun k=>by
      rw [JfA (by omega)];split
      ·rename_i h;rw [all _ (by omega),all k h.2]
      ·rfl
     refine JeX h0 (Jd1 0 m hp) g1 (by omega) (Nat.le_refl _) (fun i j hij hj=>?_) (by rw [e,e]; exact hlt) hq;rw [e,e,all i (by omega),all j hj];exact O.kle_refl _
   ·rw [if_neg hm1];refine JeX h0 hp g1 (by omega) (Nat.le_refl _) (fun i j hij hj=>?_) hlt hq;obtain rfl:i=j:=by omega
    exact O.kle_refl _
theorem Je5 {Post:Nat→Prop} (h0:0 < n) {p:Array Nat} (hp:Pm n p) {k:Nat} (hs:Srt O key p k):∀ (f l r:Nat),l≤r→r≤k→r - l≤f→(∀ i,i < l→O.kle (Kp key p i) (Kp key p k))→(∀ i,r≤i→i < k→O.klt (Kp key p k) (Kp key p i)) →
  (∀ m,m≤k→(∀ i,i < m→O.kle (Kp key p i) (Kp key p k))→(∀ i,m≤i→i < k→O.klt (Kp key p k) (Kp key p i))→Post m)→Ok O key n Post (kas_place p k f l r)
 | 0,l,r,h1,h2,h3,h4,h5,hq=>by
  obtain rfl:l=r:=by omega
  exact hq l h2 h4 h5
 | f + 1,l,r,h1,h2,h3,h4,h5,hq=>by
  unfold kas_place;by_cases hlr:l≥r
  ·rw [if_pos hlr];obtain rfl:l=r:=by omega
   exact hq l h2 h4 h5
  ·rw [if_neg hlr];refine ⟨hp.lt h0 _,hp.lt h0 _,?_⟩;dsimp only;by_cases hc:O.blt (key (p.getD k 0)) (key (p.getD ((l + r) / 2) 0))=true
   ·rw [if_pos hc];refine Je5 h0 hp hs f l _ (by omega) (by omega) (by omega) h4 (fun i g1 g2=>?_) hq;exact O.klt_of_klt_of_kle hc (hs ((l + r) / 2) i g1 g2)
   ·rw [if_neg hc];refine Je5 h0 hp hs f _ r (by omega) h2 (by omega) (fun i g=>?_) h5 hq;exact O.kle_trans (hs i ((l + r) / 2) (by omega) (by omega)) (nlt hc)
theorem Jk3 {Post:Array Nat→Prop} (h0:0 < n):∀ (f:Nat) (p:Array Nat) (k:Nat),Pm n p→k + f=n→Srt O key p k→(∀ p',Pm n p'→Srt O key p' n→Post p')→Ok O key n Post (kas_bin f p k)
 | 0,p,k,hp,hk,hs,hq=>hq p hp (by rw [← hk]; exact hs)
 | f + 1,p,k,hp,hk,hs,hq=>by
  have hz:=hp.size;unfold kas_bin;refine Ok.bind (Je5 h0 hp hs k 0 k (Nat.zero_le _) (Nat.le_refl _) (by omega) (fun i g=>absurd g (Nat.not_lt_zero _)) (fun i g1 g2=>by omega) fun m g1 g2 g3=>?_);have e:∀ i,Kp key (bubble p k (k - m)) i=if i=m then Kp key p k else if m < i∧i≤k then Kp key p (i - 1) else Kp key p i:=fun i=>by
   have z:=Jod (key:=key) (p:=p) (s:=k) (d:=k - m) (by omega) (by omega) i;rw [show k - (k - m)=m by omega] at z;exact z
  refine Jk3 h0 f _ (k + 1) ((bubble_perm p k (k - m)).trans hp) (by omega) (fun i j hij hj=>?_) hq;rw [e,e];rcases Nat.lt_trichotomy i m with a | a | a
  ·rw [if_neg (by omega),if_neg (by omega)];rcases Nat.lt_trichotomy j m with b | b | b
   ·rw [if_neg (by omega),if_neg (by omega)];exact hs i j hij (by omega)
   ·rw [if_pos b];exact g2 i a
   ·rw [if_neg (by omega),if_pos ⟨b,by omega⟩];exact hs i (j - 1) (by omega) (by omega)
  ·rw [if_pos a];by_cases b:j=m
   ·rw [if_pos b]; exact O.kle_refl _
   ·rw [if_neg b,if_pos ⟨by omega,by omega⟩];exact O.kle_of_klt (g3 (j - 1) (by omega) (by omega))
  ·rw [if_neg (by omega),if_pos ⟨a,by omega⟩,if_neg (by omega),if_pos ⟨by omega,by omega⟩];exact hs (i - 1) (j - 1) (by omega) (by omega)
theorem JmU {Post:Array Nat→Prop} (h0:0 < n) (hq:∀ p,Pm n p→Srt O key p n→Post p):Ok O key n Post (kas_sort n):=by
 unfold kas_sort;refine Ok.bind (Jme h0 (Array.Perm.refl _) fun m p g1 g2 g3 g4=>?_);dsimp only;split
 ·rename_i h;have e:max m 1=m:=by omega
  rw [e];exact Jk3 h0 (n - m) p m g1 (by omega) g4 hq
 ·obtain rfl:m=n:=by omega
  exact hq p g1 g4
end
end KS
namespace KS
open PySem PySem.W PyProof.Rows
def YX:KeyOrd where
 α:=List Nat×List Nat
 blt a b:=if a.1=b.1 then decide (a.2 < b.2) else decide (a.1 < b.1)
 irrefl a:=by rw [if_pos rfl]; exact strKind.irrefl a.2
 trans a b c h1 h2:=by
  by_cases e1:a.1=b.1
  ·rw [if_pos e1] at h1;by_cases e2:b.1=c.1
   ·rw [if_pos e2] at h2;rw [if_pos (e1.trans e2)];exact strKind.trans _ _ _ h1 h2
   ·rw [if_neg e2] at h2;rw [if_neg (fun e=>e2 (e1.symm.trans e)),e1];exact h2
  ·rw [if_neg e1] at h1;by_cases e2:b.1=c.1
   ·rw [if_pos e2] at h2;rw [if_neg (fun e=>e1 (e.trans e2.symm)),← e2];exact h1
   ·rw [if_neg e2] at h2;have h3:=strKind.trans _ _ _ h1 h2;have hne:¬ a.1=c.1:=fun e=>by
     rw [e] at h3;have:=strKind.irrefl c.1;rw [this] at h3;cases h3
    rw [if_neg hne];exact h3
 negTrans a b c h:=by
  by_cases e1:a.1=b.1
  ·by_cases e2:b.1=c.1
   ·rw [if_pos (e1.trans e2)] at h;rw [if_pos e1,if_pos e2];exact strKind.negTrans _ _ _ h
   ·rw [if_neg (fun e=>e2 (e1.symm.trans e))] at h;rw [if_neg e2,← e1];exact .inr h
  ·by_cases e2:b.1=c.1
   ·rw [if_neg (fun e=>e1 (e.trans e2.symm))] at h;rw [if_neg e1,e2];exact .inl h
   ·rw [if_neg e1,if_neg e2];by_cases e3:a.1=c.1
    ·rw [if_pos e3] at h;cases h4:decide (a.1 < b.1) with
     | true=>exact .inl rfl
     | false =>
      refine .inr ?_;cases h5:decide (b.1 < c.1) with
      | true=>rfl
      | false =>
       rw [← e3] at h5;exact absurd (strKind.total _ _ h4 h5) e1
    ·rw [if_neg e3] at h;exact strKind.negTrans _ _ _ h
 total a b h1 h2:=by
  by_cases e:a.1=b.1
  ·rw [if_pos e] at h1;rw [if_pos e.symm] at h2;exact Prod.ext e (strKind.total _ _ h1 h2)
  ·rw [if_neg e] at h1;rw [if_neg (fun q=>e q.symm)] at h2;exact absurd (strKind.total _ _ h1 h2) e
section
variable {prog:Program} {w:World} {A:Around} {E:Value→Shared→Prop} {s:Shared}
def JcY (h:Heap) (a:Addr) (x y:Str):Prop:=∃ o n t u,h.get? a=some o∧o.cls=.type "tuple"∧o.data=.seq #[.str x t,.str y u] n
def pk (x:Str×Str):YX.α:=(x.1.cps.toList,x.2.cps.toList)
theorem Ji5 {x y:Str} (h:x.cps.toList=y.cps.toList):x=y:=by
 cases x; cases y;congr 1;exact Array.toList_inj.mp h
theorem JiY {x y:Str} {t u:Tok} {Q:Bool→Shared→Prop} (h:Q (decide (x=y)) s):wpAny (model prog w) A (eqBool (.str x t) (.str y u)) Q E s:=by
 refine (L2.J7 prog w).eqBool (L2.JaQ prog w x t) (L2.JaQ prog w y u) ?_;rw [L2.JkA];exact h
theorem Jmi {a b:Addr} {p q:Str×Str} {Q:Bool→Shared→Prop} (ha:JcY s.heap a p.1 p.2) (hb:JcY s.heap b q.1 q.2) (h:Q (YX.blt (pk p) (pk q)) s):wpAny (model prog w) A (keyLt' (tuples' true) (.ref a) (.ref b)) Q E s:=by
 obtain ⟨o,n,t,u,h1,_,h3⟩:=ha;obtain ⟨o',n',t',u',g1,_,g3⟩:=hb;refine kat_lt h1 h3 g1 g3 (kat_cons (JiY (kat_go (fun e=>?_) (fun e=>?_))))
 ·have e1:p.1=q.1:=of_decide_eq_true e;refine kat_yes (kat_cons (JiY (kat_go (fun e=>?_) (fun e=>?_))))
  ·have e2:p.2=q.2:=of_decide_eq_true e;refine kat_yes (kat_nil ?_);have hf:YX.blt (pk p) (pk q)=false:=by
    have:pk p=pk q:=by unfold pk; rw [e1,e2]
    rw [this];exact YX.irrefl _
   rw [hf] at h;exact h
  ·refine kat_no (kat_one _ _ ?_);have hf:YX.blt (pk p) (pk q)=decide (p.2.cps.toList < q.2.cps.toList):=by
    show (if p.1.cps.toList=q.1.cps.toList then _ else _)=_;rw [if_pos (by rw [e1])];rfl
   rw [hf] at h;exact PySem.P.lt_str h
 ·have e1:¬ p.1=q.1:=of_decide_eq_false e;refine kat_no ?_;have hf:YX.blt (pk p) (pk q)=decide (p.1.cps.toList < q.1.cps.toList):=by
   show (if p.1.cps.toList=q.1.cps.toList then _ else _)=_;rw [if_neg (fun z=>e1 (Ji5 z))];rfl
  rw [hf] at h;exact oneLt_str h
def dfl:Str×Str:=(Str.empty,Str.empty)
def ky (ps:List (Str×Str)) (i:Nat):YX.α:=pk (ps.getD i dfl)
def Z3 (vs:List Value) (p:Array Nat):Array Value:=List.toArray (p.toList.map fun i=>vs.getD i Value.none)
theorem JhS (n:Nat):Pm n (List.toArray (List.range n)):=Array.Perm.refl _
theorem Jki (vs:List Value):Z3 vs (List.toArray (List.range vs.length))=vs.toArray:=by
 unfold Z3;congr 1;apply List.ext_getElem?;intro i;rw [List.getElem?_map];by_cases hi:i < vs.length
 ·simp [hi]
 ·simp [hi]
theorem Jj9 {a:Addr} {vs:List Value} {ps:List (Str×Str)} {n:Nat} {P:PySem.Fin→Shared→Prop} (ho:s.heap.get? a=some (seqObj "list" vs.toArray n)) (hlen:vs.length=ps.length) (h64:vs.length < 64)
  (hp:∀ (i:Nat) v p,vs[i]?=some v→ps[i]?=some p→∃ b,b≠a∧v=.ref b∧JcY s.heap b p.1 p.2)
  (h:∀ p:Array Nat,Pm vs.length p→Srt YX (ky ps) p vs.length→P (.done (.ret .none)) { s with heap:=sortedHeap s.heap a vs (Z3 vs p) }) :
  wpAny (model prog w) A (Builtin.«list.sort» ⟨[.ref a],[]⟩) P E s:=by
 have hlt:a < s.heap.objs.size:=Heap.lt_size ho;obtain ⟨e1,g1⟩:∃ e1,(s.heap.update a (Obj.mapSeq fun _=>#[])).get? a=some (seqObj "list" #[] e1):=⟨_,get?_update_seq ho fun _=>#[]⟩
 have big:vs.length≤sizeLine:=by rw [sizeLine_eq]; omega
 rw [list_sort_plain];refine wpAny_bind (listItems_at ho rfl (wpAny_bind (listUpdate_at ho rfl (wpAny_bind (seqEpoch_at g1 rfl (wpAny_bind (wpAny_newTuple (wpAny_bind (wpAny_newList (wpAny_holding ?_))) (by simpa using big))))) (by simpa using big))));generalize hh6:(((s.heap.update a (Obj.mapSeq fun _=>#[])).push (seqObj "tuple" vs.toArray 0)).push (seqObj "list" #[] 0))=h6;have g6:h6.get? a=some (seqObj "list" #[] e1):=by
  rw [← hh6];exact Heap.get?_push_of_some _ (Heap.get?_push_of_some _ g1)
 have keep:∀ b o,b≠a→s.heap.get? b=some o→h6.get? b=some o:=fun b o hb e=>by
  rw [← hh6];refine Heap.get?_push_of_some _ (Heap.get?_push_of_some _ ?_);rw [Heap.get?_update_ne _ _ _ _ hb];exact e
 have hp6:∀ (i:Nat) v p,vs[i]?=some v→ps[i]?=some p→∃ b,v=.ref b∧JcY h6 b p.1 p.2:=fun i v p hv hq=>by
  obtain ⟨b,hb,e,o,n,t,u,z1,z2⟩:=hp i v p hv hq;exact ⟨b,e,o,n,t,u,keep b o hb z1,z2⟩
 have hfin:∀ p:Array Nat,Pm vs.length p→(Z3 vs p).size≤sizeLine + 1:=fun p hpm=>by
  unfold Z3;rw [List.size_toArray,List.length_map,Array.length_toList,hpm.size];exact Nat.le_succ_of_le big
 have eH:∀ out,h6.update a (Obj.mapSeq fun _=>out)=sortedHeap s.heap a vs out:=fun out=>by rw [← hh6]; rfl
 have sz:vs.toArray.size=vs.length:=List.size_toArray;show wpAny (model prog w) A _ P E { s with heap:=h6 };dsimp only;rw [sz];by_cases h2:vs.length < 2
 ·rw [if_pos h2,if_pos h2];refine wpAny_bind (wpAny_pure ?_);rw [StateT.run_pure];refine wpAny_bind (wpAny_pure ?_);dsimp only;have eo:(arrOf (SortSt.mk' general' (vs.toArray.zip vs.toArray) #[] 7 none)).map (·.2)=Z3 vs (List.toArray (List.range vs.length)):=by
   rw [Jki];show (vs.toArray.zip vs.toArray).map (·.2)=_;simp [List.map_snd_zip]
  rw [eo];refine wpAny_bind (seqEpoch_at g6 rfl (wpAny_bind (listUpdate_at g6 rfl ?_ (hsz2:=hfin _ (JhS _)))));rw [if_neg (by simp)];show wpAny _ _ _ _ _ { s with heap:=h6.update a (Obj.mapSeq fun _=>Z3 vs (List.toArray (List.range vs.length))) };rw [eH];refine wpAny_pure (h _ (JhS _) fun i j hij hj=>?_);obtain rfl:i=j:=by omega
  exact YX.kle_refl _
 ·rw [if_neg h2,if_neg h2];have tups:∀ (vs:List Value) (ps:List (Str×Str)),vs.length=ps.length→(∀ (i:Nat) v p,vs[i]?=some v→ps[i]?=some p→∃ b,v=.ref b∧JcY h6 b p.1 p.2)→∃ fs:List Value,KatTups h6 vs fs∧fs.length=vs.length∧∀ v∈fs,∃ x t,v=.str x t:=by
   intro vs
   induction vs with
   | nil=>exact fun ps _ _=>⟨[],.nil,rfl,fun v hv=>nomatch hv⟩
   | cons v r ih =>
    intro ps hl hq;cases ps with
    | nil=>cases hl
    | cons p ps =>
     obtain ⟨b,rfl,o,n,t,u,z1,z2,z3⟩:=hq 0 v p rfl rfl;obtain ⟨fs,y1,y2,y3⟩:=ih ps (by simpa using hl) fun i v' p' a1 a2=>hq (i + 1) v' p' (by simpa using a1) (by simpa using a2)
     refine ⟨.str p.1 t :: fs,.cons z1 z2 z3 rfl y1,by simp [y2],fun v' hv'=>?_⟩;rcases List.mem_cons.mp hv' with rfl | q
     ·exact ⟨_,_,rfl⟩
     ·exact y3 v' q
  obtain ⟨fs,f1,f2,f3⟩:=tups vs ps hlen hp6;refine wpAny_bind (kat_kind (s:={ s with heap:=h6 }) f1 (by omega) (T:=.type "str") (fun v hv=>?_) (by decide) ?_)
  ·obtain ⟨x,t,rfl⟩:=f3 v hv;exact .now
  have ek:(Value.type "str" != Value.type "tuple")=true:=by decide
  rw [ek];refine wpAny_bind (wpAny_mono (kat_run (E:=E) (ks:=vs) (vs:=vs) (G:=fun p s'=>s'={ s with heap:=h6 }∧Pm vs.length p∧Srt YX (ky ps) p vs.length)
   (Q:=fun st' s'=>∃ p:Array Nat,s'={ s with heap:=h6 }∧Pm vs.length p∧Srt YX (ky ps) p vs.length∧arrOf st'=p.map (kas_item (vs.toArray.zip vs.toArray))∧failedOf st'=none) rfl (by omega) h64
   (fun p st' s' b1 b2 b3 b4=>⟨p,b4.1,b4.2.1,b4.2.2,b2,b3⟩) ?_) ?_ fun _ _ e=>e)
  ·refine Ok.wp (O:=YX) (key:=ky ps) (n:=vs.length) (Post:=fun p=>Pm vs.length p∧Srt YX (ky ps) p vs.length) (fun i j C hi hj hC=>?_) (fun p q=>⟨rfl,q.1,q.2⟩) (JmU (by omega) fun p q1 q2=>⟨q1,q2⟩);have at_:∀ i,i < vs.length→∃ b,vs.getD i Value.none=.ref b∧JcY h6 b (ps.getD i dfl).1 (ps.getD i dfl).2:=fun i hi=>by
    have hi':i < ps.length:=by omega
    obtain ⟨b,e,pb⟩:=hp6 i vs[i] ps[i] (List.getElem?_eq_getElem hi) (List.getElem?_eq_getElem hi');refine ⟨b,?_,?_⟩
    ·rw [List.getD_eq_getElem?_getD,List.getElem?_eq_getElem hi]; exact e
    ·rw [List.getD_eq_getElem?_getD,List.getElem?_eq_getElem hi']; exact pb
   obtain ⟨b,eb,pb⟩:=at_ i hi;obtain ⟨c,ec,pc⟩:=at_ j hj;show wpAny (model prog w) A (keyLt' (tuples' true) (vs.getD i Value.none) (vs.getD j Value.none)) C (fun _ _=>False) { s with heap:=h6 };rw [eb,ec];exact Jmi (s:={ s with heap:=h6 }) pb pc hC
  ·rintro ⟨⟨⟩,st'⟩ s' ⟨p,rfl,q1,q2,q3,q4⟩;dsimp only;have eo:(arrOf st').map (·.2)=Z3 vs p:=kat_snds rfl q3;rw [eo,q4];refine wpAny_bind (seqEpoch_at g6 rfl (wpAny_bind (listUpdate_at g6 rfl ?_ (hsz2:=hfin p q1))));dsimp only;rw [if_neg (by simp)];show wpAny _ _ _ _ _ { s with heap:=h6.update a (Obj.mapSeq fun _=>Z3 vs p) };rw [eH];exact wpAny_pure (h p q1 q2)
theorem JhK {l:Addr} {vs:List Value} {ps:List (Str×Str)} {Q:Value→Shared→Prop} (hl:s.heap.IsList l vs.toArray) (hlen:vs.length=ps.length) (h64:vs.length < 64)
  (hp:∀ (i:Nat) v p,vs[i]?=some v→ps[i]?=some p→∃ b,v=.ref b∧JcY s.heap b p.1 p.2)
  (h:∀ p:Array Nat,Pm vs.length p→Srt YX (ky ps) p vs.length→Q (.ref (s.heap.objs.size + 1)) { s with heap:=sortedAll s.heap vs (Z3 vs p) }) :
  wpAny (model prog w) A (call (.builtin "sorted") [.ref l]) Q E s:=by
 have big:vs.length≤sizeLine:=by rw [sizeLine_eq]; omega
 refine Calls.call_function_entry kind_sorted plain_sorted entry_sorted (args_sorted1 _) ?_;unfold Builtin.«sorted»;refine wpAny_bind (m:=checkCount "sorted" 1 1 _) (wpAny_pure (wpAny_bind (collect_list hl (wpAny_bind (wpAny_newList ?_ (by simpa using big))) (by simpa using big))));generalize hh1:((s.heap.push (seqObj "list" #[] 0)).update s.heap.objs.size (Obj.mapSeq (· ++ vs.toArray)))=h1;have z1:h1.objs.size=s.heap.objs.size + 1:=by rw [← hh1,Heap.size_update,size_push']
 have g1:(h1.push (seqObj "list" vs.toArray 0)).get? (s.heap.objs.size + 1)=some (seqObj "list" vs.toArray 0):=by rw [← z1]; exact Heap.get?_push_size _ rfl
 have keep:∀ b o,s.heap.get? b=some o→(h1.push (seqObj "list" vs.toArray 0)).get? b=some o:=fun b o q=>by
  have hb:b < s.heap.objs.size:=Heap.lt_size q;refine Heap.get?_push_of_some _ ?_;rw [← hh1,Heap.get?_update_ne _ _ _ _ (Nat.ne_of_lt hb)];exact Heap.get?_push_of_some _ q
 show wpAny _ _ _ _ _ { s with heap:=h1.push (seqObj "list" vs.toArray 0) };rw [z1];refine wpAny_bind (wpAny_holding (wpAny_call_entry slot_list_sort ⟨_,g1,rfl⟩ entry_list_sort (Jj9 (s:={ s with heap:=h1.push (seqObj "list" vs.toArray 0) }) g1 hlen h64 (fun i v p hv hq=>?_) fun p q1 q2=>⟨_,rfl,?_⟩) (args_list_sort _)))
 ·obtain ⟨b,e,o,n,t,u,y1,y2⟩:=hp i v p hv hq;exact ⟨b,Nat.ne_of_lt (Nat.lt_succ_of_lt (Heap.lt_size y1)),e,o,n,t,u,keep b o y1,y2⟩
 ·refine wpAny_pure ⟨_,rfl,?_⟩;have z:=h p q1 q2;unfold sortedAll at z;rw [hh1] at z;exact z
end
end KS
namespace L2
open PySem PySem.Spec PyProof.Rows KS
def sle (a b:Str):Prop:=strKind.kle a.cps.toList b.cps.toList
def ple (p q:Str×Str):Prop:=YX.kle (pk p) (pk q)
theorem Jka {a b c:Str} (h1:sle a b) (h2:sle b c):sle a c:=KeyOrd.kle_trans h1 h2
theorem Jlt {a b:Str} (h1:sle a b) (h2:sle b a):a=b:=Ji5 (KeyOrd.kle_antisymm h1 h2)
theorem Jfz:∀ {p:Str} {l:List Str},risingS p l=true→(∀ x∈l,sle p x)∧l.Pairwise sle
 | p,[],_=>⟨(fun x hx=>nomatch hx),.nil⟩
 | p,x :: r,h=>by
  have h':(!ltCps x.cps.toList p.cps.toList && risingS x r)=true:=h;rw [Bool.and_eq_true] at h';obtain ⟨a,b⟩:=Jfz h'.2;have hx:sle p x:=by
   have z:=h'.1;rw [ltCps_eq] at z;show decide (x.cps.toList < p.cps.toList)=false;simpa using z
  refine ⟨fun y hy=>?_,List.pairwise_cons.mpr ⟨a,b⟩⟩;rcases List.mem_cons.mp hy with rfl | hy
  ·exact hx
  ·exact Jka hx (a y hy)
theorem Jjk {l:List Str} (h:sortedS l=true):l.Pairwise sle:=by
 cases l with
 | nil=>exact .nil
 | cons x r =>
  obtain ⟨a,b⟩:=Jfz (p:=x) (l:=r) h;exact List.pairwise_cons.mpr ⟨a,b⟩
theorem JgS:∀ {us:List Value} {ss:List Str},StrsAre us ss→Jt (ss.map V.str) us
 | _,_,.nil=>.nil
 | _,_,.cons x t h=>.cons ⟨t,rfl⟩ (JgS h)
section
variable {X:Cx}
def JnK (K:PySem.W.Frag):List V→Hp→VK→Prop:=fun xs H Q=>∃ (l:Addr) (ss:List Str),xs=[.ref l]∧Jq K H l (ss.map V.str)∧ss.length < 64∧∀ (p:Addr) (ss':List Str),H p=none→ss'.Perm ss→ss'.Pairwise sle→Q (.ref p) (upd H p (.lst (ss'.map V.str)))
theorem JfV:Zb X (.builtin "sorted") (JnK X.K):=by
 intro pins s σ H xs us Q I r h;obtain ⟨l,ss,rfl,hl,hz,q⟩:=h;obtain ⟨u,rfl,ru⟩:=Jt.one r;cases ru;obtain ⟨its,rv,pl,_⟩:=I.list hl;have rlen:=rv.length;rw [List.length_map] at rlen;refine sorted_strs pl.isList (Jf6 rv) (by omega) fun out ss' a1 a2 a3=>?_
 obtain ⟨e,he⟩:=sortedAll_at s.heap its out;have hf:H (s.heap.objs.size + 1)=none:=I.hok.fresh (Nat.le_succ _);have hv:=JgS a1;refine ⟨.ref (s.heap.objs.size + 1),_,I.laid (t':=s.toks) (o:=.lst (ss'.map V.str)) (fun b u=>sortedAll_old) (Nat.le_succ _) ⟨?_,out.toList,e,hv,he⟩,rfl,q _ ss' hf a2 (Jjk a3)⟩;rw [List.length_map,a2.length_eq];exact Nat.le_trans (Nat.le_of_lt hz) (by decide)
def Yd (K:PySem.W.Frag) (H:Hp) (zs:List (V×(Str×Str))):Prop:=∀ z∈zs,∃ a,z.1=.ref a∧J0 K H a [.str z.2.1,.str z.2.2]
def JnJ (K:PySem.W.Frag):List V→Hp→VK→Prop:=fun xs H Q=>∃ (l:Addr) (zs:List (V×(Str×Str))),xs=[.ref l]∧Jq K H l (zs.map (·.1))∧Yd K H zs∧zs.length < 64∧∀ (p:Addr) (zs':List (V×(Str×Str))),H p=none→zs'.Perm zs→(zs'.map (·.2)).Pairwise ple→Q (.ref p) (upd H p (.lst (zs'.map (·.1))))
theorem JjW:∀ {vs:List V} {us:List Value},Jt vs us→∀ (p:List Nat),(∀ i∈p,i < vs.length)→Jt (p.map fun i=>vs.getD i .non) (p.map fun i=>us.getD i Value.none):=by
 intro vs us r p
 induction p with
 | nil=>exact fun _=>.nil
 | cons i p ih =>
  intro h;have hi:=h i (List.mem_cons_self ..);obtain ⟨u,hu,ru⟩:=Jcm (i:=i) r (List.getElem?_eq_getElem hi);refine .cons ?_ (ih fun j hj=>h j (List.mem_cons_of_mem _ hj));show JF (vs.getD i .non) (us.getD i Value.none);rw [List.getD_eq_getElem?_getD,List.getD_eq_getElem?_getD,hu,List.getElem?_eq_getElem hi];exact ru
theorem Jkf {α:Type} {l:List α} {d:α} {p:Array Nat} (h:Pm l.length p):(p.toList.map fun i=>l.getD i d).Perm l:=by
 have h1:p.toList.Perm (List.range l.length):=by
  have:=Array.perm_iff_toList_perm.mp h;simpa using this
 have h2:=h1.map fun i=>l.getD i d
 refine h2.trans (List.Perm.of_eq ?_);apply List.ext_getElem?;intro i;rw [List.getElem?_map];by_cases hi:i < l.length
 ·simp [hi]
 ·simp [hi]
theorem JjP:Zb X (.builtin "sorted") (JnJ X.K):=by
 intro pins s σ H xs us Q I r h;obtain ⟨l,zs,rfl,hl,hp,hz,q⟩:=h;obtain ⟨u,rfl,ru⟩:=Jt.one r;cases ru;obtain ⟨its,rv,pl,_⟩:=I.list hl;have rlen:=rv.length;rw [List.length_map] at rlen;refine JhK (ps:=zs.map (·.2)) pl.isList (by rw [List.length_map]; omega) (by omega) (fun i v p hv hq=>?_) fun p pm so=>?_
 ·rw [List.getElem?_map] at hq;obtain ⟨z,hz1,hz2⟩:=Option.map_eq_some_iff.mp hq;obtain ⟨a,ea,ha⟩:=hp z (List.mem_of_getElem? hz1);obtain ⟨u,hu,ru⟩:=Jcm (i:=i) (x:=z.1) rv (by rw [List.getElem?_map,hz1]; rfl);rw [hv] at hu;cases hu;rw [ea] at ru;cases (show v=.ref a from ru);obtain ⟨its',r',⟨o,e,c,n,d⟩,_⟩:=I.tuple ha;cases r' with
  | cons r1 rr =>
   cases rr with
   | cons r2 rr =>
    cases rr;obtain ⟨t,e1⟩:=r1;obtain ⟨t',e2⟩:=r2;subst e1 e2;rw [← hz2];exact ⟨a,rfl,o,n,t,t',e,c,d⟩
 ·obtain ⟨e,he⟩:=sortedAll_at s.heap its (Z3 its p);have hf:H (s.heap.objs.size + 1)=none:=I.hok.fresh (Nat.le_succ _);have pmz:Pm zs.length p:=by rw [rlen]; exact pm
  have hlt:∀ i∈p.toList,i < zs.length:=fun i hi=>by
   have:=(Array.perm_iff_toList_perm.mp pmz).mem_iff.mp hi;simpa using this
  let d:V×(Str×Str):=(.non,dfl)
  have e1:(p.toList.map fun i=>zs.getD i d).map (·.1)=p.toList.map fun i=>(zs.map (·.1)).getD i .non:=by
   rw [List.map_map];refine List.map_congr_left fun i hi=>?_
   have:=hlt i hi;simp [List.getD_eq_getElem?_getD,List.getElem?_eq_getElem this]
  have e2:(p.toList.map fun i=>zs.getD i d).map (·.2)=p.toList.map fun i=>(zs.map (·.2)).getD i dfl:=by
   rw [List.map_map];refine List.map_congr_left fun i hi=>?_
   have:=hlt i hi;simp [List.getD_eq_getElem?_getD,List.getElem?_eq_getElem this]
  have hv:Jt ((p.toList.map fun i=>zs.getD i d).map (·.1)) (Z3 its p).toList:=by
   rw [e1];have z:=JjW rv p.toList (fun i hi=>by rw [List.length_map]; exact hlt i hi);unfold Z3;rw [List.toList_toArray];exact z
  refine ⟨.ref (s.heap.objs.size + 1),_,I.laid (t':=s.toks) (o:=.lst ((p.toList.map fun i=>zs.getD i d).map (·.1))) (fun b u=>sortedAll_old) (Nat.le_succ _) ⟨?_,(Z3 its p).toList,e,hv,he⟩,rfl,q _ (p.toList.map fun i=>zs.getD i d) hf (Jkf pmz) ?_⟩
  ·rw [List.length_map,List.length_map,Array.length_toList,pmz.size];exact Nat.le_trans (Nat.le_of_lt hz) (by decide)
  ·rw [e2,List.pairwise_map,List.pairwise_iff_getElem];intro i j hi hj hij;rw [Array.length_toList] at hi hj;have z:=so i j (Nat.le_of_lt hij) (by rw [← rlen,← pmz.size]; exact hj);unfold Kp ky at z;rw [Array.getD_eq_getD_getElem?,Array.getD_eq_getD_getElem?,Array.getElem?_eq_getElem hi,Array.getElem?_eq_getElem hj] at z;exact z
theorem Jg8 {P P':Program} {w w':World}:∀ {ks:List JP} {us:List Value},ItemsAre (J7 P w) ks us→ItemsAre (J7 P' w') ks us
 | _,_,.nil=>.nil
 | _,_,.cons h t=>.cons h (Jg8 t)
theorem JjY {P P':Program} {w w':World} {h:Heap} {ks:List JP} {a:Addr} (hk:HS.TK P w h ks a):HS.TK P' w' h ks a:=let ⟨o,its,n,e,c,d,i⟩:=hk; ⟨o,its,n,e,c,d,Jg8 i⟩
theorem JoM {A:Around} {s:Shared} {P:Program} {w:World} {x y:List JP} {a b:Addr} (hu:A.units < cLine) (hx:HS.TK P w s.heap x a) (hy:HS.TK P w s.heap y b):SeqAt.EqAt A s (.ref a) (.ref b) (decide (x=y)) :=
 fun prog w E Q hq=>wpAny_eqBool_tuple hu (JjY hx) (JjY hy) hq
open Classical in
def Jpj (K:PySem.W.Frag) (neg:Bool):R2:=fun x y H Q=>∃ a l vs ks kss,x=.ref a∧y=.ref l∧J0 K H a (ks.map kV)∧Jq K H l vs∧JdA K H vs kss∧Q (.bl (if neg then !decide (ks∈kss) else decide (ks∈kss))) H
open Classical in
theorem JdT (hu:X.A.units + 1 < cLine):ZB X (compareOp .NotIn) (Jpj X.K true):=by
 intro pins s σ H x y v u Q I rx ry h;obtain ⟨a,l,vs,ks,kss,rfl,rfl,ha,hl,⟨tl,tt⟩,q⟩:=h;cases rx;cases ry;obtain ⟨its,rv,pl,_⟩:=I.list hl;have rlen:=rv.length;have hk:=Jje I ha;let e:Value→Bool:=fun u=>match u with
  | .ref b=>decide (HS.TK X.prog X.w s.heap ks b)
  | _=>false
 have at_:∀ (i:Nat) v,its[i]?=some v→∃ k2 b,kss[i]?=some k2∧v=.ref b∧HS.TK X.prog X.w s.heap k2 b:=fun i v hv=>by
  have hi:=(List.getElem?_eq_some_iff.mp hv).1;obtain ⟨x,hx⟩:∃ x,vs[i]?=some x:=⟨vs[i],List.getElem?_eq_getElem (by omega)⟩
  obtain ⟨k2,hk2⟩:∃ k2,kss[i]?=some k2:=⟨kss[i],List.getElem?_eq_getElem (by omega)⟩
  obtain ⟨b,rfl,hb⟩:=tt i x k2 hx hk2;obtain ⟨u,hu1,hu2⟩:=Jcm rv hx;rw [hv] at hu1;cases hu1;cases (show v=.ref b from hu2);exact ⟨k2,b,hk2,rfl,Jje I hb⟩
 have same:∀ {k2:List JP} {b:Addr},HS.TK X.prog X.w s.heap k2 b→decide (k2=ks)=decide (HS.TK X.prog X.w s.heap ks b):=fun {k2 b} hb=>by
  refine decide_eq_decide.mpr ⟨fun e=>e ▸ hb,fun h=>IsTupleKey.inj hb h⟩
 refine SeqAt.notIn_listAt e pl.isList (fun w hw=>?_) ⟨.bl _,H,I,rfl,?_⟩
 ·obtain ⟨i,hi⟩:=List.mem_iff_getElem?.mp (show w∈its by simpa using hw);obtain ⟨k2,b,_,rfl,hb⟩:=at_ i w hi;have z:=JoM (A:=X.A.in1) hu hb hk;rw [same hb] at z;exact z
 ·have e2:its.toArray.any e=decide (ks∈kss):=by
   rw [show its.toArray.any e=its.any e by simp,Bool.eq_iff_iff,List.any_eq_true,decide_eq_true_eq];constructor
   ·rintro ⟨w,hw,he⟩;obtain ⟨i,hi⟩:=List.mem_iff_getElem?.mp hw;obtain ⟨k2,b,h2,rfl,hb⟩:=at_ i w hi;have he':decide (HS.TK X.prog X.w s.heap ks b)=true:=he;rw [← same hb] at he';rw [← of_decide_eq_true he'];exact List.mem_of_getElem? h2
   ·intro hin;obtain ⟨i,hi⟩:=List.mem_iff_getElem?.mp hin;have hlt:=(List.getElem?_eq_some_iff.mp hi).1;obtain ⟨k2,b,h2,h3,hb⟩:=at_ i its[i] (List.getElem?_eq_getElem (by omega));rw [hi] at h2;cases h2;refine ⟨its[i],List.getElem_mem _,?_⟩;rw [h3];exact decide_eq_true hb
  rw [e2];exact q
def JnM (K:PySem.W.Frag):R2:=fun x y H Q=>∃ a l vs,x=.ref a∧y=.ref l∧Jq K H a vs∧Jq K H l []∧Q (.bl vs.isEmpty) H
theorem JlQ (hu:X.A.units < cLine):ZB X (compareOp .Eq) (JnM X.K):=by
 intro pins s σ H x y v u Q I rx ry h;obtain ⟨a,l,vs,rfl,rfl,ha,hl,q⟩:=h;cases rx;cases ry;obtain ⟨its,rv,pl,_⟩:=I.list ha;obtain ⟨its2,rv2,pl2,_⟩:=I.list hl;cases rv2;have rlen:=rv.length;cases vs with
 | nil =>
  cases rv;refine SeqAt.eq_listAt (e:=fun _=>true) pl.isList pl2.isList rfl hu (fun j h1 h2=>absurd h1 (Nat.not_lt_zero _)) ⟨.bl _,H,I,rfl,q⟩
 | cons v r=>exact SeqAt.eq_list_lengthsAt pl.isList pl2.isList (by rw [List.size_toArray,← rlen]; rfl) hu ⟨.bl _,H,I,rfl,q⟩
end
section
variable {tc:TT} {te:TE} {σc:St} {D:Addr} {H1:Hp} {Q:Hp→Prop} {K:PySem.W.Frag}
theorem JjO {a:Addr} {xs:List V} (Pv:Nat→List V→Hp→Prop) (h00:σc[0]?=some none) (h01:σc[1]?=some none) (hq:∀ i ys H,Pv i ys H→Jq K H a xs) (h0:Pv 0 [] (upd H1 D (.lst []))) (hl:∀ i ys H,Pv i ys H→H D=some (.lst ys))
  (hs:∀ i x ys H,xs[i]?=some x→Pv i ys H→∃ b u v,x=.ref b∧J0 K H b [u,v]∧tc ((σc.set 0 (some u)).set 1 (some v)) H fun c H3=>if c=true then te ((σc.set 0 (some u)).set 1 (some v)) H3 fun v' H4=>H4 D=some (.lst ys)∧ys.length < sizeLine∧Pv (i + 1) (ys ++ [v']) (upd H4 D (.lst (ys ++ [v']))) else Pv (i + 1) ys H3)
  (hd:∀ ys H,Pv xs.length ys H→Q H):Jbn (Itl K a) (Jl9 K 2 (JjE (ZN 0) (JjE (ZN 1) Jn7))) tc te σc D H1 Q:=by
 refine ⟨fun i m ys H=>m=xs.length - i∧i≤xs.length∧Pv i ys H,⟨xs.length,by simp,Nat.zero_le _,h0⟩,?_⟩;rintro i m ys H ⟨rfl,hi,p⟩;refine ⟨hl _ _ _ p,?_⟩;by_cases hlt:i < xs.length
 ·refine .inr ⟨⟨xs,xs[i],hq _ _ _ p,by simp [hlt]⟩,Pv (i + 1),fun zs H' p'=>⟨xs.length - (i + 1),by omega,rfl,hlt,p'⟩,fun x H' y=>?_⟩;obtain ⟨e,y⟩:=y;subst e;have hx:=y xs (hq _ _ _ p);obtain ⟨b,u,v,rfl,hb,z⟩:=hs i x ys _ hx p;exact ⟨b,[u,v],rfl,hb,rfl,u,[v],rfl,v,[],rfl,rfl,((Jdc.refl σc).set h00).set h01,z⟩
 ·have e:i=xs.length:=by omega
  subst e;exact .inl ⟨⟨xs,hq _ _ _ p,Nat.le_refl _⟩,hd _ _ p⟩
end
end L2
namespace L2
open PySem PySem.Spec PyProof.Rows
structure Md (K:PySem.W.Frag) (C:Addr) (x qual:Str) (st:Stmt) (ps:List Str) (f:Addr) (fd:FuncData):Prop where
 F:Fun K x qual st f fd
 b:JbL K fd ps []
 m:Jmo K C x f
theorem YY {X:Cx}:Jbk (Y4 X.prog X.w) X E0:=fun pins σ H s e s' I h=>by
 obtain ⟨ea,C,B,H2,_,_,_,_,q⟩:=h;exact q.elim
section
variable {tc:TT} {te:TE} {σc:St} {D:Addr} {H1:Hp} {Q:Hp→Prop} {K:PySem.W.Frag}
theorem Jfn {a:Addr} {xs:List V} (Pv:Nat→List V→Hp→Prop) (h00:σc[0]?=some none) (hq:∀ i ys H,Pv i ys H→J0 K H a xs) (h0:Pv 0 [] (upd H1 D (.lst []))) (hl:∀ i ys H,Pv i ys H→H D=some (.lst ys))
  (hs:∀ i x ys H,xs[i]?=some x→Pv i ys H→tc (σc.set 0 (some x)) H fun b H3=>if b=true then te (σc.set 0 (some x)) H3 fun v H4=>H4 D=some (.lst ys)∧ys.length < sizeLine∧Pv (i + 1) (ys ++ [v]) (upd H4 D (.lst (ys ++ [v]))) else Pv (i + 1) ys H3)
  (hd:∀ ys H,Pv xs.length ys H→Q H):Jbn (Itt K a) (ZN 0) tc te σc D H1 Q :=
 Jdx (n:=xs.length) (X1:=fun i x=>xs[i]?=some x) Pv h00 (fun i H hi ⟨ys,p⟩=>⟨⟨xs,xs[i],hq _ _ _ p,by simp [hi]⟩,fun x H' y=>⟨y.1,y.2 xs (hq _ _ _ p)⟩⟩) (fun H ⟨ys,p⟩=>⟨xs,hq _ _ _ p,Nat.le_refl _⟩) h0 hl (fun i x ys H _ hx p=>hs i x ys H hx p) hd
end
theorem Jfx {α:Type} {R:α→α→Prop} (anti:∀ a b,R a b→R b a→a=b):∀ {l r:List α},l.Perm r→l.Pairwise R→r.Pairwise R→l=r
 | [],r,p,_,_=>(p.symm.eq_nil).symm
 | x :: l,[],p,_,_=>absurd p.eq_nil (by simp)
 | x :: l,y :: r,p,h1,h2=>by
  have hx:=List.pairwise_cons.mp h1;have hy:=List.pairwise_cons.mp h2;have e:x=y:=by
   have m1:x∈y :: r:=p.mem_iff.mp (List.mem_cons_self ..);have m2:y∈x :: l:=p.mem_iff.mpr (List.mem_cons_self ..);rcases List.mem_cons.mp m1 with q | q
   ·exact q
   ·rcases List.mem_cons.mp m2 with q' | q'
    ·exact q'.symm
    ·exact anti _ _ (hx.1 _ q') (hy.1 _ q)
  subst e;rw [Jfx anti (List.perm_cons _ |>.mp p) hx.2 hy.2]
end L2
namespace L2
open PySem PySem.Spec PyProof.Rows
section
variable {X:Cx}
theorem JiT {ns:List Int} {us:List Value} (r:Jt (ns.map V.int) us):∃ xs:Array (Int×Tok),us.toArray=intItems xs∧ns=xs.toList.map (·.1):=by
 induction ns generalizing us with
 | nil=>cases r; exact ⟨#[],by simp [intItems],rfl⟩
 | cons n ns ih =>
  cases r with
  | cons r1 r2 =>
   obtain ⟨t,rfl⟩:=r1;obtain ⟨xs,h1,h2⟩:=ih r2;refine ⟨((n,t) :: xs.toList).toArray,?_,by rw [h2]; rfl⟩;have e:∀ {a b:List Value},a.toArray=b.toArray→a=b:=fun h=>by simpa using h
   unfold intItems at h1 ⊢;rw [List.map_toArray];have h3:=congrArg Array.toList h1;rw [Array.toList_map] at h3;simp only [List.map_cons];rw [← h3]
def JoE (K:PySem.W.Frag):List V→Hp→VK→Prop:=fun xs H Q=>∃ (l:Addr) (ns:List Int),xs=[.ref l]∧Jq K H l (ns.map V.int)∧0 < ns.length∧∀ M,M∈ns→(∀ a∈ns,a≤M)→Q (.int M) H
def JoD (K:PySem.W.Frag):List V→Hp→VK→Prop:=fun xs H Q=>∃ (l:Addr) (ns:List Int),xs=[.ref l]∧Jq K H l (ns.map V.int)∧0 < ns.length∧∀ M,M∈ns→(∀ a∈ns,M≤a)→Q (.int M) H
theorem JkY (hc:X.calm=true):Zb X (.builtin "max") (JoE X.K):=by
 intro pins s σ H xs us Q I r h;obtain ⟨l,ns,rfl,hl,hne,q⟩:=h;obtain ⟨u,rfl,ru⟩:=Jt.one r;cases ru;obtain ⟨its,rv,pl,_⟩:=I.list hl;obtain ⟨zs,e,rfl⟩:=JiT rv;have hsz:0 < zs.size:=by rw [List.length_map,Array.length_toList] at hne; exact hne
 have hl':=pl.isList;rw [e] at hl';refine max_intList (I.ok.hd hc) hl' hsz fun v h' tk hv hk=>?_
 obtain ⟨t,rfl⟩:=intItems_at hv;obtain ⟨h1,h2⟩:=argBest_gt (numAt zs) (zs.size - 1);refine ⟨.int (numAt zs _),H,I.kept hk,⟨_,rfl⟩,q _ ?_ fun a ha=>?_⟩
 ·rw [numAt_eq]; exact getD_mem (by rw [List.length_map,Array.length_toList]; omega)
 ·obtain ⟨j,hj,rfl⟩:=mem_getD ha;rw [List.length_map,Array.length_toList] at hj;rw [← numAt_eq]; exact h2 j (by omega)
theorem JkW (hc:X.calm=true):Zb X (.builtin "min") (JoD X.K):=by
 intro pins s σ H xs us Q I r h;obtain ⟨l,ns,rfl,hl,hne,q⟩:=h;obtain ⟨u,rfl,ru⟩:=Jt.one r;cases ru;obtain ⟨its,rv,pl,_⟩:=I.list hl;obtain ⟨zs,e,rfl⟩:=JiT rv;have hsz:0 < zs.size:=by rw [List.length_map,Array.length_toList] at hne; exact hne
 have hl':=pl.isList;rw [e] at hl';refine min_intList (I.ok.hd hc) hl' hsz fun v h' tk hv hk=>?_
 obtain ⟨t,rfl⟩:=intItems_at hv;obtain ⟨h1,h2⟩:=argBest_lt (numAt zs) (zs.size - 1);refine ⟨.int (numAt zs _),H,I.kept hk,⟨_,rfl⟩,q _ ?_ fun a ha=>?_⟩
 ·rw [numAt_eq]; exact getD_mem (by rw [List.length_map,Array.length_toList]; omega)
 ·obtain ⟨j,hj,rfl⟩:=mem_getD ha;rw [List.length_map,Array.length_toList] at hj;rw [← numAt_eq]; exact h2 j (by omega)
end
end L2
namespace L2
def Jan:List Int→Int
 | []=>0
 | [a]=>a
 | a :: b :: l=>if a≤Jan (b :: l) then Jan (b :: l) else a
def Jam:List Int→Int
 | []=>0
 | [a]=>a
 | a :: b :: l=>if Jam (b :: l)≤a then Jam (b :: l) else a
theorem Jee:∀ {l:List Int},l≠[]→Jan l∈l∧∀ x∈l,x≤Jan l
 | [],h=>absurd rfl h
 | [a],_=>⟨List.mem_singleton.mpr rfl,fun x hx=>by rw [List.mem_singleton.mp hx]; exact Int.le_refl _⟩
 | a :: b :: l,_=>by
  obtain ⟨h1,h2⟩:=Jee (l:=b :: l) (by simp);show (if a≤Jan (b :: l) then Jan (b :: l) else a)∈_∧∀ x∈_,x≤(if a≤Jan (b :: l) then Jan (b :: l) else a);by_cases h:a≤Jan (b :: l)
  ·rw [if_pos h];refine ⟨List.mem_cons_of_mem _ h1,fun x hx=>?_⟩;rcases List.mem_cons.mp hx with q | q
   ·rw [q]; exact h
   ·exact h2 x q
  ·rw [if_neg h];refine ⟨List.mem_cons_self ..,fun x hx=>?_⟩;rcases List.mem_cons.mp hx with q | q
   ·rw [q]; exact Int.le_refl _
   ·have:=h2 x q; omega
theorem Jed:∀ {l:List Int},l≠[]→Jam l∈l∧∀ x∈l,Jam l≤x
 | [],h=>absurd rfl h
 | [a],_=>⟨List.mem_singleton.mpr rfl,fun x hx=>by rw [List.mem_singleton.mp hx]; exact Int.le_refl _⟩
 | a :: b :: l,_=>by
  obtain ⟨h1,h2⟩:=Jed (l:=b :: l) (by simp);show (if Jam (b :: l)≤a then Jam (b :: l) else a)∈_∧∀ x∈_,(if Jam (b :: l)≤a then Jam (b :: l) else a)≤x;by_cases h:Jam (b :: l)≤a
  ·rw [if_pos h];refine ⟨List.mem_cons_of_mem _ h1,fun x hx=>?_⟩;rcases List.mem_cons.mp hx with q | q
   ·rw [q]; exact h
   ·exact h2 x q
  ·rw [if_neg h];refine ⟨List.mem_cons_self ..,fun x hx=>?_⟩;rcases List.mem_cons.mp hx with q | q
   ·rw [q]; exact Int.le_refl _
   ·have:=h2 x q; omega
theorem Jnc {l:List Int} {m:Int} (h1:m∈l) (h2:∀ x∈l,x≤m):m=Jan l:=by
 have hne:l≠[]:=fun e=>by rw [e] at h1; cases h1
 obtain ⟨h3,h4⟩:=Jee hne;have:=h2 _ h3;have:=h4 _ h1;omega
theorem Jna {l:List Int} {m:Int} (h1:m∈l) (h2:∀ x∈l,m≤x):m=Jam l:=by
 have hne:l≠[]:=fun e=>by rw [e] at h1; cases h1
 obtain ⟨h3,h4⟩:=Jed hne;have:=h2 _ h3;have:=h4 _ h1;omega
section
variable {α:Type}
def need (W:α→List α) (g:α→Bool) (c:Int):Nat→α→Bool→Int
 | 0,p,_=>if g p=true then 0 else c + 1
 | t + 1,p,r=>if g p=true then 0 else if (W p).isEmpty=true then c + 1 else
   if r=true then (if (Jam ((W p).map fun w=>need W g c t w false) + Jan ((W p).map fun w=>need W g c t w true)) / 2 > Jam ((W p).map fun w=>need W g c t w false) then (Jam ((W p).map fun w=>need W g c t w false) + Jan ((W p).map fun w=>need W g c t w true)) / 2 else Jam ((W p).map fun w=>need W g c t w false))
   else (if (Jam ((W p).map fun w=>need W g c t w false) + Jan ((W p).map fun w=>need W g c t w true) + 1) / 2 < Jan ((W p).map fun w=>need W g c t w true) then (Jam ((W p).map fun w=>need W g c t w false) + Jan ((W p).map fun w=>need W g c t w true) + 1) / 2 else Jan ((W p).map fun w=>need W g c t w true))
def loA (W:α→List α) (g:α→Bool) (c:Int) (t:Nat) (p:α) (r:Bool):Int:=Jam ((W p).map fun w=>need W g c t w r)
def hiB (W:α→List α) (g:α→Bool) (c:Int) (t:Nat) (p:α) (r:Bool):Int:=Jan ((W p).map fun w=>need W g c t w r)
variable {W:α→List α} {g:α→Bool} {c:Int} {t:Nat} {p:α} {r:Bool}
theorem Jec (h:g p=true):need W g c t p r=0:=by
 cases t with
 | zero=>show (if g p=true then 0 else c + 1)=0; rw [if_pos h]
 | succ t=>unfold need; rw [if_pos h]
theorem Jeb (h:g p=false) (hw:W p=[]):need W g c t p r=c + 1:=by
 cases t with
 | zero=>show (if g p=true then 0 else c + 1)=_; rw [if_neg (by rw [h]; exact Bool.false_ne_true)]
 | succ t=>unfold need; rw [if_neg (by rw [h]; exact Bool.false_ne_true),if_pos (by rw [hw]; rfl)]
theorem Jkq (h:g p=false):need W g c 0 p r=c + 1:=by
 show (if g p=true then 0 else c + 1)=_; rw [if_neg (by rw [h]; exact Bool.false_ne_true)]
theorem Jg9 {l:List α} (h:l≠[]):¬ (l.isEmpty=true):=fun e=>h (List.isEmpty_iff.mp e)
theorem Jks (h:g p=false) (hw:W p≠[]):need W g c (t + 1) p true=if (loA W g c t p false + hiB W g c t p true) / 2 > loA W g c t p false then (loA W g c t p false + hiB W g c t p true) / 2 else loA W g c t p false:=by
 unfold need loA hiB; rw [if_neg (by rw [h]; exact Bool.false_ne_true),if_neg (Jg9 hw),if_pos rfl]
theorem Jkr (h:g p=false) (hw:W p≠[]):need W g c (t + 1) p false=if (loA W g c t p false + hiB W g c t p true + 1) / 2 < hiB W g c t p true then (loA W g c t p false + hiB W g c t p true + 1) / 2 else hiB W g c t p true:=by
 unfold need loA hiB; rw [if_neg (by rw [h]; exact Bool.false_ne_true),if_neg (Jg9 hw),if_neg Bool.false_ne_true]
theorem Jl3 (hw:W p≠[]):(∃ w∈W p,loA W g c t p r=need W g c t w r)∧∀ w∈W p,loA W g c t p r≤need W g c t w r:=by
 have hne:(W p).map (fun w=>need W g c t w r)≠[]:=fun e=>hw (List.map_eq_nil_iff.mp e)
 obtain ⟨h1,h2⟩:=Jed hne;obtain ⟨w,h3,h4⟩:=List.mem_map.mp h1;exact ⟨⟨w,h3,h4.symm⟩,fun w hw=>h2 _ (List.mem_map.mpr ⟨w,hw,rfl⟩)⟩
theorem Jl7 (hw:W p≠[]):(∃ w∈W p,hiB W g c t p r=need W g c t w r)∧∀ w∈W p,need W g c t w r≤hiB W g c t p r:=by
 have hne:(W p).map (fun w=>need W g c t w r)≠[]:=fun e=>hw (List.map_eq_nil_iff.mp e)
 obtain ⟨h1,h2⟩:=Jee hne;obtain ⟨w,h3,h4⟩:=List.mem_map.mp h1;exact ⟨⟨w,h3,h4.symm⟩,fun w hw=>h2 _ (List.mem_map.mpr ⟨w,hw,rfl⟩)⟩
theorem JnI:∀ (t:Nat) (p:α),need W g c t p true≤need W g c t p false + 1∧need W g c t p false≤need W g c t p true + 1
 | 0,p=>by
  show (if g p=true then 0 else c + 1)≤(if g p=true then 0 else c + 1) + 1∧_;exact ⟨by omega,by show (if g p=true then 0 else c + 1)≤(if g p=true then 0 else c + 1) + 1; omega⟩
 | t + 1,p=>by
  cases hg:g p with
  | true=>rw [Jec hg,Jec hg]; omega
  | false =>
   by_cases hw:W p=[]
   ·rw [Jeb hg hw,Jeb hg hw]; omega
   ·obtain ⟨⟨w1,m1,e1⟩,_⟩:=Jl3 (W:=W) (g:=g) (c:=c) (t:=t) (p:=p) (r:=false) hw;obtain ⟨_,l2⟩:=Jl7 (W:=W) (g:=g) (c:=c) (t:=t) (p:=p) (r:=true) hw;have b1:=JnI t w1;have b2:=l2 w1 m1;rw [← e1] at b1;rw [Jks hg hw,Jkr hg hw];constructor <;> split <;> split <;> omega
def Jax (W:α→List α) (g:α→Bool) (c:Int) (t:Nat) (p:α) (k:Int) (r h:Bool):Option α:=(W p).find? fun w=>decide (need W g c t w r≤k) == h
def after (k:Int) (r:Bool) (b a:Int):Bool×Int×Bool :=
 if b > a then (!r,(if r then k + b else k - b),r) else if a > b then (r,(if r then k - a else k + a),r) else (r,(if r then k - a else k + a),!r)
def Ja4 (W:α→List α) (g:α→Bool) (c:Int) (t:Nat) (p:α) (k:Int) (r:Bool) (b a:Int):Bool :=
 (Jax W g c t p (after k r b a).2.1 (after k r b a).2.2 (after k r b a).1).isSome == ((after k r b a).1 == r)
def own (c k:Int) (r:Bool):Int:=if r then k else c - k
def JcX (W:α→List α) (g:α→Bool) (c:Int) (t:Nat) (p:α) (k:Int) (r:Bool) (b:Int):Option Int :=
 if Ja4 W g c t p k r b 0=true then some 0 else if b≤own c k r∧Ja4 W g c t p k r b b=true then some b else none
def Jiu (W:α→List α) (g:α→Bool) (c:Int) (t:Nat) (p:α) (k:Int) (r:Bool):Int :=
 if r then (if k - loA W g c t p false + 1 > 0 then k - loA W g c t p false + 1 else 0) else (if hiB W g c t p true - k > 0 then hiB W g c t p true - k else 0)
theorem Jk5 {k b:Int}:JcX W g c t p k r b=none↔¬ Ja4 W g c t p k r b 0=true∧¬ (b≤own c k r∧Ja4 W g c t p k r b b=true):=by
 unfold JcX;by_cases h0:Ja4 W g c t p k r b 0=true
 ·rw [if_pos h0]; exact ⟨fun h=>(nomatch h),fun h=>absurd h0 h.1⟩
 ·rw [if_neg h0];by_cases h1:b≤own c k r∧Ja4 W g c t p k r b b=true
  ·rw [if_pos h1]; exact ⟨fun h=>(nomatch h),fun h=>absurd h1 h.2⟩
  ·rw [if_neg h1]; exact ⟨fun _=>⟨h0,h1⟩,fun _=>rfl⟩
end
end L2
namespace L2
open PySem PySem.Spec PyProof.Rows
theorem Jo {K:PySem.W.Frag} {f:Addr} {x q:Str} {st:Stmt} (h:Yk K f q=Yn x q st):Fun K x q st f (JZ K f):=by
 obtain ⟨oc,od,kV,doc,pm,an,cdv,ct,osl,h1,h2,h3,h4⟩:=Jko h;exact ⟨⟨oc,od,kV,doc,pm,an,cdv,ct,osl,h1,h2,h3⟩,h4⟩
theorem YM {K:PySem.W.Frag} {f:Addr} {x q:Str} {st:Stmt} (h:Yk K f q=Yn x q st):PySem.W.keepIn K (.ref f)=true:=(Jo h).kp
def Jju:Sum Int Str→V
 | .inl i=>.int i
 | .inr x=>.str x
theorem JkM {v:Value} {x:Sum Int Str} (h:JdQ v=some x):JF (Jju x) v:=by
 unfold JdQ at h;split at h
 ·cases h; exact ⟨_,rfl⟩
 ·cases h; exact ⟨_,rfl⟩
 ·cases h
theorem JfQ:∀ {us:List Value} {xs:List (Sum Int Str)},us.map JdQ=xs.map some→Jt (xs.map Jju) us
 | [],[],_=>.nil
 | u :: us,x :: xs,h=>by
  rw [List.map_cons,List.map_cons,List.cons.injEq] at h;exact .cons (JkM h.1) (JfQ h.2)
 | [],_ :: _,h=>by cases h
 | _ :: _,[],h=>by cases h
theorem JnY {K:PySem.W.Frag} {n:Str} {xs:List (Sum Int Str)} (h:obT K n=some (true,xs.map some)) (H:Hp):J0 K H (Jj K n) (xs.map Jju):=by
 unfold obT at h;split at h
 ·rename_i its m sl e;have h:=Option.some.inj h;have h1:decide (its.size≤1000)=true:=congrArg Prod.fst h;have h2:its.toList.map JdQ=xs.map some:=congrArg Prod.snd h;exact .inr ⟨_,its,m,e,rfl,rfl,Nat.le_trans (of_decide_eq_true h1) (by decide),JfQ h2⟩
 ·cases h
theorem mgV {K:PySem.W.Frag} {h:Heap} {mg:Str→Option Value} {n:Str} {i:Int} (X:K.In h) (G:h.Ns mainGlobals mg) (e:obV K n=some (.inl i)):∃ u,mg n=some u∧JF (.int i) u:=by
 obtain ⟨t,z⟩:=Jm7 e;exact ⟨_,PySem.W.mg_of X G z,⟨_,rfl⟩⟩
theorem Jla {l:PySem.W.OpenLaw} {n k:Nat} {q:Program} {loose:List Str} {XP:(Str→Option Value)→Heap→Prop} {YP:World→Heap→Prop} {d:DefRec} {C:PySem.W.Frag→Prop} {CX:CXT} {sp:PySem.W.Frag→Sp} {x:Str}
  (hn:l.most=some n) (hn2:n≤sizeLine) (hdf:d.params.defaults=[]) (hr:YA k callerA)
  (hY:∀ (w:World) (h:Heap),YP w h→∃ K:PySem.W.Frag,K.In h∧C K)
  (F:∀ (w:World) (K:PySem.W.Frag) (mg:Str→Option Value) (fa:Addr) (h:Heap),C K→K.In h→h.Ns mainGlobals mg→mg d.name=some (.ref fa) →
   ∃ fd:FuncData,(∀ (s:Shared) (u:Value),BindsTo s fd ⟨[u],[]⟩ [(x,u)]) ∧
    ∀ base:Heap,K.In base→base.Ns mainGlobals mg→JM l.prog w K mg base CX k fa fd [x] (sp K))
  (hsp:∀ (K:PySem.W.Frag) (H:Hp) (a:Addr) (ns:List Int),ns.length≤n→Jmn H→Jq K H a (ns.map V.int)→sp K [.ref a] H (fun v _=>v=.bl true) fun _ _ _=>False)
  (hCX:∀ (H:Hp) (s:Shared) (e:Value) (s':Shared),CX [] H s (fun _ _ _=>False) e s'→False) :
  PySem.W.WalkO q loose XP YP l.row.toRowW d [] (fun f vs=>PySem.call f vs):=by
 refine Att.JiJ hn hdf fun w s₀ s₁ mg mb fa o pm cd doc a vs ns G Y ho hd hcd hmg hobj hints hlen hg=>?_
 obtain ⟨K,KX,hC⟩:=hY w _ Y;obtain ⟨fd,hb,hF⟩:=F w K mg fa _ hC KX G.T.g hmg;exact Jl4 KX G.T.g G.T.b G.T.builtins G.T.nolimit hg hobj hints (Nat.le_trans hlen hn2) hr hF hb (fun H hO hS=>hsp K H a ns hlen hO hS) fun H e s'=>hCX H s₁ e s'
end L2
namespace L2
open PySem PySem.Spec PyProof.Rows
theorem cxK {CX:CXT} {P:Program} {w:World} {K:PySem.W.Frag} {mg:Str→Option Value} {base:Heap} {N:List Str} {q:Str} {sc:Scope} {f:Addr} {cd:Value} {A:Around} {o:List Env} {s:Shared} {H:Hp} {E:XK}:(Zp CX P w K mg base N q sc f cd A o s H E).nox.K=K:=rfl
theorem Jeo {CX:CXT} {P:Program} {w:World} {K:PySem.W.Frag} {mg:Str→Option Value} {base:Heap} {N:List Str} {q:Str} {sc:Scope} {f:Addr} {cd:Value} {A:Around} {o:List Env} {s:Shared} {H:Hp} {E:XK}:(Zp CX P w K mg base N q sc f cd A o s H E).K=K:=rfl
theorem JgR:∀ {xs:List V} {us:List Value},Jt xs us→∀ i,Jt (xs.take i) (us.take i)
 | _,_,_,0=>.nil
 | _,_,.nil,i + 1=>.nil
 | _,_,.cons r t,i + 1=>.cons r (JgR t i)
theorem JgU:∀ {xs:List V} {us:List Value},Jt xs us→∀ i,Jt (xs.drop i) (us.drop i)
 | _,_,h,0=>h
 | _,_,.nil,i + 1=>.nil
 | _,_,.cons r t,i + 1=>JgU t i
def JmY:V→List V→Hp→VK→Prop:=fun x vs H Q=>∃ (l:Addr) (xs:List V) (i:Nat) (y:V),x=.ref l∧vs=[.int (i:Int),y]∧H l=some (.lst xs)∧i≤xs.length∧xs.length < sizeLine∧Q .non (upd H l (.lst (xs.take i ++ y :: xs.drop i)))
theorem JkG (l:Addr) (items:Array Value) (n:Nat) (x:Int) (t:Tok) (u:Value) (hf:¬(!Builtin.List.listFitsIndex x)=true) (hs:items.size≤sizeLine) :
  Meets (Builtin.«list.insert» ⟨[.ref l,.int x t,u],[]⟩) (fun _ R s=>s.heap.get? l=some { cls:=.type "list",dict:=none,data:=.seq items n,slots:=#[] }∧R (.ok (.ret Value.none)) { s with heap:=s.heap.update l (Obj.mapSeq fun xs=>have k:=if x < 0 then (x + (xs.size:Int)).toNat else min x.toNat xs.size; (xs.extract 0 k).push u ++ xs.extract k),toks:=s.toks }):=AutoSeq1.list_insert_list_int_val_1 l items n x t u hf hs
theorem Jg2 {X:Cx}:MtM X "list.insert" JmY:=by
 intro pins s σ H x vs v us Q I rx rv h;obtain ⟨l,xs,i,y,rfl,rfl,hH,hi,hz,q⟩:=h;cases rx;have szl:sizeLine=16777216:=sizeLine_eq;cases rv with
 | cons r1 rr =>
  cases rr with
  | cons r2 rr =>
   cases rr;rename_i u1 u2;obtain ⟨t,rfl⟩:=(show ∃ t,u1=Value.int (i:Int) t from r1)
   obtain ⟨z,its,n,r,hl,e⟩:=I.lstM hH;have hf:¬ (!Builtin.List.listFitsIndex (i:Int))=true:=by
    unfold Builtin.List.listFitsIndex;simp;omega
   have hs:its.toArray.size≤sizeLine:=by rw [List.size_toArray]; omega
   obtain ⟨x,hx⟩:∃ x:Int,x=(i:Int):=⟨_,rfl⟩
   rw [← hx] at hf ⊢;obtain ⟨A,hA⟩:∃ A,A=its.toArray:=⟨_,rfl⟩
   rw [← hA] at hs e;refine call_meets F.slot_list_insert ⟨_,e,rfl⟩ F.entry_list_insert (F.args_list_insert_3 _ _ _) (JkG l A n x t u2 hf hs) ⟨e,?_⟩;rw [hA] at e;refine ⟨.non,_,I.lset (its':=its.take i ++ u2 :: its.drop i) hH e ?_ ((JgR r i).append (.cons r2 (JgU r i))) ?_,rfl,q⟩
   ·have hk:(if x < 0 then (x + ((its.toArray.size:Nat):Int)).toNat else min x.toNat its.toArray.size)=i:=by
     rw [if_neg (by omega),List.size_toArray,hx,Int.toNat_natCast];omega
    show ((its.toArray.extract 0 (if x < 0 then (x + ((its.toArray.size:Nat):Int)).toNat else min x.toNat its.toArray.size)).push u2 ++ its.toArray.extract (if x < 0 then (x + ((its.toArray.size:Nat):Int)).toNat else min x.toNat its.toArray.size))=_;rw [hk];apply Array.ext';simp only [Array.toList_append,Array.toList_push,Array.toList_extract,List.extract_eq_drop_take];simp
    try exact List.take_of_length_le (by simp; try omega)
   ·rw [List.length_append,List.length_cons,List.length_take,List.length_drop];omega
end L2
set_option maxHeartbeats 1600000
namespace Pf
open PySem L2
theorem JhO:Jx ["text"] ["text"] (Jm JbH):=⟨rfl,rfl,rfl,by decide +kernel,rfl,by decide +kernel,by decide +kernel⟩
theorem Jhs:Jx ["hand"] ["hand"] (Jm Jcz):=⟨rfl,rfl,rfl,by decide +kernel,rfl,by decide +kernel,by decide +kernel⟩
theorem JlE:Jx ["hand"] ["hand"] (Jm Jgh):=⟨rfl,rfl,rfl,by decide +kernel,rfl,by decide +kernel,by decide +kernel⟩
theorem Jga:Jx ["number", "most"] ["number", "most"] (Jm JbO):=⟨rfl,rfl,rfl,by decide +kernel,rfl,by decide +kernel,by decide +kernel⟩
theorem Jgb:Jx ["north", "south"] ["north", "south"] (Jm JbR):=⟨rfl,rfl,rfl,by decide +kernel,rfl,by decide +kernel,by decide +kernel⟩
theorem JhP:Jx ["named", "coins"] ["named", "coins"] (Jm Jdd):=⟨rfl,rfl,rfl,by decide +kernel,rfl,by decide +kernel,by decide +kernel⟩
theorem JlG:Jx ["board", "place", "turns"] ["board", "place", "turns"] (Jm Jgj):=⟨rfl,rfl,rfl,by decide +kernel,rfl,by decide +kernel,by decide +kernel⟩
theorem JiB:Jx ["hand", "north", "south"] ["hand", "north", "south"] (Jm JdH):=⟨rfl,rfl,rfl,by decide +kernel,rfl,by decide +kernel,by decide +kernel⟩
theorem JnE:Jx ["hand", "price", "north", "south", "ribbon"] ["hand", "price", "north", "south", "ribbon"] (Jm Jjp):=⟨rfl,rfl,rfl,by decide +kernel,rfl,by decide +kernel,by decide +kernel⟩
theorem JgY:Jx ["north", "south", "ribbon", "bid", "answer", "bidder"] ["north", "south", "ribbon", "bid", "answer"] (Jm Je4):=⟨rfl,rfl,rfl,by decide +kernel,rfl,by decide +kernel,by decide +kernel⟩
theorem Jd0:Jx ["self", "board", "coins", "turns", "left"] ["self", "board", "coins", "turns"] (Jm Jde):=⟨rfl,rfl,rfl,by decide +kernel,rfl,by decide +kernel,by decide +kernel⟩
theorem Zt:Jx ["self", "turns", "row", "place", "ribbon"] ["self", "turns"] (Jm JaK):=⟨rfl,rfl,rfl,by decide +kernel,rfl,by decide +kernel,by decide +kernel⟩
theorem Z2:Jx ["self", "place", "turns", "ribbon", "victor", "leading", "led"] ["self", "place", "turns", "ribbon"] (Jm Jbq):=⟨rfl,rfl,rfl,by decide +kernel,rfl,by decide +kernel,by decide +kernel⟩
theorem Zv:Jx ["self", "place", "turns", "behind"] ["self", "place", "turns"] (Jm Ym):=⟨rfl,rfl,rfl,by decide +kernel,rfl,by decide +kernel,by decide +kernel⟩
theorem Zu:Jx ["self", "place", "turns", "behind"] ["self", "place", "turns"] (Jm Yl):=⟨rfl,rfl,rfl,by decide +kernel,rfl,by decide +kernel,by decide +kernel⟩
theorem JdV:Jx ["self", "place", "turns", "north", "ribbon"] ["self", "place", "turns", "north", "ribbon"] (Jm Jae):=⟨rfl,rfl,rfl,by decide +kernel,rfl,by decide +kernel,by decide +kernel⟩
theorem Jgd:Jx ["self", "place", "turns", "north", "ribbon"] ["self", "place", "turns", "north", "ribbon"] (Jm JbT):=⟨rfl,rfl,rfl,by decide +kernel,rfl,by decide +kernel,by decide +kernel⟩
theorem JdS:Jx ["self", "place", "turns", "ribbon", "need"] ["self", "place", "turns", "ribbon"] (Jm JcA):=⟨rfl,rfl,rfl,by decide +kernel,rfl,by decide +kernel,by decide +kernel⟩
theorem Jdo:Jx ["self", "place", "turns", "north", "ribbon", "victor"] ["self", "place", "turns", "north", "ribbon"] (Jm JbU):=⟨rfl,rfl,rfl,by decide +kernel,rfl,by decide +kernel,by decide +kernel⟩
theorem JaI:Jx ["self", "place", "turns", "north", "ribbon", "bid", "south", "answer"] ["self", "place", "turns", "north", "ribbon", "bid"] (Jm JaX):=⟨rfl,rfl,rfl,by decide +kernel,rfl,by decide +kernel,by decide +kernel⟩
theorem ZV:Jx ["self", "place", "turns", "settled", "holder", "leader", "step"] ["self", "place", "turns", "settled", "holder"] (Jm Jaf):=⟨rfl,rfl,rfl,by decide +kernel,rfl,by decide +kernel,by decide +kernel⟩
theorem Jc4:Jx ["self", "place", "turns", "north", "ribbon", "hand", "way"] ["self", "place", "turns", "north", "ribbon", "hand"] (Jm Jbp):=⟨rfl,rfl,rfl,by decide +kernel,rfl,by decide +kernel,by decide +kernel⟩
theorem JdZ:Jx ["things"] ["things"] (Jm JaJ):=⟨rfl,rfl,rfl,by decide +kernel,rfl,by decide +kernel,by decide +kernel⟩
theorem Jgc:Jx ["place", "places"] ["place", "places"] (Jm JbS):=⟨rfl,rfl,rfl,by decide +kernel,rfl,by decide +kernel,by decide +kernel⟩
theorem Jc3:Jx ["places", "place"] ["places"] (Jm Jbo):=⟨rfl,rfl,rfl,by decide +kernel,rfl,by decide +kernel,by decide +kernel⟩
theorem Jdm:Jx ["lanes", "places", "lane"] ["lanes", "places"] (Jm JbP):=⟨rfl,rfl,rfl,by decide +kernel,rfl,by decide +kernel,by decide +kernel⟩
theorem Jdn:Jx ["goals", "places", "goal"] ["goals", "places"] (Jm JbQ):=⟨rfl,rfl,rfl,by decide +kernel,rfl,by decide +kernel,by decide +kernel⟩
theorem Jhu:Jx ["self", "places", "lanes", "goals"] ["self", "places", "lanes", "goals"] (Jm JcB):=⟨rfl,rfl,rfl,by decide +kernel,rfl,by decide +kernel,by decide +kernel⟩
theorem JdF:Jx ["self", "place"] ["self", "place"] (Jm ZW):=⟨rfl,rfl,rfl,by decide +kernel,rfl,by decide +kernel,by decide +kernel⟩
theorem Jht:Jx ["self", "place"] ["self", "place"] (Jm Ja5):=⟨rfl,rfl,rfl,by decide +kernel,rfl,by decide +kernel,by decide +kernel⟩
theorem Je3:Jx ["self", "place"] ["self", "place"] (Jm Ja6):=⟨rfl,rfl,rfl,by decide +kernel,rfl,by decide +kernel,by decide +kernel⟩
theorem Joy:Jx ["_law_script", "_law_k"] ["_law_script", "_law_k"] (Jm JlI):=⟨rfl,rfl,rfl,by decide +kernel,rfl,by decide +kernel,by decide +kernel⟩
theorem Jcw:Jx ["_law_cell", "_law_many", "_law_base", "_law_rest", "_law_mixed", "_law_found", "_law_k"] ["_law_cell", "_law_many", "_law_base"] (Jm Jjo):=⟨rfl,rfl,rfl,by decide +kernel,rfl,by decide +kernel,by decide +kernel⟩
theorem JlC:Jx ["_law_found"] ["_law_found"] (Jm Jge):=⟨rfl,rfl,rfl,by decide +kernel,rfl,by decide +kernel,by decide +kernel⟩
theorem YG:Jx ["_law_cell", "_law_many", "_law_letters", "_law_free", "_law_found", "_law_k", "_law_places", "_law_size", "_law_head", "_law_more", "_law_name"] ["_law_cell", "_law_many"] (Jm JeA):=⟨rfl,rfl,rfl,by decide +kernel,rfl,by decide +kernel,by decide +kernel⟩
theorem Zg:Jx ["_law_cell", "_law_draw", "_law_size", "_law_pairs_here", "_law_many", "_law_k", "_law_ends", "_law_pair"] ["_law_cell", "_law_draw", "_law_size"] (Jm Jgg):=⟨rfl,rfl,rfl,by decide +kernel,rfl,by decide +kernel,by decide +kernel⟩
theorem Jcx:Jx ["_law_cell", "_law_kind", "_law_size", "_law_marks", "_law_found"] ["_law_cell", "_law_kind", "_law_size"] (Jm JeB):=⟨rfl,rfl,rfl,by decide +kernel,rfl,by decide +kernel,by decide +kernel⟩
theorem Zs:Jx ["_law_script", "_law_at_here", "_law_cell", "_law_size", "_law_names_here", "_law_kind", "_law_pairs_here", "_law_goals_here", "_law_lanes"] ["_law_script", "_law_at_here"] (Jm Jcy):=⟨rfl,rfl,rfl,by decide +kernel,rfl,by decide +kernel,by decide +kernel⟩
theorem JlD:Jx ["_law_cell"] ["_law_cell"] (Jm Jgf):=⟨rfl,rfl,rfl,by decide +kernel,rfl,by decide +kernel,by decide +kernel⟩
theorem JmX:Jx ["_law_cell"] ["_law_cell"] (Jm JhQ):=⟨rfl,rfl,rfl,by decide +kernel,rfl,by decide +kernel,by decide +kernel⟩
theorem JlF:Jx ["_law_found", "_law_due"] ["_law_found", "_law_due"] (Jm Jgi):=⟨rfl,rfl,rfl,by decide +kernel,rfl,by decide +kernel,by decide +kernel⟩
theorem Jad:Jx ["_law_ground_here", "_law_cells", "_law_names_here", "_law_lanes", "_law_goals_here", "_law_fresh", "_law_lot", "_law_end"] ["_law_ground_here", "_law_cells"] (Jm Jdp):=⟨rfl,rfl,rfl,by decide +kernel,rfl,by decide +kernel,by decide +kernel⟩
theorem JdE:Jx ["_law_books", "_law_place", "_law_left_here", "_law_north", "_law_ribbon", "_law_bid", "_law_sides", "_law_pairs_here", "_law_pair"] ["_law_books", "_law_place", "_law_left_here", "_law_north", "_law_ribbon", "_law_bid"] (Jm Jay):=⟨rfl,rfl,rfl,by decide +kernel,rfl,by decide +kernel,by decide +kernel⟩
theorem ZR:Jx ["_law_script", "_law_ground_here", "_law_wide", "_law_total_here", "_law_most", "_law_left_here", "_law_north", "_law_books", "_law_g", "_law_place", "_law_ribbon", "_law_bid"] ["_law_script"] (Jm JdG):=⟨rfl,rfl,rfl,by decide +kernel,rfl,by decide +kernel,by decide +kernel⟩
set_option genInjectivity false in
set_option genSizeOf false in
structure Txt (K:PySem.W.Frag) (mg:Str→Option Value) where
 Jdg:Addr
 JcP:FuncData
 Jdj:Df K mg "good_name" JbH ["text"] Jdg JcP
 JcS:Addr
 JbX:FuncData
 Jaw:Df K mg "check_hand" Jcz ["hand"] JcS JbX
 JgA:Addr
 Jfe:FuncData
 JeP:Df K mg "other" Jgh ["hand"] JgA Jfe
 Jb1:Addr
 Jbv:FuncData
 Y8:Df K mg "check_up_to" JbO ["number", "most"] Jb1 Jbv
 Jb4:Addr
 Jby:FuncData
 Jcb:Df K mg "check_coins" JbR ["north", "south"] Jb4 Jby
 Jdh:Addr
 JcQ:FuncData
 JaR:Df K mg "check_bid" Jdd ["named", "coins"] Jdh JcQ
 JgE:Addr
 Jfi:FuncData
 Jcs:Df K mg "ended" Jgj ["board", "place", "turns"] JgE Jfi
 JdR:Addr
 Jdf:FuncData
 JaE:Df K mg "coins_of" JdH ["hand", "north", "south"] JdR Jdf
 JjH:Addr
 Jin:FuncData
 Jf3:Df K mg "pay" Jjp ["hand", "price", "north", "south", "ribbon"] JjH Jin
 Jfk:Addr
 Jel:FuncData
 Jfr:Df K mg "settle" Je4 ["north", "south", "ribbon", "bid", "answer"] Jfk Jel
 JaM:Addr
 Jar:FuncData
 Y9:Df K mg "check_each_once" JaJ ["things"] JaM Jar
 Jb5:Addr
 Jbz:FuncData
 Zq:Df K mg "check_among" JbS ["place", "places"] Jb5 Jbz
 JbC:Addr
 Jbe:FuncData
 JbG:Df K mg "check_places" Jbo ["places"] JbC Jbe
 Jb2:Addr
 Jbw:FuncData
 Jb9:Df K mg "check_lanes" JbP ["lanes", "places"] Jb2 Jbw
 Jb3:Addr
 Jbx:FuncData
 Jca:Df K mg "check_goals" JbQ ["goals", "places"] Jb3 Jbx
 Jmc:Addr
 JjF:FuncData
 JaP:Df K mg "_law_at" JlI ["_law_script", "_law_k"] Jmc JjF
 JjG:Addr
 Jim:FuncData
 JeO:Df K mg "_law_row" Jjo ["_law_cell", "_law_many", "_law_base"] JjG Jim
 Jgx:Addr
 Jfb:FuncData
 JgK:Df K mg "_law_whole" Jge ["_law_found"] Jgx Jfb
 JgB:Addr
 Jff:FuncData
 JgN:Df K mg "_law_names" JeA ["_law_cell", "_law_many"] JgB Jff
 Jgz:Addr
 Jfd:FuncData
 JgM:Df K mg "_law_pairs" Jgg ["_law_cell", "_law_draw", "_law_size"] Jgz Jfd
 JgD:Addr
 Jfh:FuncData
 JgO:Df K mg "_law_goals" JeB ["_law_cell", "_law_kind", "_law_size"] JgD Jfh
 Jfl:Addr
 Jem:FuncData
 Jfs:Df K mg "_law_ground" Jcy ["_law_script", "_law_at_here"] Jfl Jem
 Jgy:Addr
 Jfc:FuncData
 JgL:Df K mg "_law_total" Jgf ["_law_cell"] Jgy Jfc
 Jip:Addr
 Jgv:FuncData
 Jiz:Df K mg "_law_left" JhQ ["_law_cell"] Jip Jgv
 JgC:Addr
 Jfg:FuncData
 JeQ:Df K mg "_law_holds" Jgi ["_law_found", "_law_due"] JgC Jfg
 Jgw:Addr
 Jfa:FuncData
 JgJ:Df K mg "_law_wider" Jdp ["_law_ground_here", "_law_cells"] Jgw Jfa
 JgF:Addr
 Jfj:FuncData
 JgP:Df K mg "_law_alike" Jay ["_law_books", "_law_place", "_law_left_here", "_law_north", "_law_ribbon", "_law_bid"] JgF Jfj
 JjI:Addr
 Jio:FuncData
 JmJ:Df K mg "law" JdG ["_law_script"] JjI Jio
 Jdz:Addr
 Jgu:mg "HANDS" = some (.ref Jdz)
 Jey:∀ H:Hp,J0 K H Jdz [.str "north",.str "south"]
 Jaa:Value
 Jbc:mg "MOST_SIGNS" = some Jaa
 Ja7:JF (.int 6) Jaa
 Z9:Value
 Jao:mg "MOST_TURNS" = some Z9
 Jag:JF (.int 30) Z9
 Jac:Value
 ZH:mg "MOST_COINS" = some Jac
 ZE:JF (.int 20) Jac
 ZQ:Value
 JaU:mg "MOST_PLACES" = some ZQ
 JaS:JF (.int 12) ZQ
 Jab:Value
 Jbd:mg "MOST_LANES" = some Jab
 Ja8:JF (.int 40) Jab
 JmB:mg "all" = none
 ZM:mg "len" = none
 JaC:mg "range" = none
 Jjw:mg "min" = none
 JdN:mg "max" = none
 JmA:mg "set" = none
 Jdu:mg "tuple" = none
 JdM:mg "sorted" = none
 Jal:mg "isinstance" = none
 Jjx:mg "int" = none
 Jkt:mg "bool" = none
 Jjv:mg "str" = none
 JcM:mg "list" = none
 Jc5:Addr
 JfW:mg "BidmoverError" = some (.ref Jc5)
 Jeh:Addr
 Jk1:mg "BadName" = some (.ref Jeh)
 YQ:Addr
 Jhh:mg "BadHand" = some (.ref YQ)
 JW:Addr
 JcW:mg "OutOfRange" = some (.ref JW)
 Jgt:Addr
 Jnk:mg "Twice" = some (.ref Jgt)
 Yu:Addr
 Jhg:mg "NoPlace" = some (.ref Yu)
 Jbu:Addr
 Jis:mg "BadBid" = some (.ref Jbu)
 Jz:Addr
 Jk0:mg "Book" = some (.ref Jz)
 JD:Cls K Jz
 JbJ:Addr
 JcR:FuncData
 Jdk:Md K Jz "__init__" "Book.__init__" Jde ["self", "board", "coins", "turns"] JbJ JcR
 JaN:Addr
 Jas:FuncData
 ZD:Md K Jz "needs_with" "Book.needs_with" JaK ["self", "turns"] JaN Jas
 JbE:Addr
 Jbg:FuncData
 JaF:Md K Jz "need_at" "Book.need_at" Jbq ["self", "place", "turns", "ribbon"] JbE Jbg
 YU:Addr
 YK:FuncData
 JY:Md K Jz "need_where_north_leads" "Book.need_where_north_leads" Ym ["self", "place", "turns"] YU YK
 YT:Addr
 YJ:FuncData
 JX:Md K Jz "need_where_south_leads" "Book.need_where_south_leads" Yl ["self", "place", "turns"] YT YJ
 Jat:Addr
 ZX:FuncData
 J1:Md K Jz "check_share" "Book.check_share" Jae ["self", "place", "turns", "north", "ribbon"] Jat ZX
 Jb6:Addr
 JbA:FuncData
 YR:Md K Jz "winner" "Book.winner" JbT ["self", "place", "turns", "north", "ribbon"] Jb6 JbA
 JcT:Addr
 JbY:FuncData
 Jbm:Md K Jz "least" "Book.least" JcA ["self", "place", "turns", "ribbon"] JcT JbY
 Jb7:Addr
 JbB:FuncData
 JaW:Md K Jz "bid_of" "Book.bid_of" JbU ["self", "place", "turns", "north", "ribbon"] Jb7 JbB
 Ja0:Addr
 JaL:FuncData
 ZP:Md K Jz "answer_of" "Book.answer_of" JaX ["self", "place", "turns", "north", "ribbon", "bid"] Ja0 JaL
 Jau:Addr
 ZY:FuncData
 Zz:Md K Jz "answer_wins" "Book.answer_wins" Jaf ["self", "place", "turns", "settled", "holder"] Jau ZY
 JbD:Addr
 Jbf:FuncData
 YF:Md K Jz "step_of" "Book.step_of" Jbp ["self", "place", "turns", "north", "ribbon", "hand"] JbD Jbf
 JiR:Mk K Jz JbJ
 Yb:ZK K Jz "board"
 Y6:ZK K Jz "coins"
 JbW:ZK K Jz "turns"
 Y5:ZK K Jz "needs"
 JC:Addr
 Ji6:mg "Board" = some (.ref JC)
 Yo:Cls K JC
 Jbi:Addr
 Jb0:FuncData
 Jc0:Md K JC "__init__" "Board.__init__" JcB ["self", "places", "lanes", "goals"] Jbi Jb0
 ZZ:Addr
 ZO:FuncData
 JU:Md K JC "check_place" "Board.check_place" ZW ["self", "place"] ZZ ZO
 JcU:Addr
 JbZ:FuncData
 Yx:Md K JC "ways" "Board.ways" Ja5 ["self", "place"] JcU JbZ
 Jbh:Addr
 JaZ:FuncData
 Z8:Md K JC "is_goal" "Board.is_goal" Ja6 ["self", "place"] Jbh JaZ
 Jid:Mk K JC Jbi
 Z5:ZK K JC "places"
 Jbs:ZK K JC "lanes"
 Jbt:ZK K JC "goals"
 Jf0:ExC K YQ
 Jb8:ExC K JW
 Jhm:ExC K Jbu
 Jml:ExC K Jgt
 JfZ:ExC K Yu
 JjS:ExC K Jeh
def hs:Bool→Str
 | true => "north"
 | false => "south"
theorem JjB (b:Bool):decide (V.str (hs b)=V.str "north")=b:=by cases b <;> decide +kernel
def Jbj (ns:List Int) (k:Int):Int:=if k < ns.length then ns.getD k.toNat 0 else 0
def YS (z:Str):Prop:=z.length≤1000∧∀ c∈z.cps.toList,c < 16 ^ 8
theorem JgW {z:Str} (h:YS z):(reprText z).length≤10002:=Nat.le_trans (PySem.StrLaws.reprText_len z h.2) (by have:=h.1; omega)
def Jmt (z:Str):Bool:=decide (z.length≤1000) && z.cps.toList.all fun c=>decide (c < 16 ^ 8)
theorem JmL {z:Str} (h:Jmt z=true):YS z:=by
 unfold Jmt at h;rw [Bool.and_eq_true] at h;exact ⟨of_decide_eq_true h.1,fun c hc=>of_decide_eq_true (List.all_eq_true.mp h.2 c hc)⟩
def ZT (z:Str):Bool:=z == "north" || z == "south"
theorem YD (b:Bool):ZT (hs b)=true:=by cases b <;> decide +kernel
theorem Jcq {z:Str} (h:ZT z=true):∃ b,z=hs b:=by
 unfold ZT at h;rcases Bool.or_eq_true_iff.mp h with q | q
 ·exact ⟨true,beq_iff_eq.mp q⟩
 ·exact ⟨false,beq_iff_eq.mp q⟩
theorem JkH (z:Str):inV (.str z) [.str "north",.str "south"]=ZT z:=by
 have h:∀ a b:Str,(a == b)=(b == a):=fun a b=>by rw [Bool.eq_iff_iff,beq_iff_eq,beq_iff_eq]; exact eq_comm
 show ((("north" : Str) == z) || ((("south" : Str) == z) || false))=(z == "north" || z == "south")
 rw [Bool.or_false,h "north" z,h "south" z]
theorem Zc (b:Bool):YS (hs b):=JmL (by cases b <;> decide +kernel)
theorem lt1 (a b:Nat):decide ([a] < [b])=decide (a < b):=by
 rw [Bool.eq_iff_iff,decide_eq_true_eq,decide_eq_true_eq];constructor
 ·intro h;cases h with
  | rel h=>exact h
  | cons h=>cases h
 ·exact fun h=>.rel h
def Zr (c:Nat):Bool:=decide (97≤c) && decide (c≤122)
def YV (z:Str):Bool:=decide (1≤z.length) && decide (z.length≤6) && z.cps.toList.all Zr
theorem Je9 {z:Str} (h:YV z=true):tm 6 z:=by
 unfold YV at h;rw [Bool.and_eq_true,Bool.and_eq_true,decide_eq_true_eq,decide_eq_true_eq] at h;refine ⟨h.1.2,fun c hc=>?_⟩;have z:=List.all_eq_true.mp h.2 c hc;unfold Zr at z;rw [Bool.and_eq_true,decide_eq_true_eq,decide_eq_true_eq] at z;have:c≤122:=z.2;omega
theorem Yz {z:Str} (h:YV z=true):YS z:=(Je9 h).mono (by decide)
structure Ja1 (ps:List Str) (zs:List (Str×Str)) (gs:List Str):Prop where
 p1:1≤ps.length
 p2:ps.length≤12
 p3:∀ p∈ps,YV p=true
 p4:ps.Nodup
 l1:zs.length≤40
 l2:∀ z∈zs,z.1∈ps∧z.2∈ps
 l3:zs.Nodup
 g1:∀ g∈gs,g∈ps
 g2:gs.Nodup
theorem Ja1.glen {ps:List Str} {zs:List (Str×Str)} {gs:List Str} (G:Ja1 ps zs gs):gs.length≤12:=by
 have:∀ {l r:List Str},l.Nodup→(∀ x∈l,x∈r)→l.length≤r.length:=by
  intro l
  induction l with
  | nil=>exact fun _ _=>Nat.zero_le _
  | cons x l ih =>
   intro r hn hs
   classical
   have hx:=hs x (List.mem_cons_self ..);have h1:=List.nodup_cons.mp hn;obtain ⟨r1,r2,rfl⟩:=List.append_of_mem hx;have z:=ih (r:=r1 ++ r2) h1.2 fun y hy=>by
    have:=hs y (List.mem_cons_of_mem _ hy);simp only [List.mem_append,List.mem_cons] at this ⊢;rcases this with q | q | q
    ·exact .inl q
    ·subst q; exact absurd hy h1.1
    ·exact .inr q
   simp only [List.length_append,List.length_cons] at z ⊢;omega
 exact Nat.le_trans (this G.g2 G.g1) G.p2
theorem JdO (z:Str) (ps:List Str):inV (.str z) (ps.map V.str)=decide (z∈ps):=by
 rw [Bool.eq_iff_iff,decide_eq_true_eq];unfold inV;rw [List.any_eq_true];constructor
 ·rintro ⟨v,hv,e⟩;obtain ⟨y,hy,rfl⟩:=List.mem_map.mp hv;have e':(y == z)=true:=e;rw [← beq_iff_eq.mp e'];exact hy
 ·intro h;exact ⟨.str z,List.mem_map.mpr ⟨z,h,rfl⟩,beq_iff_eq.mpr rfl⟩
theorem Jc6 (ps:List Str):(ps.map V.str).all Jcl=true:=by
 rw [List.all_map,List.all_eq_true];exact fun _ _=>rfl
def JdJ (p:Str×Str):List JP:=[.inr p.1,.inr p.2]
theorem JlN {p q:Str×Str} (h:JdJ p=JdJ q):p=q:=by
 unfold JdJ at h;simp only [List.cons.injEq,Sum.inr.injEq,and_true] at h;exact Prod.ext h.1 h.2
theorem JiC {zs:List (Str×Str)} (h:zs.Nodup):(zs.map JdJ).Nodup:=by
 rw [List.Nodup,List.pairwise_map];exact List.Pairwise.imp (fun hne e=>hne (JlN e)) h
theorem JfD {K:PySem.W.Frag} {H:Hp} {zs:List (V×(Str×Str))} (h:Yd K H zs):JdA K H (zs.map (·.1)) ((zs.map (·.2)).map JdJ):=by
 refine ⟨by simp,fun i v ks hv hk=>?_⟩;rw [List.getElem?_map] at hv;obtain ⟨z,hz,rfl⟩:=Option.map_eq_some_iff.mp hv;rw [List.getElem?_map,List.getElem?_map,hz] at hk;have hk':JdJ z.2=ks:=Option.some.inj hk;rw [← hk'];exact h z (List.mem_of_getElem? hz)
theorem Yh {K:PySem.W.Frag} {H H':Hp} {zs:List (V×(Str×Str))} (h:Yd K H zs) (e:Jg H H'):Yd K H' zs:=fun z hz=>let ⟨a,h1,h2⟩:=h z hz; ⟨a,h1,e.tup h2⟩
def JaG (K:PySem.W.Frag) (C:Addr) (H:Hp) (b:Addr) (ps:List Str) (zs:List (V×(Str×Str))) (gs:List Str):Prop :=
 ∃ dx tp tl tg,H b=some (.ins C dx [("places",.ref tp),("lanes",.ref tl),("goals",.ref tg)])∧H tp=some (.tup (ps.map V.str))∧H tl=some (.tup (zs.map (·.1)))∧Yd K H zs∧H tg=some (.tup (gs.map V.str))
theorem JaG.same {K:PySem.W.Frag} {C:Addr} {H H':Hp} {b:Addr} {ps:List Str} {zs:List (V×(Str×Str))} {gs:List Str} (h:JaG K C H b ps zs gs) (e:Jg H H'):JaG K C H' b ps zs gs :=
 let ⟨dx,tp,tl,tg,h1,h2,h3,h4,h5⟩:=h; ⟨dx,tp,tl,tg,e _ _ h1,e _ _ h2,e _ _ h3,Yh h4 e,e _ _ h5⟩
def Zl (b:Addr) (H H':Hp):Prop:=∀ a u,a≠b→H a=some u→H' a=some u
theorem Zl.of {b:Addr} {H H':Hp} (e:Jg H H'):Zl b H H':=fun a u _ h=>e a u h
theorem Zl.trans {b:Addr} {H H' H2:Hp} (e:Zl b H H') (e2:Zl b H' H2):Zl b H H2:=fun a u hn h=>e2 a u hn (e a u hn h)
theorem Zl.put {b:Addr} {H:Hp} {o:HO}:Zl b H (upd H b o):=fun a u hn h=>by rw [Jl hn]; exact h
theorem Zl.seq {K:PySem.W.Frag} {b l C dx:Addr} {fs:List (Str×V)} {H H':Hp} {xs:List V} (e:Zl b H H') (hb:H b=some (.ins C dx fs)) (h:Jq K H l xs):Jq K H' l xs:=by
 rcases h with (h | ⟨o,h⟩) | h
 ·exact .inl (.inl (e _ _ (ZC h hb (fun z=>nomatch z)) h))
 ·exact .inl (.inr ⟨o,e _ _ (ZC h hb (fun z=>nomatch z)) h⟩)
 ·exact .inr h
theorem Zl.tup {K:PySem.W.Frag} {b l C dx:Addr} {fs:List (Str×V)} {H H':Hp} {xs:List V} (e:Zl b H H') (hb:H b=some (.ins C dx fs)) (h:J0 K H l xs):J0 K H' l xs:=by
 rcases h with (h | ⟨o,h⟩) | h
 ·exact .inl (.inl (e _ _ (ZC h hb (fun z=>nomatch z)) h))
 ·exact .inl (.inr ⟨o,e _ _ (ZC h hb (fun z=>nomatch z)) h⟩)
 ·exact .inr h
def JmT:Sp:=fun vs H Q _=>∃ z:Str,vs=[.str z]∧z.length≤1000∧∀ H',Jg H H'→Q (.bl (YV z)) H'
def JmQ (K:PySem.W.Frag):Sp:=fun vs H Q _=>∃ l:Addr,vs=[.ref l]∧((∃ ss:List Str,Jq K H l (ss.map V.str)∧ss.length≤64∧ss.Nodup)∨(∃ (us:List V) (kss:List (List JP)),Jq K H l us∧JdA K H us kss∧kss.length≤64∧kss.Nodup))∧∀ H',Jg H H'→Q .non H'
def Jlr (K:PySem.W.Frag) (k:Addr):Sp:=fun vs H Q E=>∃ (z:Str) (t:Addr) (ps:List Str),vs=[.str z,.ref t]∧YS z∧(Jq K H t (ps.map V.str)∨J0 K H t (ps.map V.str))∧(z∈ps→Q .non H)∧(z∉ps→E (.ref k) none H)
def Jji (K:PySem.W.Frag):Sp:=fun vs H Q _=>∃ (l:Addr) (ps:List Str),vs=[.ref l]∧Jq K H l (ps.map V.str)∧1≤ps.length∧ps.length≤12∧(∀ p∈ps,YV p=true)∧ps.Nodup∧∀ H',Jg H H'→Q .non H'
def Jj6 (K:PySem.W.Frag):Sp:=fun vs H Q _=>∃ (l lp:Addr) (zs:List (V×(Str×Str))) (ps:List Str),vs=[.ref l,.ref lp]∧Jq K H l (zs.map (·.1))∧Yd K H zs∧Jq K H lp (ps.map V.str)∧(∀ p∈ps,YS p)∧zs.length≤40∧(∀ z∈zs,z.2.1∈ps∧z.2.2∈ps)∧(zs.map (·.2)).Nodup∧∀ H',Jg H H'→Q .non H'
def Jj7 (K:PySem.W.Frag):Sp:=fun vs H Q _=>∃ (l lp:Addr) (gs ps:List Str),vs=[.ref l,.ref lp]∧Jq K H l (gs.map V.str)∧Jq K H lp (ps.map V.str)∧(∀ p∈ps,YS p)∧gs.length≤64∧(∀ g∈gs,g∈ps)∧gs.Nodup∧∀ H',Jg H H'→Q .non H'
def JiK (K:PySem.W.Frag) (C:Addr):Sp:=fun vs H Q _=>∃ (b lp ll lg dx:Addr) (ps:List Str) (zs:List (V×(Str×Str))) (gs:List Str),vs=[.ref b,.ref lp,.ref ll,.ref lg]∧H b=some (.ins C dx [])∧Jq K H lp (ps.map V.str)∧Jq K H ll (zs.map (·.1))∧Yd K H zs∧Jq K H lg (gs.map V.str)∧Ja1 ps (zs.map (·.2)) gs ∧
 ∀ H' ps' zs' gs',Zl b H H'→ps'.Perm ps→ps'.Pairwise sle→zs'.Perm zs→(zs'.map (·.2)).Pairwise ple→gs'.Perm gs→gs'.Pairwise sle→JaG K C H' b ps' zs' gs'→Q .non H'
def Jj5 (K:PySem.W.Frag) (C k:Addr):Sp:=fun vs H Q E=>∃ (b:Addr) (z:Str) (ps:List Str) (zs:List (V×(Str×Str))) (gs:List Str),vs=[.ref b,.str z]∧YS z∧JaG K C H b ps zs gs∧(z∈ps→Q .non H)∧(z∉ps→E (.ref k) none H)
def Js (zs:List (Str×Str)) (p:Str):List Str:=(zs.filter fun z=>decide (z.1=p)).map (·.2)
def JmO (K:PySem.W.Frag) (C k:Addr):Sp:=fun vs H Q E=>∃ (b:Addr) (z:Str) (ps:List Str) (zs:List (V×(Str×Str))) (gs:List Str),vs=[.ref b,.str z]∧YS z∧zs.length≤40∧JaG K C H b ps zs gs∧(z∈ps→∀ t H',Jg H H'→H' t=some (.tup ((Js (zs.map (·.2)) z).map V.str))→Q (.ref t) H')∧(z∉ps→E (.ref k) none H)
def Jj3 (K:PySem.W.Frag) (C k:Addr):Sp:=fun vs H Q E=>∃ (b:Addr) (z:Str) (ps:List Str) (zs:List (V×(Str×Str))) (gs:List Str),vs=[.ref b,.str z]∧YS z∧JaG K C H b ps zs gs∧(z∈ps→Q (.bl (decide (z∈gs))) H)∧(z∉ps→E (.ref k) none H)
def Jox (K:PySem.W.Frag):Sp:=fun vs H Q _=>∃ (a:Addr) (ns:List Int) (k:Int),vs=[.ref a,.int k]∧Jq K H a (ns.map V.int)∧0≤k∧Q (.int (Jbj ns k)) H
def Jjj (K:PySem.W.Frag):Sp:=fun vs H Q _=>∃ (a:Addr) (ns:List Int),vs=[.ref a]∧Jq K H a (ns.map V.int)∧ns.length≤63∧∀ H',Q (.bl true) H'
def Jnx:Sp:=fun vs H Q _=>∃ (c:Int) (n:Nat) (b:Int),vs=[.int c,.int n,.int b]∧n≤1000∧0 < b∧b < 1000000∧∀ (p:Addr) (xs:List Int) (H':Hp),H p=none→Jg H H'→H' p=some (.lst (xs.map V.int))→xs.length=n→(∀ x∈xs,0≤x∧x < b)→Q (.ref p) H'
theorem Jd9 {α:Type}:∀ {l r:List α},l.Nodup→(∀ x∈l,x∈r)→l.length≤r.length
 | [],_,_,_=>Nat.zero_le _
 | x :: l,r,hn,hs=>by
  have hx:=hs x (List.mem_cons_self ..);have h1:=List.nodup_cons.mp hn;obtain ⟨r1,r2,rfl⟩:=List.append_of_mem hx;have z:=Jd9 (l:=l) (r:=r1 ++ r2) h1.2 fun y hy=>by
   have:=hs y (List.mem_cons_of_mem _ hy);simp only [List.mem_append,List.mem_cons] at this ⊢;rcases this with q | q | q
   ·exact .inl q
   ·subst q; exact absurd hy h1.1
   ·exact .inr q
  simp only [List.length_append,List.length_cons] at z ⊢;omega
theorem Jcn {xs:List Int} {e:Int} (h0:0≤e) (h1:e < xs.length):∃ y,atI (xs.map V.int) e=some (.int y)∧y∈xs:=by
 obtain ⟨j,rfl⟩:∃ j:Nat,e=(j:Int):=⟨e.toNat,by omega⟩
 have hj:j < xs.length:=by omega
 exact ⟨xs[j],ZU (by rw [List.getElem?_map,List.getElem?_eq_getElem hj]; rfl),List.getElem_mem hj⟩
def LT:Str := "abcdefghijklmnopqrstuvwxyz"
theorem Jg5 {j:Int} (h0:0≤j) (h1:j < 26):atI LT.cps.toList j=some (97 + j.toNat):=by
 obtain ⟨i,rfl⟩:∃ i:Nat,j=(i:Int):=⟨j.toNat,by omega⟩
 have hi:i < 26:=by omega
 refine ZU ?_;rw [Int.toNat_natCast];have z:∀ i,i < 26→LT.cps.toList[i]?=some (97 + i):=by decide +kernel
 exact z i hi
theorem Jk8:LT.length≤sizeLine:=by decide +kernel
theorem JhL {j:Nat} (h:j < 26):Zr (97 + j)=true:=by
 unfold Zr;rw [decide_eq_true (by omega),decide_eq_true (by omega)]; rfl
theorem JfM:∀ {ys:List Str},(∀ y∈ys,∃ c,y=⟨#[c]⟩∧Zr c=true)→(Str.join Str.empty ys).length=ys.length∧∀ c∈(Str.join Str.empty ys).cps.toList,Zr c=true
 | [],_=>⟨rfl,fun c hc=>by simp [Str.join,Str.empty] at hc⟩
 | [y],h=>by
  obtain ⟨c,rfl,hc⟩:=h y (List.mem_cons_self ..);exact ⟨rfl,fun d hd=>by
   have e:d=c:=by simpa [Str.join] using hd
   rw [e]; exact hc⟩
 | y :: x :: r,h=>by
  obtain ⟨c,rfl,hc⟩:=h y (List.mem_cons_self ..);obtain ⟨a,b⟩:=JfM (ys:=x :: r) fun q hq=>h q (List.mem_cons_of_mem _ hq)
  have e:Str.join Str.empty (⟨#[c]⟩ :: x :: r)=(⟨#[c]⟩:Str) ++ Str.empty ++ Str.join Str.empty (x :: r):=rfl;rw [e];refine ⟨?_,fun d hd=>?_⟩
  ·rw [strLen_append,strLen_append,a];simp only [List.length_cons];show 1 + 0 + _=_;omega
  ·rcases PyProof.Rows.mem_cps_append.mp hd with q | q
   ·rcases PyProof.Rows.mem_cps_append.mp q with q | q
    ·have e2:d=c:=by simpa using q
     rw [e2]; exact hc
    ·simp [Str.empty] at q
   ·exact b d q
def nam (hd:Str) (j:Nat):Str:=hd ++ ⟨#[97 + j]⟩
theorem Jl0 {hd:Str} {j:Nat} (h1:hd.length≤5) (h2:∀ c∈hd.cps.toList,Zr c=true) (hj:j < 26):YV (nam hd j)=true:=by
 unfold YV nam;have e:(hd ++ (⟨#[97 + j]⟩:Str)).length=hd.length + 1:=by rw [strLen_append]; rfl
 rw [Bool.and_eq_true,Bool.and_eq_true,decide_eq_true_eq,decide_eq_true_eq,e,List.all_eq_true];refine ⟨⟨by omega,by omega⟩,fun c hc=>?_⟩;rcases PyProof.Rows.mem_cps_append.mp hc with q | q
 ·exact h2 c q
 ·have e2:c=97 + j:=by simpa using q
  rw [e2]; exact JhL hj
theorem Jm8 {hd:Str} {i j:Nat} (h:nam hd i=nam hd j):i=j:=by
 have e:(hd.cps ++ #[97 + i])=(hd.cps ++ #[97 + j]):=congrArg Str.cps h;have e2:=congrArg Array.toList e;rw [Array.toList_append,Array.toList_append] at e2;have e3:=List.append_cancel_left e2;simp at e3;omega
theorem Jl1 {hd:Str} {x:Int} {ss:List Str} (h:ss.length < 26) (hx:∀ m:Nat,m < 26→nam hd ((x + m) % 26).toNat∈ss):False:=by
 have nd:((List.range 26).map fun m=>nam hd ((x + (m:Nat)) % 26).toNat).Nodup:=by
  rw [List.Nodup,List.pairwise_map];refine List.Pairwise.imp_of_mem ?_ (List.pairwise_lt_range (n:=26));intro a b ha hb hlt e;have e2:=Jm8 e;have:=List.mem_range.mp ha;have:=List.mem_range.mp hb;have h1:=Int.emod_nonneg (x + (a:Nat)) (b:=26) (by decide);have h2:=Int.emod_nonneg (x + (b:Nat)) (b:=26) (by decide);omega
 have z:=Jd9 (r:=ss) nd fun y hy=>by
  obtain ⟨m,hm,rfl⟩:=List.mem_map.mp hy;exact hx m (List.mem_range.mp hm)
 rw [List.length_map,List.length_range] at z;omega
theorem Ji4 {xs:List Int} {k:Int} (h0:0≤k) (h1:k≤xs.length):((JaO (xs.map V.int) none (some k)).length:Int)=k:=by
 unfold JaO;rw [List.length_map,HT.JlJ];show ((List.take ((if k < 0 then _ else _) - 0) _).length:Int)=k;rw [if_neg (by omega),List.length_take,List.length_drop,List.length_map];omega
theorem Jiq {xs:List Int} {lo hi:Option Int}:∃ ys:List Int,JaO (xs.map V.int) lo hi=ys.map V.int∧∀ y∈ys,y∈xs:=by
 refine ⟨(xs.drop (HT.sIx xs.length 0 lo)).take (HT.sIx xs.length xs.length hi - HT.sIx xs.length 0 lo),?_,fun y hy=>List.mem_of_mem_drop (List.mem_of_mem_take hy)⟩;unfold JaO;rw [List.length_map,List.map_take,List.map_drop]
def Jll:Sp:=fun vs H Q _=>∃ (c:Int) (n:Nat),vs=[.int c,.int n]∧1≤n∧n≤12∧∀ (p:Addr) (ss:List Str) (H':Hp),H p=none→Jg H H'→H' p=some (.lst (ss.map V.str))→ss.length=n→(∀ s∈ss,YV s=true)→ss.Nodup→Q (.ref p) H'
def Jk9 (K:PySem.W.Frag) (H:Hp) (zs:List (V×(Int×Int))):Prop:=∀ z∈zs,∃ a,z.1=.ref a∧J0 K H a [.int z.2.1,.int z.2.2]
def Jej (p:Int×Int):List JP:=[.inl p.1,.inl p.2]
theorem Jl5 {p q:Int×Int} (h:Jej p=Jej q):p=q:=by
 unfold Jej at h;simp only [List.cons.injEq,Sum.inl.injEq,and_true] at h;exact Prod.ext h.1 h.2
theorem JiF {K:PySem.W.Frag} {H:Hp} {zs:List (V×(Int×Int))} (h:Jk9 K H zs):JdA K H (zs.map (·.1)) ((zs.map (·.2)).map Jej):=by
 refine ⟨by simp,fun i v ks hv hk=>?_⟩;rw [List.getElem?_map] at hv;obtain ⟨z,hz,rfl⟩:=Option.map_eq_some_iff.mp hv;rw [List.getElem?_map,List.getElem?_map,hz] at hk;have hk':Jej z.2=ks:=Option.some.inj hk;rw [← hk'];exact h z (List.mem_of_getElem? hz)
structure PW (K:PySem.W.Frag) (H0:Hp) (pl:Addr) (size:Nat) (H:Hp) (zs:List (V×(Int×Int))):Prop where
 sm:Jg H0 H
 at_:H pl=some (.lst (zs.map (·.1)))
 ip:Jk9 K H zs
 nd:(zs.map (·.2)).Nodup
 rg:∀ z∈zs,(0≤z.2.1∧z.2.1 < size)∧(0≤z.2.2∧z.2.2 < size)
theorem PW.add {K:PySem.W.Frag} {H0:Hp} {pl:Addr} {size:Nat} {H H':Hp} {zs:List (V×(Int×Int))} (h:PW K H0 pl size H zs) (n0:H0 pl=none) (e:Jg H H') {t:Addr} {a b:Int} (ht:H' t=some (.tup [.int a,.int b]))
  (hn:(a,b)∉zs.map (·.2)) (hr:(0≤a∧a < size)∧(0≤b∧b < size)):PW K H0 pl size (upd H' pl (.lst (zs.map (·.1) ++ [.ref t]))) (zs ++ [(.ref t,(a,b))]):=by
 have hp':=e _ _ h.at_;have tup:∀ {a:Addr} {xs:List V},J0 K H' a xs→J0 K (upd H' pl (.lst (zs.map (·.1) ++ [.ref t]))) a xs:=fun {a xs} q=>by
  rcases q with (q | ⟨o,q⟩) | q
  ·exact .inl (.inl (by rw [Jl (ZC q hp' (fun z=>nomatch z))]; exact q))
  ·exact .inl (.inr ⟨o,by rw [Jl (ZC q hp' (fun z=>nomatch z))]; exact q⟩)
  ·exact .inr q
 refine ⟨fun b' u q=>?_,by rw [Jf,List.map_append]; rfl,fun z hz=>?_,?_,fun z hz=>?_⟩
 ·rw [Jl (Jn q n0)]; exact e _ _ (h.sm _ _ q)
 ·rcases List.mem_append.mp hz with q | q
  ·obtain ⟨c,h1,h2⟩:=h.ip z q;exact ⟨c,h1,tup (e.tup h2)⟩
  ·rw [List.mem_singleton.mp q];exact ⟨t,rfl,tup (J0.of ht)⟩
 ·rw [List.map_append,List.nodup_append];refine ⟨h.nd,by simp,fun x hx y hy q=>?_⟩;have hy':y=(a,b):=by simpa using hy
  rw [q,hy'] at hx;exact hn hx
 ·rcases List.mem_append.mp hz with q | q
  ·exact h.rg z q
  ·rw [List.mem_singleton.mp q]; exact hr
def Jli (K:PySem.W.Frag):Sp:=fun vs H Q _=>∃ (c d:Int) (n:Nat),vs=[.int c,.int d,.int n]∧1≤n∧n≤12∧∀ (p:Addr) (zs:List (V×(Int×Int))) (H':Hp),H p=none→PW K H p n H' zs→zs.length≤40→Q (.ref p) H'
section
variable {P:Program} {w:World} {K:PySem.W.Frag} {mg:Str→Option Value} {base:Heap}
theorem Z4 (T:Txt K mg):JM P w K mg base Zk 1 T.Jmc T.JjF ["_law_script", "_law_k"] (Jox K):=by
 refine T.JaP.F.ok Joy (fun vs H Q E h=>?_) (fun cdv A outer s H vs Q E hr h=>?_)
 ·obtain ⟨a,ns,k,rfl,_⟩:=h;rfl
 ·obtain ⟨a,ns,k,rfl,hS,h0,q⟩:=h;refine ⟨_,(@Jd _ _ _ _ _ (@JN _ _ _ _ _ _ _ _ (@Jr _ _ _ _ _ _ _ _ (@Ja9 _) (@pv _ 1 _ _ rfl (.inl rfl) rfl rfl) (@JO _ _ _ _ _ _ _ _ _ (@Yp _) rfl T.ZM PySem.boot_len (@Ja _ _ _ _ _ (@pv _ 0 _ _ rfl (.inl rfl) rfl rfl) (@Jc _) rfl) (by decide) (by decide) rfl rfl) (JB _)) (@Jh _ _ _ (@JA _ _ _ _ (@JG _ _ _ _ _ _ _ (@JH _) (@pv _ 0 _ _ rfl (.inl rfl) rfl rfl) (@pv _ 1 _ _ rfl (.inl rfl) rfl rfl) (fun _ _=>rfl)))) (@Jw _)) (@Jh _ _ _ (@JA _ _ _ _ (@Jb _ _ _ _)))),?_⟩;refine ⟨_,rfl,_,rfl,a,_,rfl,.inl hS,_,_,rfl,rfl,_,rfl,?_⟩;rw [List.length_map];refine Yr (fun c=>?_) (fun c=>?_)
  ·have c':k < ns.length:=of_decide_eq_true c;refine ⟨_,rfl,_,rfl,a,_,k,.int (Jbj ns k),rfl,rfl,hS,?_,q⟩;obtain ⟨j,rfl⟩:∃ j:Nat,k=(j:Int):=⟨k.toNat,by omega⟩
   have hj:j < ns.length:=by omega
   refine ZU ?_;rw [List.getElem?_map];unfold Jbj;rw [if_pos c',Int.toNat_natCast,List.getD_eq_getElem?_getD,List.getElem?_eq_getElem hj];rfl
  ·have c':¬ k < ns.length:=fun z=>c (decide_eq_true z)
   have e:Jbj ns k=0:=by unfold Jbj; rw [if_neg c']
   rw [e] at q;exact q
theorem JfF (T:Txt K mg):JM P w K mg base Zk 1 T.JjG T.Jim ["_law_cell", "_law_many", "_law_base"] Jnx:=by
 refine T.JeO.F.ok Jcw (fun vs H Q E h=>?_) (fun cdv A outer s H vs Q E hr h=>?_)
 ·obtain ⟨_,_,_,rfl,_⟩:=h;rfl
 ·obtain ⟨c,n,b,rfl,hn,hb0,hb1,q⟩:=h;refine ⟨_,(@Jd _ _ _ _ _ (@Ju _ _ 3 _ _ _ _ Jcw.nd rfl (Or.inl rfl) (@Ji _ _ _ _ _ _ _ _ (@Yq _) (@pv _ 0 _ _ rfl (.inl rfl) rfl rfl) (@Jb _ _ _ _)) rfl (.inl rfl)) (@Jd _ _ _ _ _ (@Ju _ _ 4 _ _ _ _ Jcw.nd rfl (Or.inl rfl) (@Ji _ _ _ _ _ _ _ _ (@JL _) (@pv _ 0 _ _ rfl (.inl rfl) rfl rfl) (@Jb _ _ _ _)) rfl (.inl rfl)) (@Jd _ _ _ _ _ (@Ju _ _ 5 _ _ _ _ Jcw.nd rfl (Or.inl rfl) (@YC _ _ _ _ (@Jc _)) rfl (.inl rfl)) (@Jd _ _ _ _ _ (@YH _ _ _ _ _ _ _ _ PassesOwn.never rfl (@Jah _ _ _ _ _ _ rfl T.JaC (@Ja _ _ _ _ _ (@pv _ 1 _ _ rfl (.inl rfl) rfl rfl) (@Jc _) rfl) rfl) (@Yj _ _ 6 _ Jcw.nd rfl (Or.inl rfl) (.inl rfl)) (@Jd _ _ _ _ _ (@Ju _ _ 4 _ _ _ _ Jcw.nd rfl (Or.inl rfl) (@Ji _ _ _ _ _ _ _ _ (@JL _) (@Ji _ _ _ _ _ _ _ _ (@JQ _) (@Ji _ _ _ _ _ _ _ _ (@JQ _) (@Ji _ _ _ _ _ _ _ _ (@ZS _) (@pv _ 4 _ _ rfl (.inl rfl) rfl rfl) (@Jb _ _ _ _)) (@Ji _ _ _ _ _ _ _ _ (@ZS _) (@Jb _ _ _ _) (@pv _ 6 _ _ rfl (.inl rfl) rfl rfl))) (@Jb _ _ _ _)) (@Jb _ _ _ _)) rfl (.inl rfl)) (@Jd _ _ _ _ _ (@JN _ _ _ _ _ _ _ _ (@Jr _ _ _ _ _ _ _ _ (@Yi _) (@Ji _ _ _ _ _ _ _ _ (@JL _) (@pv _ 0 _ _ rfl (.inl rfl) rfl rfl) (@Jb _ _ _ _)) (@Jb _ _ _ _) (JB _)) (@Jh _ _ _ (@Jy _ _ _ _ (@Zm _ _ _ _ _ _ _ _ _ _ _ _ PySem.F.plainAttrs_list PySem.F.slot_list_append PySem.F.type_list_append (@Yc _) (@pv _ 5 _ _ rfl (.inl rfl) rfl rfl) (@Ja _ _ _ _ _ (@Ji _ _ _ _ _ _ _ _ (@JL _) (@pv _ 3 _ _ rfl (.inl rfl) rfl rfl) (@pv _ 2 _ _ rfl (.inl rfl) rfl rfl)) (@Jc _) rfl) rfl rfl rfl rfl rfl) rfl)) (@Jh _ _ _ (@Jy _ _ _ _ (@Zm _ _ _ _ _ _ _ _ _ _ _ _ PySem.F.plainAttrs_list PySem.F.slot_list_append PySem.F.type_list_append (@Yc _) (@pv _ 5 _ _ rfl (.inl rfl) rfl rfl) (@Ja _ _ _ _ _ (@Ji _ _ _ _ _ _ _ _ (@JL _) (@Ji _ _ _ _ _ _ _ _ (@JQ _) (@Ji _ _ _ _ _ _ _ _ (@Yq _) (@pv _ 4 _ _ rfl (.inl rfl) rfl rfl) (@Jb _ _ _ _)) (@Ji _ _ _ _ _ _ _ _ (@JL _) (@Ji _ _ _ _ _ _ _ _ (@ZS _) (@pv _ 4 _ _ rfl (.inl rfl) rfl rfl) (@Jb _ _ _ _)) (@Jb _ _ _ _))) (@pv _ 2 _ _ rfl (.inl rfl) rfl rfl)) (@Jc _) rfl) rfl rfl rfl rfl rfl) rfl))) (@Jh _ _ _ (@Ju _ _ 3 _ _ _ _ Jcw.nd rfl (Or.inl rfl) (@Ji _ _ _ _ _ _ _ _ (@Yq _) (@pv _ 3 _ _ rfl (.inl rfl) rfl rfl) (@pv _ 2 _ _ rfl (.inl rfl) rfl rfl)) rfl (.inl rfl))))) (by intro _; rfl)) (@Jh _ _ _ (@JA _ _ _ _ (@pv _ 5 _ _ rfl (.inl rfl) rfl rfl))))))),?_⟩
  try dsimp only [cxK,Jeo]
  refine ⟨_,rfl,_,_,rfl,rfl,⟨by decide,by decide⟩,_,rfl,_,_,rfl,rfl,(by show (0:Int) < 2147483647; decide),by show 0≤sizeLine; decide,fun p hp=>?_⟩;have hs0:n < sizeLine:=Nat.lt_of_le_of_lt hn (by decide);refine ⟨_,rfl,(n:Int),rfl,by omega,by omega,?_⟩;refine Jap (n:=n) (fun i σ H2=>∃ (r m:Int) (xs:List Int) (v:Option V),Jg H H2∧H2 p=some (.lst (xs.map V.int))∧xs.length=i∧(∀ x∈xs,0≤x∧x < b)∧σ=[some (.int c),some (.int n),some (.int b),some (.int r),some (.int m),some (.ref p),v])
   ⟨_,_,[],none,Jg.upd hp,Jf,rfl,(fun x hx=>nomatch hx),rfl⟩ ?_ ?_
  ·rintro i σ H2 hi ⟨r,m,xs,v,e,hx,hl,hr,rfl⟩;have add:∀ x:Int,0≤x∧x < b→Jg H (upd H2 p (.lst (xs.map V.int ++ [.int x])))∧upd H2 p (.lst (xs.map V.int ++ [.int x])) p=some (.lst ((xs ++ [x]).map V.int))∧(xs ++ [x]).length=i + 1∧∀ y∈xs ++ [x],0≤y∧y < b:=fun x h=>by
    refine ⟨fun b' u q=>?_,by rw [Jf,List.map_append]; rfl,by simp [hl],fun y hy=>?_⟩
    ·rw [Jl (Jn q hp)]; exact e b' u q
    ·rcases List.mem_append.mp hy with z | z
     ·exact hr y z
     ·rw [List.mem_singleton.mp z]; exact h
   refine ⟨_,rfl,_,_,rfl,rfl,.inr ⟨by decide,by decide⟩,_,rfl,_,_,rfl,rfl,.inl ⟨by decide,by decide⟩,_,_,rfl,rfl,_,_,rfl,rfl,_,_,rfl,rfl,(by show (0:Int) < 2147483647; decide),?_⟩;have hxl:(xs.map V.int).length < sizeLine:=by rw [List.length_map]; omega
   refine ⟨_,rfl,_,_,rfl,rfl,(by show (0:Int) < 2; decide),rfl,_,rfl,Yr (fun _=>?_) (fun _=>?_)⟩
   ·refine ⟨_,rfl,.inl ⟨rfl,_,Jq.of hx⟩,_,rfl,_,rfl,_,_,rfl,rfl,hb0,p,_,_,rfl,rfl,hx,hxl,?_⟩;refine ⟨_,rfl,_,rfl,_,_,rfl,rfl,⟨hb0,by show b < 1073741824; omega⟩,?_⟩;obtain ⟨a1,a2,a3,a4⟩:=add (r % b) ⟨Int.emod_nonneg _ (by omega),Int.emod_lt_of_pos _ hb0⟩;exact ⟨_,_,xs ++ [r % b],_,a1,a2,a3,a4,rfl⟩
   ·refine ⟨_,rfl,.inl ⟨rfl,_,Jq.of hx⟩,_,rfl,_,_,rfl,rfl,⟨by decide,by decide⟩,_,rfl,_,_,rfl,rfl,.inr ⟨by decide,by decide⟩,_,_,rfl,rfl,(by show (0:Int) < 2147483647; decide),_,_,rfl,rfl,_,rfl,_,_,rfl,rfl,hb0,p,_,_,rfl,rfl,hx,hxl,?_⟩;refine ⟨_,rfl,_,rfl,_,_,rfl,rfl,⟨hb0,by show b < 1073741824; omega⟩,?_⟩;obtain ⟨a1,a2,a3,a4⟩:=add (((m * 48271 + 7 * (0 + (i:Int)) + 11) % 2147483647 / 8 + (m * 48271 + 7 * (0 + (i:Int)) + 11) % 2147483647 * 69621 % 2147483647) % b) ⟨Int.emod_nonneg _ (by omega),Int.emod_lt_of_pos _ hb0⟩;exact ⟨_,_,_,_,a1,a2,a3,a4,rfl⟩
  ·rintro σ H2 ⟨r,m,xs,v,e,hx,hl,hr,rfl⟩;exact ⟨_,rfl,q p xs H2 hp e hx hl hr⟩
theorem Jh9 (T:Txt K mg):JM P w K mg base Zk 1 T.Jdg T.JcP ["text"] JmT:=by
 refine T.Jdj.F.ok JhO (fun vs H Q E h=>?_) (fun cdv A outer s H vs Q E hr h=>?_)
 ·obtain ⟨_,rfl,_⟩:=h;rfl
 ·obtain ⟨z,rfl,hz,q⟩:=h;have hzl:z.length≤sizeLine:=Nat.le_trans hz (by decide);refine ⟨_,(@Jd _ _ _ _ _ (@JN _ _ _ _ _ _ _ _ (@PW.pt _ _ _ (@Jcg _ _ _ _ _ _ _ (@Jr _ _ _ _ _ _ _ _ (@Ja9 _) (@JO _ _ _ _ _ _ _ _ _ (@Jer _) rfl T.ZM PySem.boot_len (@Ja _ _ _ _ _ (@pv _ 0 _ _ rfl (.inl rfl) rfl rfl) (@Jc _) rfl) (by decide) (by decide) rfl rfl) (@Jb _ _ _ _) (JB _)) (@JbM _ _ _ _ (@Jr _ _ _ _ _ _ _ _ (@Jch _) (@JO _ _ _ _ _ _ _ _ _ (@Jer _) rfl T.ZM PySem.boot_len (@Ja _ _ _ _ _ (@pv _ 0 _ _ rfl (.inl rfl) rfl rfl) (@Jc _) rfl) (by decide) (by decide) rfl rfl) (@JaA _ _ _ _ _ rfl T.Jbc T.Ja7 (by decide)) (JB _))))) (@Jh _ _ _ (@JA _ _ _ _ (@JeF _ _ _ _))) (@Jw _)) (@Jh _ _ _ (@JA _ _ _ _ (@JO _ _ _ _ _ _ _ _ _ (@Jmg _ rfl) rfl T.JmB PyProof.Rows.boot_all (@Ja _ _ _ _ _ (@Jaz _ _ _ _ _ _ _ 1 ["sign"] [] _ _ _ _ ["text"] ((Jm JbH).names) (by decide +kernel) (@Jkg _ _ _ _ (@pv _ 0 _ _ rfl (.inl rfl) rfl rfl)) (fun _ _ _ _=>(@Y2 _ _ _ _ _ _ _ _ _ 0 (by decide +kernel) rfl rfl)) (fun _ _ _ _=>(@Zd _)) (fun _ _ _ _=>(@JlP _ _ _ _ _ _ _ _ _ _ _ _ (@Jg0 _) (@Jg0 _) (@JR _ _ _ _) (@YB _ _ _ _ _ _ _ _ _ 0 rfl rfl (by decide) (by decide)) (@JR _ _ _ _) (by with_unfolding_all rfl))) rfl rfl rfl (by intro _; rfl)) (@Jc _) rfl) (by decide) (by decide) rfl rfl)))),?_⟩;refine ⟨_,rfl,z,rfl,hzl,_,_,rfl,rfl,_,rfl,Yr (fun c=>Y7 ?_) (fun c=>?_)⟩
  ·have c':(z.length:Int) < 1:=of_decide_eq_true c;have e:YV z=false:=by unfold YV; rw [decide_eq_false (by omega)]; rfl
   rw [← e];exact q H (Jg.refl _)
  refine ⟨_,rfl,z,rfl,hzl,_,_,rfl,rfl,_,rfl,Yr (fun d=>?_) (fun d=>?_)⟩
  ·have d':(6:Int) < z.length:=of_decide_eq_true d;have e:YV z=false:=by unfold YV; rw [decide_eq_false (p:=z.length≤6) (by omega),Bool.and_false]; rfl
   rw [← e];exact q H (Jg.refl _)
  have c':¬ (z.length:Int) < 1:=fun w=>c (decide_eq_true w)
  have d':¬ (6:Int) < z.length:=fun w=>d (decide_eq_true w)
  have e:YV z=z.cps.toList.all Zr:=by unfold YV; rw [decide_eq_true (by omega),decide_eq_true (by omega)]; rfl
  refine ⟨_,rfl,z,rfl,fun D hD=>?_⟩;refine Jhx (fun i v=>∃ c,z.cps[i]?=some c∧v=.bl (Zr c)) rfl hD hzl (fun i c H2 hc e2 Q' hQ=>?_) (fun ys H2 e2 hD2 hl hF=>?_)
  ·refine ⟨_,rfl,_,_,rfl,rfl,_,rfl,?_⟩;have e1:(!decide ([c] < [97]))=decide (97≤c):=by rw [lt1,Bool.eq_iff_iff]; simp
   have e2:(!decide ([122] < [c]))=decide (c≤122):=by rw [lt1,Bool.eq_iff_iff]; simp
   by_cases h1:97≤c
   ·refine Z7 (e1.trans (decide_eq_true h1)) ⟨_,_,rfl,rfl,?_⟩;refine hQ _ ⟨c,hc,congrArg V.bl (e2.trans ?_)⟩;unfold Zr;rw [decide_eq_true h1]; rfl
   ·refine Y0 (e1.trans (decide_eq_false h1)) (hQ _ ⟨c,hc,congrArg V.bl ?_⟩);unfold Zr;rw [decide_eq_false h1]; rfl
  ·have hys:ys=(z.cps.toList.map Zr).map V.bl:=by
    apply List.ext_getElem?;intro i;by_cases hi:i < ys.length
    ·obtain ⟨c,h1,h2⟩:=hF i _ (List.getElem?_eq_getElem hi);rw [List.getElem?_eq_getElem hi,h2,List.getElem?_map,List.getElem?_map,Array.getElem?_toList,h1];rfl
    ·rw [List.getElem?_eq_none (by omega),List.getElem?_eq_none];rw [List.length_map,List.length_map,Array.length_toList];have e9:z.cps.size=z.length:=rfl;omega
   refine ⟨D,z.cps.toList.map Zr,rfl,by rw [← hys]; exact Jq.of hD2,?_⟩;have e3:(z.cps.toList.map Zr).all id=YV z:=by rw [e,List.all_map]; rfl
   rw [e3];exact q H2 e2
theorem Jaj (T:Txt K mg):JM P w K mg base Zk 1 T.JaM T.Jar ["things"] (JmQ K):=by
 refine T.Y9.F.ok JdZ (fun vs H Q E h=>?_) (fun cdv A outer s H vs Q E hr h=>?_)
 ·obtain ⟨_,rfl,_⟩:=h;rfl
 ·obtain ⟨l,rfl,hl,q⟩:=h;refine ⟨_,(@Jh _ _ _ (@JN _ _ _ _ _ _ _ _ (@Jr _ _ _ _ _ _ _ _ (@Ja9 _) (@JO _ _ _ _ _ _ _ _ _ (@JiI _) rfl T.ZM PySem.boot_len (@Ja _ _ _ _ _ (@YO _ _ _ _ _ _ _ _ _ (@JkV _ rfl hr.units) rfl T.JmA PyProof.Rows.boot_set (@Ja _ _ _ _ _ (@pv _ 0 _ _ rfl (.inl rfl) rfl rfl) (@Jc _) rfl) (by decide) (by decide) rfl rfl) (@Jc _) rfl) (by decide) (by decide) rfl rfl) (@JO _ _ _ _ _ _ _ _ _ (@Yp _) rfl T.ZM PySem.boot_len (@Ja _ _ _ _ _ (@pv _ 0 _ _ rfl (.inl rfl) rfl rfl) (@Jc _) rfl) (by decide) (by decide) rfl rfl) (JB _)) (@Jh _ _ _ (@JdI _ _)) (@Jw _))),?_⟩;rcases hl with ⟨ss,hS,hz,nd⟩ | ⟨us,kss,hS,tt,hz,nd⟩
  ·refine ⟨_,rfl,.inl ⟨l,ss,rfl,hS,hz,fun p hp=>⟨p,_,rfl,Jf,_,rfl,l,_,rfl,.inl ((Jg.upd hp).seq hS),_,_,rfl,rfl,_,rfl,Y0 (decide_eq_false ?_) (q _ (Jg.upd hp))⟩⟩⟩;rw [JfR nd,List.length_map];exact Int.lt_irrefl _
  ·refine ⟨_,rfl,.inr ⟨l,us,kss,rfl,hS,tt,hz,fun p hp=>⟨p,_,rfl,Jf,_,rfl,l,_,rfl,.inl ((Jg.upd hp).seq hS),_,_,rfl,rfl,_,rfl,Y0 (decide_eq_false ?_) (q _ (Jg.upd hp))⟩⟩⟩;rw [JfR nd,tt.1];exact Int.lt_irrefl _
theorem JaB (T:Txt K mg):JM P w K mg base (Y4 P w) 1 T.Jb5 T.Jbz ["place", "places"] (Jlr K T.Yu):=by
 refine T.Zq.F.ok1 Jgc (fun vs H Q E h=>?_) (fun cdv A outer s H vs Q E hr h=>?_)
 ·obtain ⟨_,_,_,rfl,_⟩:=h;rfl
 ·obtain ⟨z,t,ps,rfl,ht,hS,q1,q2⟩:=h;refine ⟨_,(@Jh _ _ _ (@JN _ _ _ _ _ _ _ _ (@Jr _ _ _ _ _ _ _ _ (@Jai _) (@pv _ 0 _ _ rfl (.inl rfl) rfl rfl) (@pv _ 1 _ _ rfl (.inl rfl) rfl rfl) (by with_unfolding_all rfl)) (@Jh _ _ _ (@JcG _ _ _ _ _ _ _ _ _ T.JfZ T.Jhg Jdq (@JeC _ _ _ _ _ _ (PJ.cons (@JhZ _ _ _ _ (@pv _ 0 _ _ rfl (.inl rfl) rfl rfl)) (PJ.cons (@JR _ _ _ _) PJ.nil)) rfl) rfl rfl (by decide) rfl)) (@Jw _))),?_⟩;refine ⟨_,rfl,_,rfl,t,_,rfl,hS,rfl,Jc6 ps,_,rfl,?_⟩;rw [if_pos rfl,JdO];by_cases hin:z∈ps
  ·exact Y0 (by rw [decide_eq_true hin]; rfl) (q1 hin)
  ·have hz:=JgW ht;have e1:(Str.empty ++ reprText z).length=(reprText z).length:=by rw [strLen_append]; exact Nat.zero_add _
   refine Z7 (by rw [decide_eq_false hin]; rfl) ⟨_,rfl,z,rfl,Nat.le_trans hz (by decide),_,rfl,by rw [e1]; exact Nat.le_trans hz (by decide),_,rfl,?_,?_,q2 hin⟩
   all_goals
    rw [strLen_append,e1];refine Nat.le_trans (Nat.add_le_add_right hz _) (by decide)
theorem JfG (T:Txt K mg):JM P w K mg base Zk 2 T.JbC T.Jbe ["places"] (Jji K):=by
 refine T.JbG.F.ok Jc3 (fun vs H Q E h=>?_) (fun cdv A outer s H vs Q E hr h=>?_)
 ·obtain ⟨_,_,rfl,_⟩:=h;rfl
 ·obtain ⟨l,ps,rfl,hS,h1,h2,h3,h4,q⟩:=h;refine ⟨_,(@Jd _ _ _ _ _ (@JN _ _ _ _ _ _ _ _ (@PW.pt _ _ _ (@Jcg _ _ _ _ _ _ _ (@Jr _ _ _ _ _ _ _ _ (@Ja9 _) (@JO _ _ _ _ _ _ _ _ _ (@Yp _) rfl T.ZM PySem.boot_len (@Ja _ _ _ _ _ (@pv _ 0 _ _ rfl (.inl rfl) rfl rfl) (@Jc _) rfl) (by decide) (by decide) rfl rfl) (@Jb _ _ _ _) (JB _)) (@JbM _ _ _ _ (@Jr _ _ _ _ _ _ _ _ (@Jch _) (@JO _ _ _ _ _ _ _ _ _ (@Yp _) rfl T.ZM PySem.boot_len (@Ja _ _ _ _ _ (@pv _ 0 _ _ rfl (.inl rfl) rfl rfl) (@Jc _) rfl) (by decide) (by decide) rfl rfl) (@JaA _ _ _ _ _ rfl T.JaU T.JaS (by decide)) (JB _))))) (@Jh _ _ _ (@JdI _ _)) (@Jw _)) (@Jd _ _ _ _ _ (@YH _ _ _ _ _ _ _ _ PassesOwn.never rfl (@Yv _ _ _ _ (@pv _ 0 _ _ rfl (.inl rfl) rfl rfl)) (@Yj _ _ 1 _ Jc3.nd rfl (Or.inl rfl) (.inl rfl)) (@Jh _ _ _ (@JN _ _ _ _ _ _ _ _ (@JfB _ _ _ _ (@JcF _ _ _ (@Jp _ _ _ _ _ _ _ _ _ _ _ _ _ _ _ T.Jdj (Jh9 T) (hr.mono (by decide)) JK (@Ja _ _ _ _ _ (@pv _ 1 _ _ rfl (.inl rfl) rfl rfl) (@Jc _) rfl) rfl (by decide) rfl rfl) (by intro _; rfl))) (@Jh _ _ _ (@JdI _ _)) (@Jw _))) (by intro _; rfl)) (@Jh _ _ _ (@Jy _ _ _ _ (@Jp _ _ _ _ _ _ _ _ _ _ _ _ _ _ _ T.Y9 (Jaj T) (hr.mono (by decide)) JK (@Ja _ _ _ _ _ (@pv _ 0 _ _ rfl (.inl rfl) rfl rfl) (@Jc _) rfl) rfl (by decide) rfl rfl) rfl)))),?_⟩;refine ⟨_,rfl,l,_,rfl,.inl hS,_,_,rfl,rfl,_,rfl,Y0 (decide_eq_false (by rw [List.length_map]; omega)) ?_⟩;refine ⟨_,rfl,l,_,rfl,.inl hS,_,_,rfl,rfl,_,rfl,Y0 (decide_eq_false (by rw [List.length_map]; omega)) ?_⟩;refine ⟨_,rfl,l,rfl,⟨_,hS⟩,Jaq (xs:=ps.map V.str) (fun i σ H2=>Jg H H2∧∃ v,σ=[some (.ref l),v]) ⟨Jg.refl _,none,rfl⟩ (fun i σ H2 _ h=>h.1.seq hS) ?_ ?_⟩
  ·rintro i x σ H2 hx ⟨e2,v,rfl⟩;obtain ⟨p,hp,rfl⟩:=List.mem_map.mp (List.mem_of_getElem? hx);refine ⟨_,rfl,p,rfl,Nat.le_trans (Je9 (h3 p hp)).1 (by decide),fun H3 e3=>⟨_,rfl,Y0 (by rw [h3 p hp]; rfl) ?_⟩⟩;exact ⟨e2.trans e3,_,rfl⟩
  ·rintro σ H2 ⟨e2,v,rfl⟩;exact ⟨_,rfl,l,rfl,.inl ⟨ps,e2.seq hS,by omega,h4⟩,fun H3 e3=>q H3 (e2.trans e3)⟩
theorem Jgo (T:Txt K mg):JM P w K mg base Zk 2 T.Jb2 T.Jbw ["lanes", "places"] (Jj6 K):=by
 refine T.Jb9.F.ok Jdm (fun vs H Q E h=>?_) (fun cdv A outer s H vs Q E hr h=>?_)
 ·obtain ⟨_,_,_,_,rfl,_⟩:=h;rfl
 ·obtain ⟨l,lp,zs,ps,rfl,hS,hP,hp,ht,h1,h2,h3,q⟩:=h;refine ⟨_,(@Jd _ _ _ _ _ (@JN _ _ _ _ _ _ _ _ (@Jr _ _ _ _ _ _ _ _ (@Jch _) (@JO _ _ _ _ _ _ _ _ _ (@Yp _) rfl T.ZM PySem.boot_len (@Ja _ _ _ _ _ (@pv _ 0 _ _ rfl (.inl rfl) rfl rfl) (@Jc _) rfl) (by decide) (by decide) rfl rfl) (@JaA _ _ _ _ _ rfl T.Jbd T.Ja8 (by decide)) (JB _)) (@Jh _ _ _ (@JdI _ _)) (@Jw _)) (@Jd _ _ _ _ _ (@YH _ _ _ _ _ _ _ _ PassesOwn.never rfl (@Yv _ _ _ _ (@pv _ 0 _ _ rfl (.inl rfl) rfl rfl)) (@Yj _ _ 2 _ Jdm.nd rfl (Or.inl rfl) (.inl rfl)) (@Jd _ _ _ _ _ (@Jy _ _ _ _ (@Jp _ _ _ _ _ _ _ _ _ _ _ _ _ _ _ T.Zq (JaB T) (hr.mono (by decide)) YY (@Ja _ _ _ _ _ (@JG _ _ _ _ _ _ _ (@Zy _) (@pv _ 2 _ _ rfl (.inl rfl) rfl rfl) (@Jb _ _ _ _) (fun _ _=>rfl)) (@Ja _ _ _ _ _ (@pv _ 1 _ _ rfl (.inl rfl) rfl rfl) (@Jc _) rfl) rfl) rfl (by decide) rfl rfl) rfl) (@Jh _ _ _ (@Jy _ _ _ _ (@Jp _ _ _ _ _ _ _ _ _ _ _ _ _ _ _ T.Zq (JaB T) (hr.mono (by decide)) YY (@Ja _ _ _ _ _ (@JG _ _ _ _ _ _ _ (@Zy _) (@pv _ 2 _ _ rfl (.inl rfl) rfl rfl) (@Jb _ _ _ _) (fun _ _=>rfl)) (@Ja _ _ _ _ _ (@pv _ 1 _ _ rfl (.inl rfl) rfl rfl) (@Jc _) rfl) rfl) rfl (by decide) rfl rfl) rfl))) (by intro _; rfl)) (@Jh _ _ _ (@Jy _ _ _ _ (@Jp _ _ _ _ _ _ _ _ _ _ _ _ _ _ _ T.Y9 (Jaj T) (hr.mono (by decide)) JK (@Ja _ _ _ _ _ (@pv _ 0 _ _ rfl (.inl rfl) rfl rfl) (@Jc _) rfl) rfl (by decide) rfl rfl) rfl)))),?_⟩;refine ⟨_,rfl,l,_,rfl,.inl hS,_,_,rfl,rfl,_,rfl,Y0 (decide_eq_false (by rw [List.length_map]; omega)) ?_⟩;refine ⟨_,rfl,l,rfl,⟨_,hS⟩,Jaq (xs:=zs.map (·.1)) (fun i σ H2=>H2=H∧∃ v,σ=[some (.ref l),some (.ref lp),v]) ⟨rfl,none,rfl⟩ (fun i σ H2 _ h=>by rw [h.1]; exact hS) ?_ ?_⟩
  ·rintro i x σ H2 hx ⟨rfl,v,rfl⟩;obtain ⟨z,hz,rfl⟩:=List.mem_map.mp (List.mem_of_getElem? hx);obtain ⟨a,ea,ha⟩:=hP z hz;obtain ⟨i1,i2⟩:=h2 z hz;refine ⟨_,rfl,a,_,_,.str z.2.1,ea,rfl,ha,rfl,_,rfl,z.2.1,lp,ps,rfl,ht _ i1,.inl hp,fun _=>?_,fun hn=>absurd i1 hn⟩;exact ⟨_,rfl,a,_,_,.str z.2.2,ea,rfl,ha,rfl,_,rfl,z.2.2,lp,ps,rfl,ht _ i2,.inl hp,fun _=>⟨rfl,_,rfl⟩,fun hn=>absurd i2 hn⟩
  ·rintro σ H2 ⟨rfl,v,rfl⟩;exact ⟨_,rfl,l,rfl,.inr ⟨_,_,hS,JfD hP,by rw [List.length_map,List.length_map]; omega,JiC h3⟩,fun H3 e3=>q H3 e3⟩
theorem Jgp (T:Txt K mg):JM P w K mg base Zk 2 T.Jb3 T.Jbx ["goals", "places"] (Jj7 K):=by
 refine T.Jca.F.ok Jdn (fun vs H Q E h=>?_) (fun cdv A outer s H vs Q E hr h=>?_)
 ·obtain ⟨_,_,_,_,rfl,_⟩:=h;rfl
 ·obtain ⟨l,lp,gs,ps,rfl,hS,hp,ht,h1,h2,h3,q⟩:=h;refine ⟨_,(@Jd _ _ _ _ _ (@YH _ _ _ _ _ _ _ _ PassesOwn.never rfl (@Yv _ _ _ _ (@pv _ 0 _ _ rfl (.inl rfl) rfl rfl)) (@Yj _ _ 2 _ Jdn.nd rfl (Or.inl rfl) (.inl rfl)) (@Jh _ _ _ (@Jy _ _ _ _ (@Jp _ _ _ _ _ _ _ _ _ _ _ _ _ _ _ T.Zq (JaB T) (hr.mono (by decide)) YY (@Ja _ _ _ _ _ (@pv _ 2 _ _ rfl (.inl rfl) rfl rfl) (@Ja _ _ _ _ _ (@pv _ 1 _ _ rfl (.inl rfl) rfl rfl) (@Jc _) rfl) rfl) rfl (by decide) rfl rfl) rfl)) (by intro _; rfl)) (@Jh _ _ _ (@Jy _ _ _ _ (@Jp _ _ _ _ _ _ _ _ _ _ _ _ _ _ _ T.Y9 (Jaj T) (hr.mono (by decide)) JK (@Ja _ _ _ _ _ (@pv _ 0 _ _ rfl (.inl rfl) rfl rfl) (@Jc _) rfl) rfl (by decide) rfl rfl) rfl))),?_⟩;refine ⟨_,rfl,l,rfl,⟨_,hS⟩,Jaq (xs:=gs.map V.str) (fun i σ H2=>H2=H∧∃ v,σ=[some (.ref l),some (.ref lp),v]) ⟨rfl,none,rfl⟩ (fun i σ H2 _ h=>by rw [h.1]; exact hS) ?_ ?_⟩
  ·rintro i x σ H2 hx ⟨rfl,v,rfl⟩;obtain ⟨g,hg,rfl⟩:=List.mem_map.mp (List.mem_of_getElem? hx);exact ⟨_,rfl,_,rfl,g,lp,ps,rfl,ht _ (h2 g hg),.inl hp,fun _=>⟨rfl,_,rfl⟩,fun hn=>absurd (h2 g hg) hn⟩
  ·rintro σ H2 ⟨rfl,v,rfl⟩;exact ⟨_,rfl,l,rfl,.inl ⟨gs,hS,h1,h3⟩,fun H3 e3=>q H3 e3⟩
theorem Jhw (T:Txt K mg):JM P w K mg base Zk 3 T.Jbi T.Jb0 ["self", "places", "lanes", "goals"] (JiK K T.JC):=by
 refine T.Jc0.F.ok Jhu (fun vs H Q E h=>?_) (fun cdv A outer s H vs Q E hr h=>?_)
 ·obtain ⟨_,_,_,_,_,_,_,_,rfl,_⟩:=h;rfl
 ·obtain ⟨b,lp,ll,lg,dx,ps,zs,gs,rfl,hb,hp,hl,hP,hg,G,q⟩:=h;refine ⟨_,(@Jd _ _ _ _ _ (@Jy _ _ _ _ (@Jp _ _ _ _ _ _ _ _ _ _ _ _ _ _ _ T.JbG (JfG T) (hr.mono (by decide)) JK (@Ja _ _ _ _ _ (@pv _ 1 _ _ rfl (.inl rfl) rfl rfl) (@Jc _) rfl) rfl (by decide) rfl rfl) rfl) (@Jd _ _ _ _ _ (@Jy _ _ _ _ (@Jp _ _ _ _ _ _ _ _ _ _ _ _ _ _ _ T.Jb9 (Jgo T) (hr.mono (by decide)) JK (@Ja _ _ _ _ _ (@pv _ 2 _ _ rfl (.inl rfl) rfl rfl) (@Ja _ _ _ _ _ (@pv _ 1 _ _ rfl (.inl rfl) rfl rfl) (@Jc _) rfl) rfl) rfl (by decide) rfl rfl) rfl) (@Jd _ _ _ _ _ (@Jy _ _ _ _ (@Jp _ _ _ _ _ _ _ _ _ _ _ _ _ _ _ T.Jca (Jgp T) (hr.mono (by decide)) JK (@Ja _ _ _ _ _ (@pv _ 3 _ _ rfl (.inl rfl) rfl rfl) (@Ja _ _ _ _ _ (@pv _ 1 _ _ rfl (.inl rfl) rfl rfl) (@Jc _) rfl) rfl) rfl (by decide) rfl rfl) rfl) (@Jd _ _ _ _ _ (@JcH _ _ _ _ _ _ _ _ (@pv _ 0 _ _ rfl (.inl rfl) rfl rfl) (@YO _ _ _ _ _ _ _ _ _ (@JaV _) rfl T.Jdu PyProof.Rows.boot_tuple (@Ja _ _ _ _ _ (@JO _ _ _ _ _ _ _ _ _ (@JfV _) rfl T.JdM PyProof.Rows.boot_sorted (@Ja _ _ _ _ _ (@pv _ 1 _ _ rfl (.inl rfl) rfl rfl) (@Jc _) rfl) (by decide) (by decide) rfl rfl) (@Jc _) rfl) (by decide) (by decide) rfl rfl) rfl) (@Jd _ _ _ _ _ (@JcH _ _ _ _ _ _ _ _ (@pv _ 0 _ _ rfl (.inl rfl) rfl rfl) (@YO _ _ _ _ _ _ _ _ _ (@JaV _) rfl T.Jdu PyProof.Rows.boot_tuple (@Ja _ _ _ _ _ (@JO _ _ _ _ _ _ _ _ _ (@JjP _) rfl T.JdM PyProof.Rows.boot_sorted (@Ja _ _ _ _ _ (@pv _ 2 _ _ rfl (.inl rfl) rfl rfl) (@Jc _) rfl) (by decide) (by decide) rfl rfl) (@Jc _) rfl) (by decide) (by decide) rfl rfl) rfl) (@Jh _ _ _ (@JcH _ _ _ _ _ _ _ _ (@pv _ 0 _ _ rfl (.inl rfl) rfl rfl) (@YO _ _ _ _ _ _ _ _ _ (@JaV _) rfl T.Jdu PyProof.Rows.boot_tuple (@Ja _ _ _ _ _ (@JO _ _ _ _ _ _ _ _ _ (@JfV _) rfl T.JdM PyProof.Rows.boot_sorted (@Ja _ _ _ _ _ (@pv _ 3 _ _ rfl (.inl rfl) rfl rfl) (@Jc _) rfl) (by decide) (by decide) rfl rfl) (@Jc _) rfl) (by decide) (by decide) rfl rfl) rfl))))))),?_⟩;have ht:∀ p∈ps,YS p:=fun p h=>Yz (G.p3 p h)
  have hzl:zs.length≤40:=by have:=G.l1; rwa [List.length_map] at this
  have hl2:∀ z∈zs,z.2.1∈ps∧z.2.2∈ps:=fun z hz=>G.l2 z.2 (List.mem_map.mpr ⟨z,hz,rfl⟩)
  have hgl:=G.glen;refine ⟨_,rfl,lp,ps,rfl,hp,G.p1,G.p2,G.p3,G.p4,fun H1 e1=>?_⟩;refine ⟨_,rfl,_,rfl,ll,lp,zs,ps,rfl,e1.seq hl,Yh hP e1,e1.seq hp,ht,hzl,hl2,G.l3,fun H2 e2=>?_⟩;have e12:=e1.trans e2;refine ⟨_,rfl,_,rfl,lg,lp,gs,ps,rfl,e12.seq hg,e12.seq hp,ht,by omega,G.g1,G.g2,fun H3 e3=>?_⟩;have e13:=e12.trans e3;have hb3:=e13 _ _ hb;refine ⟨_,rfl,lp,ps,rfl,e13.seq hp,by have:=G.p2; omega,fun p4 ps' n4 pp ps4=>⟨p4,_,rfl,.inl ⟨Jq.of Jf,fun t5 n5=>?_⟩⟩⟩;have e35:=(Jg.upd (o:=.lst (ps'.map V.str)) n4).trans (Jg.upd (o:=.tup (ps'.map V.str)) n5);refine ⟨_,rfl,b,_,dx,_,rfl,e35 _ _ hb3,T.Yo,T.Z5,by decide,?_⟩;have b6:=(Zl.of (b:=b) (e13.trans e35)).trans (Zl.put (o:=.ins T.JC dx (J8 "places" (.ref t5) [])));have t5b:t5≠b:=fun e=>by
   have z:=(Jg.upd (o:=.lst (ps'.map V.str)) n4) _ _ hb3;rw [e,z] at n5; cases n5
  have hp6:upd (upd (upd H3 p4 (.lst (ps'.map V.str))) t5 (.tup (ps'.map V.str))) b (.ins T.JC dx (J8 "places" (.ref t5) [])) t5=some (.tup (ps'.map V.str)):=by rw [Jl t5b,Jf]
  have hb6:upd (upd (upd H3 p4 (.lst (ps'.map V.str))) t5 (.tup (ps'.map V.str))) b (.ins T.JC dx (J8 "places" (.ref t5) [])) b=some (.ins T.JC dx [("places",.ref t5)]):=Jf;generalize upd (upd (upd H3 p4 (.lst (ps'.map V.str))) t5 (.tup (ps'.map V.str))) b (.ins T.JC dx (J8 "places" (.ref t5) []))=H6 at b6 hp6 hb6;refine ⟨_,rfl,ll,zs,rfl,b6.seq hb hl,fun z hz=>let ⟨a,h1,h2⟩:=hP z hz; ⟨a,h1,b6.tup hb h2⟩,by omega,fun p7 zs' n7 zp zs7=>⟨p7,_,rfl,.inl ⟨Jq.of Jf,fun t8 n8=>?_⟩⟩⟩;have e68:=(Jg.upd (o:=.lst (zs'.map (·.1))) n7).trans (Jg.upd (o:=.tup (zs'.map (·.1))) n8);refine ⟨_,rfl,b,_,dx,_,rfl,e68 _ _ hb6,T.Yo,T.Jbs,by show 1 < 1000; decide,?_⟩;have b9:=(b6.trans (Zl.of e68)).trans (Zl.put (o:=.ins T.JC dx (J8 "lanes" (.ref t8) [("places",.ref t5)])));have t8b:t8≠b:=fun e=>by
   have z:=(Jg.upd (o:=.lst (zs'.map (·.1))) n7) _ _ hb6;rw [e,z] at n8; cases n8
  have hl9:upd (upd (upd H6 p7 (.lst (zs'.map (·.1)))) t8 (.tup (zs'.map (·.1)))) b (.ins T.JC dx (J8 "lanes" (.ref t8) [("places",.ref t5)])) t8=some (.tup (zs'.map (·.1))):=by rw [Jl t8b,Jf]
  have hp9:upd (upd (upd H6 p7 (.lst (zs'.map (·.1)))) t8 (.tup (zs'.map (·.1)))) b (.ins T.JC dx (J8 "lanes" (.ref t8) [("places",.ref t5)])) t5=some (.tup (ps'.map V.str)):=by rw [Jl t5b]; exact e68 _ _ hp6
  have hb9:upd (upd (upd H6 p7 (.lst (zs'.map (·.1)))) t8 (.tup (zs'.map (·.1)))) b (.ins T.JC dx (J8 "lanes" (.ref t8) [("places",.ref t5)])) b=some (.ins T.JC dx [("places",.ref t5),("lanes",.ref t8)]):=Jf;generalize upd (upd (upd H6 p7 (.lst (zs'.map (·.1)))) t8 (.tup (zs'.map (·.1)))) b (.ins T.JC dx (J8 "lanes" (.ref t8) [("places",.ref t5)]))=H9 at b9 hl9 hp9 hb9;refine ⟨_,rfl,lg,gs,rfl,b9.seq hb hg,by omega,fun p10 gs' n10 gp gs10=>⟨p10,_,rfl,.inl ⟨Jq.of Jf,fun t11 n11=>?_⟩⟩⟩;have e911:=(Jg.upd (o:=.lst (gs'.map V.str)) n10).trans (Jg.upd (o:=.tup (gs'.map V.str)) n11);refine ⟨_,rfl,b,_,dx,_,rfl,e911 _ _ hb9,T.Yo,T.Jbt,by show 2 < 1000; decide,?_⟩;have b12:=(b9.trans (Zl.of e911)).trans (Zl.put (o:=.ins T.JC dx (J8 "goals" (.ref t11) [("places",.ref t5),("lanes",.ref t8)])));have t11b:t11≠b:=fun e=>by
   have z:=(Jg.upd (o:=.lst (gs'.map V.str)) n10) _ _ hb9;rw [e,z] at n11; cases n11
  refine q _ ps' zs' gs' b12 pp ps4 zp zs7 gp gs10 ⟨dx,t5,t8,t11,Jf,?_,?_,fun z hz=>?_,?_⟩
  ·rw [Jl t5b]; exact e911 _ _ hp9
  ·rw [Jl t8b]; exact e911 _ _ hl9
  ·obtain ⟨a,h1,h2⟩:=hP z (zp.mem_iff.mp hz);exact ⟨a,h1,b12.tup hb h2⟩
  ·rw [Jl t11b,Jf]
theorem Za (T:Txt K mg):JM P w K mg base (Y4 P w) 2 T.ZZ T.ZO ["self", "place"] (Jj5 K T.JC T.Yu):=by
 refine T.JU.F.ok1 JdF (fun vs H Q E h=>?_) (fun cdv A outer s H vs Q E hr h=>?_)
 ·obtain ⟨_,_,_,_,_,rfl,_⟩:=h;rfl
 ·obtain ⟨b,z,ps,zs,gs,rfl,ht,⟨dx,tp,tl,tg,hb,hp,_⟩,q1,q2⟩:=h;refine ⟨_,(@Jh _ _ _ (@Jy _ _ _ _ (@Jp _ _ _ _ _ _ _ _ _ _ _ _ _ _ _ T.Zq (JaB T) (hr.mono (by decide)) Yy (@Ja _ _ _ _ _ (@pv _ 1 _ _ rfl (.inl rfl) rfl rfl) (@Ja _ _ _ _ _ (@Yg _ _ _ _ _ (@pv _ 0 _ _ rfl (.inl rfl) rfl rfl) rfl) (@Jc _) rfl) rfl) rfl (by decide) rfl rfl) rfl)),?_⟩;exact ⟨_,rfl,_,rfl,b,_,dx,_,.ref tp,rfl,hb,T.Yo,T.Z5,rfl,z,tp,ps,rfl,ht,.inr (J0.of hp),q1,q2⟩
theorem Je8 (T:Txt K mg):JM P w K mg base (Y4 P w) 3 T.Jbh T.JaZ ["self", "place"] (Jj3 K T.JC T.Yu):=by
 refine T.Z8.F.ok1 Je3 (fun vs H Q E h=>?_) (fun cdv A outer s H vs Q E hr h=>?_)
 ·obtain ⟨_,_,_,_,_,rfl,_⟩:=h;rfl
 ·obtain ⟨b,z,ps,zs,gs,rfl,ht,B,q1,q2⟩:=h;refine ⟨_,(@Jd _ _ _ _ _ (@Jy _ _ _ _ (@JS _ _ _ _ _ _ _ _ _ _ _ _ _ _ _ _ _ _ _ _ (@pv _ 0 _ _ rfl (.inl rfl) rfl rfl) T.Yo T.JU.m (Za T) (hr.mono (by decide)) T.JU.b .nil Yy (@Ja _ _ _ _ _ (@pv _ 1 _ _ rfl (.inl rfl) rfl rfl) (@Jc _) rfl) rfl rfl rfl) rfl) (@Jh _ _ _ (@JA _ _ _ _ (@JeE _ _ _ _ _ _ _ _ (@Jkk _) (@pv _ 1 _ _ rfl (.inl rfl) rfl rfl) (@Yg _ _ _ _ _ (@pv _ 0 _ _ rfl (.inl rfl) rfl rfl) rfl) (by with_unfolding_all rfl))))),?_⟩;obtain ⟨dx,tp,tl,tg,hb,hp,hl,hP,hg⟩:=id B;refine ⟨_,rfl,b,dx,_,rfl,hb,rfl,_,rfl,b,z,ps,zs,gs,rfl,ht,B,fun hin=>?_,q2⟩;refine ⟨_,rfl,_,rfl,b,_,dx,_,.ref tg,rfl,hb,T.Yo,T.Jbt,rfl,tg,_,rfl,.inr (J0.of hg),rfl,Jc6 gs,?_⟩;rw [if_neg Bool.false_ne_true,JdO];exact q1 hin
theorem JaT (T:Txt K mg):JM P w K mg base (Y4 P w) 3 T.JcU T.JbZ ["self", "place"] (JmO K T.JC T.Yu):=by
 refine T.Yx.F.ok1 Jht (fun vs H Q E h=>?_) (fun cdv A outer s H vs Q E hr h=>?_)
 ·obtain ⟨_,_,_,_,_,rfl,_⟩:=h;rfl
 ·obtain ⟨b,z,ps,zs,gs,rfl,ht,hlen,B,q1,q2⟩:=h;refine ⟨_,(@Jd _ _ _ _ _ (@Jy _ _ _ _ (@JS _ _ _ _ _ _ _ _ _ _ _ _ _ _ _ _ _ _ _ _ (@pv _ 0 _ _ rfl (.inl rfl) rfl rfl) T.Yo T.JU.m (Za T) (hr.mono (by decide)) T.JU.b .nil Yy (@Ja _ _ _ _ _ (@pv _ 1 _ _ rfl (.inr (.inl rfl)) rfl rfl) (@Jc _) rfl) rfl rfl rfl) rfl) (@Jh _ _ _ (@JA _ _ _ _ (@YO _ _ _ _ _ _ _ _ _ (@JaV _) rfl T.Jdu PyProof.Rows.boot_tuple (@Ja _ _ _ _ _ (@Jaz _ _ _ _ _ _ _ 1 ["lane", "place"] [1] _ _ _ _ ["self", "place"] ((Jm Ja5).names) (by decide +kernel) (@JcI _ _ _ _ (@Yg _ _ _ _ _ (@pv _ 0 _ _ rfl (.inl rfl) rfl rfl) rfl)) (fun _ _ _ _=>(@Y2 _ _ _ _ _ _ _ _ _ 0 (by decide +kernel) rfl rfl)) (fun _ _ _ _=>(@Jgn _ _ _ (@Jr _ _ _ _ _ _ _ _ (@Yi _) (@JG _ _ _ _ _ _ _ (show IxR _ (JlL K) from (@Zy _)) (@YB _ _ _ _ _ _ _ _ _ 0 rfl rfl (by decide) (by decide)) (@Jb _ _ _ _) (fun _ _=>rfl)) (@JT _ _ _ _ _ _ _ _ _ 1 rfl rfl (by decide) (by decide)) (JB _)))) (fun _ _ _ _=>(@JG _ _ _ _ _ _ _ (show IxR _ (JlL K) from (@Zy _)) (@YB _ _ _ _ _ _ _ _ _ 0 rfl rfl (by decide) (by decide)) (@Jb _ _ _ _) (fun _ _=>rfl))) rfl rfl rfl (by intro _; rfl)) (@Jc _) rfl) (by decide) (by decide) rfl rfl)))),?_⟩;obtain ⟨dx,tp,tl,tg,hb,hp,hl,hP,hg⟩:=id B;refine ⟨_,rfl,b,dx,_,rfl,hb,rfl,_,rfl,b,z,ps,zs,gs,rfl,ht,B,fun hin=>?_,q2⟩;refine ⟨_,rfl,b,_,dx,_,.ref tl,rfl,hb,T.Yo,T.Jbs,rfl,tl,rfl,⟨_,J0.of hl⟩,fun D hD=>?_⟩;refine Jfn (xs:=zs.map (·.1)) (fun i ys H2=>Jg H H2∧H2 D=some (.lst ys)∧ys=(Js ((zs.map (·.2)).take i) z).map V.str) rfl (fun i ys H2 p=>J0.of (p.1 _ _ hl)) ?_ (fun i ys H2 p=>p.2.1) ?_ ?_
  ·exact ⟨Jg.upd hD,Jf,by simp [Js]⟩
  ·rintro i x ys H2 hx ⟨e2,hy,rfl⟩;rw [List.getElem?_map] at hx;obtain ⟨y,hy1,rfl⟩:=Option.map_eq_some_iff.mp hx;obtain ⟨a,ea,ha⟩:=hP y (List.mem_of_getElem? hy1);have ha2:=e2.tup ha;have step:(zs.map (·.2)).take (i + 1)=(zs.map (·.2)).take i ++ [y.2]:=by
    rw [List.take_succ,List.getElem?_map,hy1]; rfl
   have wstep:Js ((zs.map (·.2)).take (i + 1)) z=Js ((zs.map (·.2)).take i) z ++ (if y.2.1=z then [y.2.2] else []):=by
    unfold Js;rw [step,List.filter_append,List.map_append];by_cases h:y.2.1=z
    ·simp [h]
    ·simp [h]
   have wl:(Js ((zs.map (·.2)).take i) z).length≤40:=by
    unfold Js;rw [List.length_map];refine Nat.le_trans (List.length_filter_le _ _) ?_;rw [List.length_take,List.length_map];omega
   refine ⟨_,rfl,a,_,_,.str y.2.1,ea,rfl,ha2,rfl,_,rfl,rfl,_,rfl,?_⟩;by_cases h:y.2.1=z
   ·refine Z7 (by rw [h]; exact decide_eq_true rfl) ⟨_,rfl,a,_,_,.str y.2.2,ea,rfl,ha2,rfl,hy,by rw [List.length_map]; exact Nat.lt_of_le_of_lt wl (by decide),fun b' u e=>?_,Jf,?_⟩
    ·rw [Jl (Jn e hD)]; exact e2 b' u e
    ·rw [wstep,if_pos h,List.map_append]; rfl
   ·refine Y0 (decide_eq_false (fun e=>h (V.str.inj e))) ⟨e2,hy,?_⟩;rw [wstep,if_neg h,List.append_nil]
  ·rintro ys H2 ⟨e2,hy,rfl⟩;rw [List.length_map] at hy;rw [show zs.length=(zs.map (·.2)).length by simp,List.take_length] at hy;refine ⟨D,_,rfl,.inl ⟨Jq.of hy,fun t n=>?_⟩⟩;exact q1 hin t _ (e2.trans (Jg.upd n)) Jf
theorem JlV (T:Txt K mg):JM P w K mg base Zk 2 T.JgB T.Jff ["_law_cell", "_law_many"] Jll:=by
 refine T.JgN.F.ok YG (fun vs H Q E h=>?_) (fun cdv A outer s H vs Q E hr h=>?_)
 ·obtain ⟨_,_,rfl,_⟩:=h;rfl
 ·obtain ⟨c,n,rfl,hn1,hn2,q⟩:=h;refine ⟨_,(@Jd _ _ _ _ _ (@Ju _ _ 2 _ _ _ _ YG.nd rfl (Or.inr rfl) (@JR _ _ _ _) rfl (by first | exact .inl rfl | exact .inr rfl | assumption)) (@Jd _ _ _ _ _ (@J2 _ _ _ (@Ju _ _ 3 _ _ _ _ YG.nd rfl (Or.inl rfl) (@Jp _ _ _ _ _ _ _ _ _ _ _ _ _ _ _ T.JeO (JfF T) (hr.mono (by decide)) JK (@Ja _ _ _ _ _ (@Ji _ _ _ _ _ _ _ _ (@Yq _) (@pv _ 0 _ _ rfl (.inl rfl) rfl rfl) (@Jb _ _ _ _)) (@Ja _ _ _ _ _ (@Ji _ _ _ _ _ _ _ _ (@ZS _) (@Jb _ _ _ _) (@pv _ 1 _ _ rfl (.inl rfl) rfl rfl)) (@Ja _ _ _ _ _ (@Jb _ _ _ _) (@Jc _) rfl) rfl) rfl) rfl (by decide) rfl rfl) rfl (.inl rfl))) (@Jd _ _ _ _ _ (@Ju _ _ 4 _ _ _ _ YG.nd rfl (Or.inl rfl) (@YC _ _ _ _ (@Jc _)) rfl (.inl rfl)) (@Jd _ _ _ _ _ (@YH _ _ _ _ _ _ _ _ PassesOwn.never rfl (@Jah _ _ _ _ _ _ rfl T.JaC (@Ja _ _ _ _ _ (@pv _ 1 _ _ rfl (.inl rfl) rfl rfl) (@Jc _) rfl) rfl) (@Yj _ _ 5 _ YG.nd rfl (Or.inl rfl) (.inl rfl)) (@Jd _ _ _ _ _ (@Ju _ _ 6 _ _ _ _ YG.nd rfl (Or.inl rfl) (@JdK _ _ _ _ _ _ _ _ _ _ (@Jf8 _) (@pv _ 3 _ _ rfl (.inl rfl) rfl rfl) (@Jdr _ _ _ (@Ji _ _ _ _ _ _ _ _ (@ZS _) (@Jb _ _ _ _) (@pv _ 5 _ _ rfl (.inl rfl) rfl rfl))) (@Jdr _ _ _ (@Ji _ _ _ _ _ _ _ _ (@JQ _) (@Ji _ _ _ _ _ _ _ _ (@ZS _) (@Jb _ _ _ _) (@pv _ 5 _ _ rfl (.inl rfl) rfl rfl)) (@Jb _ _ _ _)))) rfl (.inl rfl)) (@Jd _ _ _ _ _ (@Ju _ _ 7 _ _ _ _ YG.nd rfl (Or.inl rfl) (@Ji _ _ _ _ _ _ _ _ (@JQ _) (@Jb _ _ _ _) (@Ji _ _ _ _ _ _ _ _ (@JL _) (@JG _ _ _ _ _ _ _ (@JH _) (@pv _ 3 _ _ rfl (.inl rfl) rfl rfl) (@Ji _ _ _ _ _ _ _ _ (@JQ _) (@Ji _ _ _ _ _ _ _ _ (@ZS _) (@Jb _ _ _ _) (@pv _ 5 _ _ rfl (.inl rfl) rfl rfl)) (@Jb _ _ _ _)) (fun _ _=>rfl)) (@Jb _ _ _ _))) rfl (.inl rfl)) (@Jd _ _ _ _ _ (@J2 _ _ _ (@JN _ _ _ _ _ _ _ _ (@Jr _ _ _ _ _ _ _ _ (@Yi _) (@Ji _ _ _ _ _ _ _ _ (@JL _) (@pv _ 0 _ _ rfl (.inl rfl) rfl rfl) (@Jb _ _ _ _)) (@Jb _ _ _ _) (JB _)) (@Jd _ _ _ _ _ (@Ju _ _ 6 _ _ _ _ YG.nd rfl (Or.inl rfl) (@JdK _ _ _ _ _ _ _ _ _ _ (@Jf8 _) (@pv _ 3 _ _ rfl (.inl rfl) rfl rfl) (@Jgm _) (@Jdr _ _ _ (@Jb _ _ _ _))) rfl (.inl rfl)) (@Jd _ _ _ _ _ (@Ju _ _ 7 _ _ _ _ YG.nd rfl (Or.inl rfl) (@Ji _ _ _ _ _ _ _ _ (@JQ _) (@Jb _ _ _ _) (@Ji _ _ _ _ _ _ _ _ (@JL _) (@JG _ _ _ _ _ _ _ (@JH _) (@pv _ 3 _ _ rfl (.inl rfl) rfl rfl) (@Jb _ _ _ _) (fun _ _=>rfl)) (@Jb _ _ _ _))) rfl (.inl rfl)) (@Jh _ _ _ (@JnO _ _ _ _ _ _ (@Ji _ _ _ _ _ _ _ _ (@JL _) (@Ji _ _ _ _ _ _ _ _ (@JQ _) (@JG _ _ _ _ _ _ _ (@JH _) (@pv _ 3 _ _ rfl (.inl rfl) rfl rfl) (@Jb _ _ _ _) (fun _ _=>rfl)) (@Ji _ _ _ _ _ _ _ _ (@ZS _) (@Jb _ _ _ _) (@pv _ 5 _ _ rfl (.inl rfl) rfl rfl))) (@Jb _ _ _ _)) (@JnQ _ _ _ _ _ _ _ (@pv _ 6 _ _ rfl (.inl rfl) rfl rfl) (@Ji _ _ _ _ _ _ _ _ (@JL _) (@JG _ _ _ _ _ _ _ (@JH _) (@pv _ 3 _ _ rfl (.inl rfl) rfl rfl) (@Jb _ _ _ _) (fun _ _=>rfl)) (@pv _ 7 _ _ rfl (.inl rfl) rfl rfl)) (@Jlv _) (by intro _; rfl)) rfl rfl rfl)))) (@Jw _))) (@Jd _ _ _ _ _ (@J2 _ _ _ (@JN _ _ _ _ _ _ _ _ (@Jr _ _ _ _ _ _ _ _ (@Yi _) (@Ji _ _ _ _ _ _ _ _ (@JL _) (@pv _ 0 _ _ rfl (.inl rfl) rfl rfl) (@Jb _ _ _ _)) (@Jb _ _ _ _) (JB _)) (@Jd _ _ _ _ _ (@Ju _ _ 6 _ _ _ _ YG.nd rfl (Or.inl rfl) (@Ji _ _ _ _ _ _ _ _ (@JnT _) (@YC _ _ _ _ (@Ja _ _ _ _ _ (@Ji _ _ _ _ _ _ _ _ (@JL _) (@Ji _ _ _ _ _ _ _ _ (@JQ _) (@JG _ _ _ _ _ _ _ (@JH _) (@pv _ 3 _ _ rfl (.inl rfl) rfl rfl) (@Jb _ _ _ _) (fun _ _=>rfl)) (@Ji _ _ _ _ _ _ _ _ (@Yq _) (@pv _ 5 _ _ rfl (.inl rfl) rfl rfl) (@Jb _ _ _ _))) (@Jb _ _ _ _)) (@Jc _) rfl)) (@Jb _ _ _ _)) rfl (.inl rfl)) (@Jh _ _ _ (@Ju _ _ 7 _ _ _ _ YG.nd rfl (Or.inl rfl) (@Ji _ _ _ _ _ _ _ _ (@JQ _) (@Jb _ _ _ _) (@Ji _ _ _ _ _ _ _ _ (@JL _) (@Ji _ _ _ _ _ _ _ _ (@JQ _) (@pv _ 5 _ _ rfl (.inl rfl) rfl rfl) (@JG _ _ _ _ _ _ _ (@JH _) (@pv _ 3 _ _ rfl (.inl rfl) rfl rfl) (@Jb _ _ _ _) (fun _ _=>rfl))) (@Jb _ _ _ _))) rfl (.inl rfl)))) (@Jw _))) (@Jd _ _ _ _ _ (@J2 _ _ _ (@Ju _ _ 8 _ _ _ _ YG.nd rfl (Or.inl rfl) (@Zm _ _ _ _ _ _ _ _ _ _ _ _ PySem.F.plainAttrs_str PySem.F.slot_str_join PySem.F.type_str_join (@Jm9 _) (@JR _ _ _ _) (@Ja _ _ _ _ _ (@Jaz _ _ _ _ _ _ _ 1 ["_law_x", "_law_letters"] [2] _ _ _ _ ["_law_cell", "_law_many", "_law_letters", "_law_free", "_law_found", "_law_k", "_law_places", "_law_size", "_law_head", "_law_more", "_law_name"] ((Jm JeA).names) (by decide +kernel) (@Yv _ _ _ _ (@JdK _ _ _ _ _ _ _ _ _ _ (@Jf8 _) (@pv _ 6 _ _ rfl (.inl rfl) rfl rfl) (@Jgm _) (@Jdr _ _ _ (@Ji _ _ _ _ _ _ _ _ (@Y3 _) (@pv _ 7 _ _ rfl (.inl rfl) rfl rfl) (@Jb _ _ _ _))))) (fun _ _ _ _=>(@Y2 _ _ _ _ _ _ _ _ _ 0 (by decide +kernel) rfl rfl)) (fun _ _ _ _=>(@Zd _)) (fun _ _ _ _=>(@JG _ _ _ _ _ _ _ (@JkD _) (@JT _ _ _ _ _ _ _ _ _ 1 rfl rfl (by decide) (by decide)) (@YB _ _ _ _ _ _ _ _ _ 0 rfl rfl (by decide) (by decide)) (fun _ _=>rfl))) rfl rfl rfl (by intro _; rfl)) (@Jc _) rfl) rfl rfl rfl rfl rfl) rfl (.inl rfl))) (@Jh _ _ _ (@YH _ _ _ _ _ _ _ _ PassesOwn.never rfl (@Jah _ _ _ _ _ _ rfl T.JaC (@Ja _ _ _ _ _ (@Jb _ _ _ _) (@Jc _) rfl) rfl) (@Yj _ _ 9 _ YG.nd rfl (Or.inl rfl) (.inl rfl)) (@Jd _ _ _ _ _ (@Ju _ _ 10 _ _ _ _ YG.nd rfl (Or.inl rfl) (@Ji _ _ _ _ _ _ _ _ (@JfE _) (@pv _ 8 _ _ rfl (.inl rfl) rfl rfl) (@JG _ _ _ _ _ _ _ (@JkD _) (@pv _ 2 _ _ rfl (.inr (.inl rfl)) rfl rfl) (@Ji _ _ _ _ _ _ _ _ (@JL _) (@Ji _ _ _ _ _ _ _ _ (@JQ _) (@JG _ _ _ _ _ _ _ (@JH _) (@pv _ 6 _ _ rfl (.inl rfl) rfl rfl) (@Ji _ _ _ _ _ _ _ _ (@Y3 _) (@pv _ 7 _ _ rfl (.inl rfl) rfl rfl) (@Jb _ _ _ _)) (fun _ _=>rfl)) (@pv _ 9 _ _ rfl (.inl rfl) rfl rfl)) (@Jb _ _ _ _)) (fun _ _=>rfl))) rfl (.inl rfl)) (@Jh _ _ _ (@JN _ _ _ _ _ _ _ _ (@Jr _ _ _ _ _ _ _ _ (@Jai _) (@pv _ 10 _ _ rfl (.inl rfl) rfl rfl) (@pv _ 4 _ _ rfl (.inl rfl) rfl rfl) (by with_unfolding_all rfl)) (@Jd _ _ _ _ _ (@Jy _ _ _ _ (@Zm _ _ _ _ _ _ _ _ _ _ _ _ PySem.F.plainAttrs_list PySem.F.slot_list_append PySem.F.type_list_append (@Yc _) (@pv _ 4 _ _ rfl (.inl rfl) rfl rfl) (@Ja _ _ _ _ _ (@pv _ 10 _ _ rfl (.inl rfl) rfl rfl) (@Jc _) rfl) rfl rfl rfl rfl rfl) rfl) (@Jh _ _ _ (@JlM _ _))) (@Jw _)))) (by intro _; rfl)))))))) (by intro _; rfl)) (@Jh _ _ _ (@JA _ _ _ _ (@pv _ 4 _ _ rfl (.inl rfl) rfl rfl))))))),?_⟩
  try dsimp only [cxK,Jeo]
  refine ⟨fun σ1 H1=>∃ (pf:Addr) (fs:List Int),Jg H H1∧H1 pf=some (.lst (fs.map V.int))∧fs.length=7 * n∧(∀ x∈fs,0≤x∧x < 26)∧σ1=[some (.int c),some (.int n),some (.str LT),some (.ref pf),none,none,none,none,none,none,none],
   ⟨_,rfl,_,_,rfl,rfl,⟨by decide,by decide⟩,_,rfl,_,_,rfl,rfl,.inl ⟨by decide,by decide⟩,c / 4,7 * n,26,congrArg (fun z=>[V.int (c / 4),V.int z,V.int 26]) (by omega:7 * (n:Int)=((7 * n:Nat):Int)),by omega,by decide,by decide,fun pf fs H1 h1 e1 h2 h3 h4=>⟨pf,fs,e1,h2,h3,h4,rfl⟩⟩,?_⟩
  rintro σ1 H1 ⟨pf,fs,e1,hf,hfl,hfr,rfl⟩;refine ⟨by show 0≤sizeLine; decide,fun pl hpl=>?_⟩;have npl:H pl=none:=by
   cases hd:H pl with
   | none=>rfl
   | some u=>rw [e1 _ _ hd] at hpl; cases hpl
  have sl:=hfl;refine ⟨_,rfl,(n:Int),rfl,by omega,by omega,?_⟩;refine Jap (n:=n) (fun i σ H2=>∃ (ss:List Str) (v5 v6 v7 v8 v9 v10:Option V),Jg H1 H2∧H2 pl=some (.lst (ss.map V.str))∧ss.length=i∧(∀ s∈ss,YV s=true)∧ss.Nodup∧σ=[some (.int c),some (.int n),some (.str LT),some (.ref pf),some (.ref pl),v5,v6,v7,v8,v9,v10])
   ⟨[],none,none,none,none,none,none,Jg.upd hpl,Jf,rfl,(fun s hs=>nomatch hs),List.nodup_nil,rfl⟩ ?_ ?_
  ·rintro i σ H2 hi ⟨ss,v5,v6,v7,v8,v9,v10,e2,hs2,hsl,hsg,hsn,rfl⟩;have hf2:=Jq.of (K:=K) (e2 _ _ hf);have at_:∀ {H':Hp} {e:Int},Jg H2 H'→0≤e→e < 7 * n→∃ y,(0≤y∧y < 26)∧atI (fs.map V.int) e=some (.int y):=fun {H' e} _ h0 h1=>by
    obtain ⟨y,h2,h3⟩:=Jcn (xs:=fs) (e:=e) h0 (by omega);exact ⟨y,hfr y h3,h2⟩
   refine ⟨_,rfl,_,rfl,_,_,rfl,rfl,.inl ⟨by decide,by decide⟩,_,rfl,_,rfl,_,_,rfl,rfl,.inl ⟨by decide,by decide⟩,_,_,rfl,rfl,_,rfl,pf,_,rfl,hf2,fun p1 n1=>?_⟩;obtain ⟨ys1,ey1,my1⟩:=Jiq (xs:=fs) (lo:=some (7 * (0 + (i:Int)))) (hi:=some (7 * (0 + (i:Int)) + 6));have ly1:ys1.length=6:=by
    have z:=congrArg List.length ey1;rw [List.length_map] at z;rw [← z];unfold JaO;rw [List.length_map];have a1:HT.sIx fs.length 0 (some (7 * (0 + (i:Int))))=7 * i:=by
     rw [show (7 * (0 + (i:Int)))=((7 * i:Nat):Int) by omega,HT.JiL];omega
    have a2:HT.sIx fs.length fs.length (some (7 * (0 + (i:Int)) + 6))=7 * i + 6:=by
     rw [show (7 * (0 + (i:Int)) + 6)=((7 * i + 6:Nat):Int) by omega,HT.JiL];omega
    rw [a1,a2,List.length_take,List.length_drop,List.length_map];omega
   have e3:=Jg.upd (o:=.lst (JaO (fs.map V.int) (some (7 * (0 + (i:Int)))) (some (7 * (0 + (i:Int)) + 6)))) n1;have h3:upd H2 p1 (.lst (JaO (fs.map V.int) (some (7 * (0 + (i:Int)))) (some (7 * (0 + (i:Int)) + 6)))) p1=some (.lst (ys1.map V.int)):=by rw [Jf,ey1]
   generalize upd H2 p1 (.lst (JaO (fs.map V.int) (some (7 * (0 + (i:Int)))) (some (7 * (0 + (i:Int)) + 6))))=H3 at e3 h3;obtain ⟨y1,yr1,ya1⟩:=at_ e3 (e:=7 * (0 + (i:Int)) + 6) (by omega) (by omega);refine ⟨_,rfl,_,rfl,_,_,rfl,rfl,.inl ⟨by decide,by decide⟩,_,_,rfl,rfl,pf,_,_,.int y1,rfl,rfl,e3.seq hf2,ya1,_,_,rfl,rfl,(by show (0:Int) < 6; decide),_,_,rfl,rfl,?_⟩;refine ⟨fun σ1 H4=>∃ (pp:Addr) (xs:List Int) (sz:Int),Jg H2 H4∧H4 pp=some (.lst (xs.map V.int))∧xs.length=6∧(∀ x∈xs,0≤x∧x < 26)∧1≤sz∧sz≤6∧σ1=[some (.int c),some (.int n),some (.str LT),some (.ref pf),some (.ref pl),some (.int (0 + (i:Int))),some (.ref pp),some (.int sz),v8,v9,v10],?_,?_⟩
   ·refine ⟨_,rfl,_,_,rfl,rfl,(by show (0:Int) < 4; decide),rfl,_,rfl,Yr (fun _=>?_) (fun _=>?_)⟩
    ·refine ⟨_,rfl,_,rfl,pf,_,rfl,e3.seq hf2,fun p4 n4=>?_⟩;obtain ⟨ys2,ey2,my2⟩:=Jiq (xs:=fs) (lo:=none) (hi:=some 6);have ly2:ys2.length=6:=by
      have z:=congrArg List.length ey2;rw [List.length_map] at z;have z2:=Ji4 (xs:=fs) (k:=6) (by decide) (by omega);omega
     have n42:H2 p4=none:=by
      cases hd:H2 p4 with
      | none=>rfl
      | some u=>rw [e3 _ _ hd] at n4; cases n4
     have e4:=e3.trans (Jg.upd (o:=.lst (JaO (fs.map V.int) none (some 6))) n4);obtain ⟨y6,yr6,ya6⟩:=at_ e4 (e:=6) (by omega) (by omega);refine ⟨_,rfl,pf,_,_,.int y6,rfl,rfl,e4.seq hf2,ya6,_,_,rfl,rfl,(by show (0:Int) < 6; decide),_,_,rfl,rfl,?_⟩;obtain ⟨y0,yr0,ya0⟩:=at_ e4 (e:=0) (by omega) (by omega);obtain ⟨yo,yro,yao⟩:=at_ e4 (e:=1) (by omega) (by omega);have hsz1:1≤1 + y6 % 6∧1 + y6 % 6≤6:=by omega
     refine ⟨_,rfl,pf,_,_,.int yo,rfl,rfl,e4.seq hf2,yao,_,rfl,_,_,rfl,rfl,.inl ⟨by decide,by decide⟩,_,_,rfl,rfl,_,_,rfl,rfl,(by show (0:Int) < 26; decide),?_⟩;have hj0:=Int.emod_nonneg y0 (b:=1 + y6 % 6) (by omega);have hj1:=Int.emod_lt_of_pos y0 (b:=1 + y6 % 6) (by omega);refine ⟨_,rfl,_,rfl,pf,_,_,.int y0,rfl,rfl,e4.seq hf2,ya0,_,rfl,_,_,rfl,rfl,(by show (0:Int) < 1 + y6 % 6; omega),p4,_,_,(y0 % (1 + y6 % 6)).toNat,rfl,rfl,Jf,?_,?_⟩
     ·rw [ey2,List.length_map,ly2];unfold ixN;rw [if_pos hj0,if_pos (by omega)]
     ·refine ⟨p4,ys2.set (y0 % (1 + y6 % 6)).toNat ((yo + 5 * (0 + (i:Int))) % 26),1 + y6 % 6,fun b u e=>?_,?_,by rw [List.length_set]; exact ly2,fun x hx=>?_,hsz1.1,hsz1.2,rfl⟩
      ·rw [Jl (Jn e n42)]; exact e4 b u e
      ·rw [Jf,ey2,List.map_set]
      ·rcases List.mem_or_eq_of_mem_set hx with w | w
       ·exact hfr x (my2 x w)
       ·rw [w]; omega
    ·exact ⟨p1,ys1,1 + y1 % 6,e3,h3,ly1,fun x hx=>hfr x (my1 x hx),by omega,by omega,rfl⟩
   rintro σ1 H4 ⟨pp,xs,sz,e4,hx4,lx4,rx4,s41,s42,rfl⟩;refine ⟨fun σ1 H4=>∃ (pp:Addr) (xs:List Int) (sz:Int),Jg H2 H4∧H4 pp=some (.lst (xs.map V.int))∧xs.length=6∧(∀ x∈xs,0≤x∧x < 26)∧1≤sz∧sz≤6∧σ1=[some (.int c),some (.int n),some (.str LT),some (.ref pf),some (.ref pl),some (.int (0 + (i:Int))),some (.ref pp),some (.int sz),v8,v9,v10],?_,?_⟩
   ·refine ⟨_,rfl,_,_,rfl,rfl,(by show (0:Int) < 4; decide),rfl,_,rfl,Yr (fun _=>?_) (fun _=>⟨pp,xs,sz,e4,hx4,lx4,rx4,s41,s42,rfl⟩)⟩;obtain ⟨yo,yro,yao⟩:=at_ e4 (e:=1) (by omega) (by omega);refine ⟨_,rfl,pf,_,_,.int yo,rfl,rfl,e4.seq hf2,yao,_,rfl,_,_,rfl,rfl,⟨by decide,by decide⟩,_,_,rfl,rfl,_,_,rfl,rfl,(by show (0:Int) < 26; decide),by show 1≤sizeLine; decide,fun p5 n5=>?_⟩;have e5:=e4.trans (Jg.upd (o:=.lst [.int ((yo + (0 + (i:Int)) / 6) % 26)]) n5);refine ⟨p5,6,_,rfl,rfl,Jf,by decide,by decide,by show 1 * 6≤sizeLine; decide,fun p6 n6=>?_⟩;have e6:=e5.trans (Jg.upd (o:=.lst (List.replicate (6:Int).toNat [V.int ((yo + (0 + (i:Int)) / 6) % 26)]).flatten) n6);obtain ⟨y0,yr0,ya0⟩:=at_ e6 (e:=0) (by omega) (by omega);refine ⟨_,rfl,_,rfl,pf,_,_,.int y0,rfl,rfl,e6.seq hf2,ya0,_,_,rfl,rfl,_,_,rfl,rfl,(by show (0:Int) < 6; decide),_,_,rfl,rfl,?_⟩;refine ⟨p6,List.replicate 6 ((yo + (0 + (i:Int)) / 6) % 26),_,e6,?_,by simp,fun x hx=>?_,?_,?_,rfl⟩
    ·rw [Jf]; rfl
    ·rw [(List.mem_replicate.mp hx).2]; omega
    ·omega
    ·omega
   clear hx4 lx4 rx4 s41 s42 e4 pp xs sz H4 e3 h3 H3 ya1 yr1 y1 ly1 my1 ey1 ys1;rintro σ1 H4 ⟨pp,xs,sz,e4,hx4,lx4,rx4,s41,s42,rfl⟩;refine ⟨fun σ1 H5=>∃ hd:Str,Jg H2 H5∧H5 pp=some (.lst (xs.map V.int))∧hd.length≤5∧(∀ c∈hd.cps.toList,Zr c=true)∧σ1=[some (.int c),some (.int n),some (.str LT),some (.ref pf),some (.ref pl),some (.int (0 + (i:Int))),some (.ref pp),some (.int sz),some (.str hd),v9,v10],?_,?_⟩
   ·refine ⟨rfl,_,rfl,_,rfl,_,_,rfl,rfl,_,rfl,pp,_,rfl,Jq.of hx4,fun p5 n5=>⟨p5,rfl,⟨_,Jq.of Jf⟩,fun D hD=>?_⟩⟩;have e5:=Jg.upd (o:=.lst (JaO (xs.map V.int) none (some (sz - 1)))) n5;have hcl:=Ji4 (xs:=xs) (k:=sz - 1) (by omega) (by omega);refine Jhe (xs:=JaO (xs.map V.int) none (some (sz - 1))) (fun _ v=>∃ c,v=.str ⟨#[c]⟩∧Zr c=true) rfl (Jq.of Jf) hD (by have:sizeLine=16777216:=sizeLine_eq; omega) (fun i x H6 hx6 e6 Q' hQ=>?_) (fun ys H6 e6 hD6 hl6 hF=>?_)
    ·obtain ⟨j,hj,rfl⟩:=List.mem_map.mp (Jnb (List.mem_of_getElem? hx6));obtain ⟨hj0,hj1⟩:=rx4 j hj;exact ⟨_,rfl,_,rfl,_,_,_,rfl,rfl,Jk8,Jg5 hj0 hj1,hQ _ ⟨_,rfl,JhL (by omega)⟩⟩
    ·obtain ⟨zs,rfl,hz⟩:∃ zs:List Str,ys=zs.map V.str∧∀ y∈zs,∃ c,y=⟨#[c]⟩∧Zr c=true:=by
      clear hD6 hl6
      induction ys with
      | nil=>exact ⟨[],rfl,fun u hu=>nomatch hu⟩
      | cons v r ih =>
       obtain ⟨zs,rfl,hz⟩:=ih fun i v' e=>hF (i + 1) v' (by simpa using e)
       obtain ⟨d,rfl,hu⟩:=hF 0 v rfl;refine ⟨⟨#[d]⟩ :: zs,rfl,fun u' h'=>?_⟩;rcases List.mem_cons.mp h' with rfl | h'
       ·exact ⟨d,rfl,hu⟩
       ·exact hz u' h'
     rw [List.length_map] at hl6;obtain ⟨j1,j2⟩:=JfM hz;have ej:Txt.join Str.empty zs=Str.join Str.empty zs:=StrLaws.glued_eq_join _ _;have hsum:(zs.map (·.length)).sum=zs.length:=PyProof.Rows.sumLen_of_ones zs fun u hu=>by
      obtain ⟨d,rfl,_⟩:=hz u hu;rfl
     refine ⟨_,D,zs,rfl,rfl,Jq.of hD6,by show _ + zs.length * 0≤_; omega,Txt.join Str.empty zs,(e4.trans e5).trans e6,e6 _ _ (e5 _ _ hx4),?_,?_,rfl⟩
     ·rw [ej,j1]; omega
     ·rw [ej]; exact j2
   rintro σ1 H5 ⟨hd,e5,hx5,hd1,hd2,rfl⟩;obtain ⟨x,hxa,hxm⟩:=Jcn (xs:=xs) (e:=sz - 1) (by omega) (by omega);have hs5:=e5 _ _ hs2;refine ⟨26,rfl,by decide,by decide,Jap (n:=26) (fun j σ H6=>H6=H5∧(∀ m:Nat,m < j→nam hd ((x + m) % 26).toNat∈ss)∧∃ v9 v10,σ=[some (.int c),some (.int n),some (.str LT),some (.ref pf),some (.ref pl),some (.int (0 + (i:Int))),some (.ref pp),some (.int sz),some (.str hd),v9,v10]) ⟨rfl,fun m hm=>absurd hm (Nat.not_lt_zero _),_,_,rfl⟩ ?_ ?_⟩
   ·rintro j σ H6 hj ⟨rfl,hin,v9,v10,rfl⟩;have m0:=Int.emod_nonneg (x + (0 + (j:Int))) (b:=26) (by decide);have m1:=Int.emod_lt_of_pos (x + (0 + (j:Int))) (b:=26) (by decide);have en:(x + (0 + (j:Int))) % 26=(x + (j:Nat)) % 26:=by rw [Int.zero_add]
    refine ⟨_,rfl,_,rfl,_,rfl,_,rfl,_,_,rfl,rfl,pp,_,_,.int x,rfl,rfl,Jq.of hx5,hxa,_,rfl,_,_,rfl,rfl,_,_,rfl,rfl,(by show (0:Int) < 26; decide),_,_,_,rfl,rfl,Jk8,Jg5 m0 m1,_,_,rfl,rfl,?_,?_⟩
    ·show hd.length + 1≤sizeLine;have:sizeLine=16777216:=sizeLine_eq;omega
    ·refine ⟨_,rfl,_,rfl,pl,_,rfl,.inl (Jq.of hs5),rfl,Jc6 ss,_,rfl,?_⟩;rw [if_pos rfl,JdO];show if (!decide (nam hd ((x + (0 + (j:Int))) % 26).toNat∈ss))=true then _ else _;rw [en];by_cases hmem:nam hd ((x + (j:Nat)) % 26).toNat∈ss
     ·refine Y0 (by rw [decide_eq_true hmem]; rfl) ⟨rfl,fun m hm=>?_,_,_,rfl⟩;by_cases hmj:m=j
      ·rw [hmj]; exact hmem
      ·exact hin m (by omega)
     ·refine Z7 (by rw [decide_eq_false hmem]; rfl) ?_;refine ⟨_,rfl,.inl ⟨rfl,_,Jq.of hs5⟩,_,rfl,pl,_,_,rfl,rfl,hs5,by rw [List.length_map]; have:sizeLine=16777216:=sizeLine_eq; omega,?_⟩;refine ⟨ss ++ [nam hd ((x + (j:Nat)) % 26).toNat],_,_,_,_,_,_,fun b u e=>?_,?_,by simp [hsl],fun s hs=>?_,?_,rfl⟩
      ·rw [Jl (Jn e hpl)]; exact e5 b u (e2 b u e)
      ·rw [Jf,List.map_append];rfl
      ·rcases List.mem_append.mp hs with w | w
       ·exact hsg s w
       ·rw [List.mem_singleton.mp w];exact Jl0 hd1 hd2 (by rw [en] at m0 m1; omega)
      ·rw [List.nodup_append];refine ⟨hsn,by simp,fun a ha b hb e=>?_⟩;rw [List.mem_singleton] at hb;subst hb e;exact hmem ha
   ·rintro σ H6 ⟨rfl,hin,_⟩;exact (Jl1 (x:=x) (ss:=ss) (by omega) fun m hm=>hin m hm).elim
  ·rintro σ H2 ⟨ss,v5,v6,v7,v8,v9,v10,e2,hs2,hsl,hsg,hsn,rfl⟩;exact ⟨_,rfl,q pl ss H2 npl (e1.trans e2) hs2 hsl hsg hsn⟩
theorem JlU (T:Txt K mg):JM P w K mg base Zk 2 T.Jgz T.Jfd ["_law_cell", "_law_draw", "_law_size"] (Jli K):=by
 refine T.JgM.F.ok Zg (fun vs H Q E h=>?_) (fun cdv A outer s H vs Q E hr h=>?_)
 ·obtain ⟨_,_,_,rfl,_⟩:=h;rfl
 ·obtain ⟨c,d,n,rfl,hn1,hn2,q⟩:=h;have hu:=Jck hr;have szl:sizeLine=16777216:=sizeLine_eq;refine ⟨_,(@Jd _ _ _ _ _ (@Ju _ _ 3 _ _ _ _ Zg.nd rfl (Or.inl rfl) (@YC _ _ _ _ (@Jc _)) rfl (.inl rfl)) (@Jd _ _ _ _ _ (@Ju _ _ 4 _ _ _ _ Zg.nd rfl (Or.inl rfl) (@Ji _ _ _ _ _ _ _ _ (@JL _) (@Ji _ _ _ _ _ _ _ _ (@Yq _) (@pv _ 0 _ _ rfl (.inl rfl) rfl rfl) (@Jb _ _ _ _)) (@Jb _ _ _ _)) rfl (.inl rfl)) (@Jd _ _ _ _ _ (@J2 _ _ _ (@JN _ _ _ _ _ _ _ _ (@Jr _ _ _ _ _ _ _ _ (@Yi _) (@Ji _ _ _ _ _ _ _ _ (@JL _) (@pv _ 0 _ _ rfl (.inl rfl) rfl rfl) (@Jb _ _ _ _)) (@Jb _ _ _ _) (JB _)) (@Jh _ _ _ (@YH _ _ _ _ _ _ _ _ PassesOwn.never rfl (@Jah _ _ _ _ _ _ rfl T.JaC (@Ja _ _ _ _ _ (@Ji _ _ _ _ _ _ _ _ (@Y3 _) (@pv _ 2 _ _ rfl (.inl rfl) rfl rfl) (@Jb _ _ _ _)) (@Jc _) rfl) rfl) (@Yj _ _ 5 _ Zg.nd rfl (Or.inl rfl) (.inl rfl)) (@Jd _ _ _ _ _ (@Jy _ _ _ _ (@Zm _ _ _ _ _ _ _ _ _ _ _ _ PySem.F.plainAttrs_list PySem.F.slot_list_append PySem.F.type_list_append (@Yc _) (@pv _ 3 _ _ rfl (.inl rfl) rfl rfl) (@Ja _ _ _ _ _ (@YI _ _ _ _ _ (@Ja _ _ _ _ _ (@pv _ 5 _ _ rfl (.inl rfl) rfl rfl) (@Ja _ _ _ _ _ (@Ji _ _ _ _ _ _ _ _ (@JQ _) (@pv _ 5 _ _ rfl (.inl rfl) rfl rfl) (@Jb _ _ _ _)) (@Jc _) rfl) rfl)) (@Jc _) rfl) rfl rfl rfl rfl rfl) rfl) (@Jh _ _ _ (@Jy _ _ _ _ (@Zm _ _ _ _ _ _ _ _ _ _ _ _ PySem.F.plainAttrs_list PySem.F.slot_list_append PySem.F.type_list_append (@Yc _) (@pv _ 3 _ _ rfl (.inl rfl) rfl rfl) (@Ja _ _ _ _ _ (@YI _ _ _ _ _ (@Ja _ _ _ _ _ (@pv _ 5 _ _ rfl (.inl rfl) rfl rfl) (@Ja _ _ _ _ _ (@JO _ _ _ _ _ _ _ _ _ (@JbN _ rfl) rfl T.JdN PyProof.Rows.boot_max (@Ja _ _ _ _ _ (@Jb _ _ _ _) (@Ja _ _ _ _ _ (@Ji _ _ _ _ _ _ _ _ (@Y3 _) (@pv _ 5 _ _ rfl (.inl rfl) rfl rfl) (@Jb _ _ _ _)) (@Jc _) rfl) rfl) (by decide) (by decide) rfl rfl) (@Jc _) rfl) rfl)) (@Jc _) rfl) rfl rfl rfl rfl rfl) rfl))) (by intro _; rfl))) (@Jw _))) (@Jd _ _ _ _ _ (@J2 _ _ _ (@JN _ _ _ _ _ _ _ _ (@Jr _ _ _ _ _ _ _ _ (@Yi _) (@Ji _ _ _ _ _ _ _ _ (@JL _) (@pv _ 0 _ _ rfl (.inl rfl) rfl rfl) (@Jb _ _ _ _)) (@Jb _ _ _ _) (JB _)) (@Jh _ _ _ (@YH _ _ _ _ _ _ _ _ PassesOwn.never rfl (@Jkh _ _ _ _ _ _ _ rfl T.JaC (@Ja _ _ _ _ _ (@Jb _ _ _ _) (@Ja _ _ _ _ _ (@Ji _ _ _ _ _ _ _ _ (@Y3 _) (@pv _ 2 _ _ rfl (.inl rfl) rfl rfl) (@Jb _ _ _ _)) (@Jc _) rfl) rfl) rfl rfl) (@Yj _ _ 5 _ Zg.nd rfl (Or.inl rfl) (.inl rfl)) (@Jd _ _ _ _ _ (@Jy _ _ _ _ (@Zm _ _ _ _ _ _ _ _ _ _ _ _ PySem.F.plainAttrs_list PySem.F.slot_list_append PySem.F.type_list_append (@Yc _) (@pv _ 3 _ _ rfl (.inl rfl) rfl rfl) (@Ja _ _ _ _ _ (@YI _ _ _ _ _ (@Ja _ _ _ _ _ (@pv _ 5 _ _ rfl (.inl rfl) rfl rfl) (@Ja _ _ _ _ _ (@Ji _ _ _ _ _ _ _ _ (@JQ _) (@pv _ 5 _ _ rfl (.inl rfl) rfl rfl) (@Jb _ _ _ _)) (@Jc _) rfl) rfl)) (@Jc _) rfl) rfl rfl rfl rfl rfl) rfl) (@Jh _ _ _ (@Jy _ _ _ _ (@Zm _ _ _ _ _ _ _ _ _ _ _ _ PySem.F.plainAttrs_list PySem.F.slot_list_append PySem.F.type_list_append (@Yc _) (@pv _ 3 _ _ rfl (.inl rfl) rfl rfl) (@Ja _ _ _ _ _ (@YI _ _ _ _ _ (@Ja _ _ _ _ _ (@pv _ 5 _ _ rfl (.inl rfl) rfl rfl) (@Ja _ _ _ _ _ (@Jb _ _ _ _) (@Jc _) rfl) rfl)) (@Jc _) rfl) rfl rfl rfl rfl rfl) rfl))) (by intro _; rfl))) (@Jw _))) (@Jd _ _ _ _ _ (@J2 _ _ _ (@JN _ _ _ _ _ _ _ _ (@Jr _ _ _ _ _ _ _ _ (@Yi _) (@Ji _ _ _ _ _ _ _ _ (@JL _) (@pv _ 0 _ _ rfl (.inl rfl) rfl rfl) (@Jb _ _ _ _)) (@Jb _ _ _ _) (JB _)) (@Jh _ _ _ (@Ju _ _ 4 _ _ _ _ Zg.nd rfl (Or.inl rfl) (@Ji _ _ _ _ _ _ _ _ (@ZS _) (@Jb _ _ _ _) (@JO _ _ _ _ _ _ _ _ _ (@JbN _ rfl) rfl T.JdN PyProof.Rows.boot_max (@Ja _ _ _ _ _ (@Jb _ _ _ _) (@Ja _ _ _ _ _ (@Ji _ _ _ _ _ _ _ _ (@Y3 _) (@pv _ 2 _ _ rfl (.inl rfl) rfl rfl) (@Jb _ _ _ _)) (@Jc _) rfl) rfl) (by decide) (by decide) rfl rfl)) rfl (.inl rfl))) (@Jw _))) (@Jd _ _ _ _ _ (@J2 _ _ _ (@JN _ _ _ _ _ _ _ _ (@Jr _ _ _ _ _ _ _ _ (@Yi _) (@Ji _ _ _ _ _ _ _ _ (@JL _) (@pv _ 0 _ _ rfl (.inl rfl) rfl rfl) (@Jb _ _ _ _)) (@Jb _ _ _ _) (JB _)) (@Jh _ _ _ (@Ju _ _ 4 _ _ _ _ Zg.nd rfl (Or.inl rfl) (@Ji _ _ _ _ _ _ _ _ (@JL _) (@Ji _ _ _ _ _ _ _ _ (@JQ _) (@Ji _ _ _ _ _ _ _ _ (@Yq _) (@pv _ 0 _ _ rfl (.inl rfl) rfl rfl) (@Jb _ _ _ _)) (@Jb _ _ _ _)) (@Jb _ _ _ _)) rfl (.inl rfl))) (@Jw _))) (@Jd _ _ _ _ _ (@J2 _ _ _ (@Ju _ _ 6 _ _ _ _ Zg.nd rfl (Or.inl rfl) (@Jp _ _ _ _ _ _ _ _ _ _ _ _ _ _ _ T.JeO (JfF T) (hr.mono (by decide)) JK (@Ja _ _ _ _ _ (@pv _ 1 _ _ rfl (.inl rfl) rfl rfl) (@Ja _ _ _ _ _ (@Ji _ _ _ _ _ _ _ _ (@ZS _) (@Jb _ _ _ _) (@pv _ 4 _ _ rfl (.inl rfl) rfl rfl)) (@Ja _ _ _ _ _ (@pv _ 2 _ _ rfl (.inl rfl) rfl rfl) (@Jc _) rfl) rfl) rfl) rfl (by decide) rfl rfl) rfl (.inl rfl))) (@Jd _ _ _ _ _ (@YH _ _ _ _ _ _ _ _ PassesOwn.never rfl (@Jah _ _ _ _ _ _ rfl T.JaC (@Ja _ _ _ _ _ (@pv _ 4 _ _ rfl (.inl rfl) rfl rfl) (@Jc _) rfl) rfl) (@Yj _ _ 5 _ Zg.nd rfl (Or.inl rfl) (.inl rfl)) (@Jd _ _ _ _ _ (@Ju _ _ 7 _ _ _ _ Zg.nd rfl (Or.inl rfl) (@YI _ _ _ _ _ (@Ja _ _ _ _ _ (@JG _ _ _ _ _ _ _ (@JH _) (@pv _ 6 _ _ rfl (.inl rfl) rfl rfl) (@Ji _ _ _ _ _ _ _ _ (@ZS _) (@Jb _ _ _ _) (@pv _ 5 _ _ rfl (.inl rfl) rfl rfl)) (fun _ _=>rfl)) (@Ja _ _ _ _ _ (@JG _ _ _ _ _ _ _ (@JH _) (@pv _ 6 _ _ rfl (.inl rfl) rfl rfl) (@Ji _ _ _ _ _ _ _ _ (@JQ _) (@Ji _ _ _ _ _ _ _ _ (@ZS _) (@Jb _ _ _ _) (@pv _ 5 _ _ rfl (.inl rfl) rfl rfl)) (@Jb _ _ _ _)) (fun _ _=>rfl)) (@Jc _) rfl) rfl)) rfl (.inl rfl)) (@Jd _ _ _ _ _ (@J2 _ _ _ (@JN _ _ _ _ _ _ _ _ (@Jr _ _ _ _ _ _ _ _ (@Yi _) (@Ji _ _ _ _ _ _ _ _ (@JL _) (@pv _ 0 _ _ rfl (.inl rfl) rfl rfl) (@Jb _ _ _ _)) (@Jb _ _ _ _) (JB _)) (@Jh _ _ _ (@Ju _ _ 7 _ _ _ _ Zg.nd rfl (Or.inl rfl) (@YI _ _ _ _ _ (@Ja _ _ _ _ _ (@Ji _ _ _ _ _ _ _ _ (@JQ _) (@Jb _ _ _ _) (@Ji _ _ _ _ _ _ _ _ (@Yq _) (@pv _ 5 _ _ rfl (.inl rfl) rfl rfl) (@Jb _ _ _ _))) (@Ja _ _ _ _ _ (@JG _ _ _ _ _ _ _ (@JH _) (@pv _ 6 _ _ rfl (.inl rfl) rfl rfl) (@pv _ 5 _ _ rfl (.inl rfl) rfl rfl) (fun _ _=>rfl)) (@Jc _) rfl) rfl)) rfl (.inl rfl))) (@Jw _))) (@Jh _ _ _ (@J2 _ _ _ (@JN _ _ _ _ _ _ _ _ (@Jr _ _ _ _ _ _ _ _ (@JdT _ hu) (@pv _ 7 _ _ rfl (.inl rfl) rfl rfl) (@pv _ 3 _ _ rfl (.inl rfl) rfl rfl) (by with_unfolding_all rfl)) (@Jh _ _ _ (@Jy _ _ _ _ (@Zm _ _ _ _ _ _ _ _ _ _ _ _ PySem.F.plainAttrs_list PySem.F.slot_list_append PySem.F.type_list_append (@Yc _) (@pv _ 3 _ _ rfl (.inl rfl) rfl rfl) (@Ja _ _ _ _ _ (@pv _ 7 _ _ rfl (.inl rfl) rfl rfl) (@Jc _) rfl) rfl rfl rfl rfl rfl) rfl)) (@Jw _)))))) (by intro _; rfl)) (@Jh _ _ _ (@JA _ _ _ _ (@pv _ 3 _ _ rfl (.inl rfl) rfl rfl))))))))))),?_⟩
  try dsimp only [cxK,Jeo]
  refine ⟨by show 0≤sizeLine; decide,fun pl hpl=>?_⟩;have W0:PW K H pl n (upd H pl (.lst [])) []:=⟨Jg.upd hpl,Jf,(fun z hz=>nomatch hz),List.nodup_nil,(fun z hz=>nomatch hz)⟩
  generalize upd H pl (.lst [])=H1 at W0;refine ⟨_,rfl,_,_,rfl,rfl,⟨by decide,by decide⟩,_,_,rfl,rfl,(by show (0:Int) < 9; decide),?_⟩;refine ⟨fun σ1 H2=>∃ zs v5,PW K H pl n H2 zs∧(c % 4=0→zs.length≤22)∧(c % 4≠0→zs=[])∧σ1=[some (.int c),some (.int d),some (.int n),some (.ref pl),some (.int (c / 4 % 9)),v5,none,none],?_,?_⟩
  ·refine ⟨_,rfl,_,_,rfl,rfl,(by show (0:Int) < 4; decide),rfl,_,rfl,Yr (fun c0=>?_) (fun c0=>⟨[],none,W0,fun _=>Nat.zero_le _,fun _=>rfl,rfl⟩)⟩;have c0':c % 4=0:=V.int.inj (of_decide_eq_true c0);refine ⟨_,rfl,_,_,rfl,rfl,(n:Int) - 1,rfl,by omega,by omega,?_⟩;rw [show ((n:Int) - 1).toNat=n - 1 by omega];refine Jap (n:=n - 1) (fun i σ H2=>∃ zs v5,PW K H pl n H2 zs∧zs.length=2 * i∧(∀ z∈zs,z.2.1 < i)∧σ=[some (.int c),some (.int d),some (.int n),some (.ref pl),some (.int (c / 4 % 9)),v5,none,none]) ⟨[],none,W0,rfl,(fun z hz=>nomatch hz),rfl⟩ ?_ ?_
   ·rintro i σ H2 hi ⟨zs,v5,W,hl,hz,rfl⟩;refine ⟨_,rfl,.inl ⟨rfl,_,Jq.of W.at_⟩,_,rfl,_,rfl,_,_,rfl,rfl,by show 2≤sizeLine; omega,fun t1 n1=>⟨pl,_,_,rfl,rfl,(Jg.upd n1) _ _ W.at_,by rw [List.length_map]; omega,?_⟩⟩;have W1:=W.add hpl (Jg.upd n1) (t:=t1) (a:=0 + (i:Int)) (b:=0 + (i:Int) + 1) Jf (fun q=>by
     obtain ⟨z,h1,h2⟩:=List.mem_map.mp q;have:=hz z h1;rw [h2] at this;have:(0:Int) + i < i:=this;omega) ⟨by omega,by omega⟩
    refine ⟨_,rfl,.inl ⟨rfl,_,Jq.of W1.at_⟩,_,rfl,_,rfl,_,_,rfl,rfl,_,_,rfl,by show 2≤sizeLine; omega,fun t2 n2=>⟨pl,_,_,rfl,rfl,(Jg.upd n2) _ _ W1.at_,by rw [List.length_map,List.length_append]; show _ + 1 < _; omega,?_⟩⟩;have W2:=W1.add hpl (Jg.upd n2) (t:=t2) (a:=0 + (i:Int)) (b:=if 0 + (i:Int) - 1 > 0 then 0 + (i:Int) - 1 else 0) Jf (fun q=>by
     rw [List.map_append,List.mem_append] at q;rcases q with q | q
     ·obtain ⟨z,h1,h2⟩:=List.mem_map.mp q;have:=hz z h1;rw [h2] at this;have:(0:Int) + i < i:=this;omega
     ·have e:=congrArg Prod.snd (List.mem_singleton.mp q);have e:(if 0 + (i:Int) - 1 > 0 then 0 + (i:Int) - 1 else 0)=0 + (i:Int) + 1:=e;split at e <;> omega) ⟨by omega,by split <;> omega⟩
    exact ⟨_,_,W2,by simp [hl]; omega,fun z hz2=>by
     rcases List.mem_append.mp hz2 with q | q
     ·rcases List.mem_append.mp q with q | q
      ·have:=hz z q; show z.2.1 < ((i + 1:Nat):Int); omega
      ·rw [List.mem_singleton.mp q]; show (0:Int) + i < ((i + 1:Nat):Int); omega
     ·rw [List.mem_singleton.mp q]; show (0:Int) + i < ((i + 1:Nat):Int); omega,rfl⟩
   ·rintro σ H2 ⟨zs,v5,W,hl,hz,rfl⟩;exact ⟨zs,v5,W,fun _=>by omega,fun h=>absurd c0' h,rfl⟩
  rintro σ1 H2 ⟨zs,v5,W,l1,l2,rfl⟩;refine ⟨fun σ1 H2=>∃ zs v5,PW K H pl n H2 zs∧(c % 4=0∨c % 4=1→zs.length≤22)∧(c % 4≠0→c % 4≠1→zs=[])∧σ1=[some (.int c),some (.int d),some (.int n),some (.ref pl),some (.int (c / 4 % 9)),v5,none,none],?_,?_⟩
  ·refine ⟨_,rfl,_,_,rfl,rfl,(by show (0:Int) < 4; decide),rfl,_,rfl,Yr (fun c1=>?_) (fun c1=>⟨zs,v5,W,fun h=>l1 (h.elim id fun e=>absurd (decide_eq_true (congrArg V.int e)) c1),fun h _=>l2 h,rfl⟩)⟩;have c1':c % 4=1:=V.int.inj (of_decide_eq_true c1);obtain rfl:zs=[]:=l2 (by omega);refine ⟨_,rfl,_,_,rfl,rfl,1,(n:Int) - 1,rfl,⟨by omega,by omega,by omega,by omega⟩,?_⟩;rw [show ((n:Int) - 1 - 1).toNat=n - 2 by omega];refine Jap (n:=n - 2) (fun i σ H2=>∃ zs v5,PW K H pl n H2 zs∧zs.length=2 * i∧(∀ z∈zs,z.2.1 < 1 + i)∧σ=[some (.int c),some (.int d),some (.int n),some (.ref pl),some (.int (c / 4 % 9)),v5,none,none]) ⟨[],v5,W,rfl,(fun z hz=>nomatch hz),rfl⟩ ?_ ?_
   ·rintro i σ H2 hi ⟨zs,v5,W,hl,hz,rfl⟩;refine ⟨_,rfl,.inl ⟨rfl,_,Jq.of W.at_⟩,_,rfl,_,rfl,_,_,rfl,rfl,by show 2≤sizeLine; omega,fun t1 n1=>⟨pl,_,_,rfl,rfl,(Jg.upd n1) _ _ W.at_,by rw [List.length_map]; omega,?_⟩⟩;have W1:=W.add hpl (Jg.upd n1) (t:=t1) (a:=1 + (i:Int)) (b:=1 + (i:Int) + 1) Jf (fun q=>by
     obtain ⟨z,h1,h2⟩:=List.mem_map.mp q;have:=hz z h1;rw [h2] at this;have:(1:Int) + i < 1 + i:=this;omega) ⟨by omega,by omega⟩
    refine ⟨_,rfl,.inl ⟨rfl,_,Jq.of W1.at_⟩,_,rfl,by show 2≤sizeLine; omega,fun t2 n2=>⟨pl,_,_,rfl,rfl,(Jg.upd n2) _ _ W1.at_,by rw [List.length_map,List.length_append]; show _ + 1 < _; omega,?_⟩⟩;have W2:=W1.add hpl (Jg.upd n2) (t:=t2) (a:=1 + (i:Int)) (b:=0) Jf (fun q=>by
     rw [List.map_append,List.mem_append] at q;rcases q with q | q
     ·obtain ⟨z,h1,h2⟩:=List.mem_map.mp q;have:=hz z h1;rw [h2] at this;have:(1:Int) + i < 1 + i:=this;omega
     ·have e:=congrArg Prod.snd (List.mem_singleton.mp q);have e:(0:Int)=1 + (i:Int) + 1:=e;omega) ⟨by omega,by omega⟩
    exact ⟨_,_,W2,by simp [hl]; omega,fun z hz2=>by
     rcases List.mem_append.mp hz2 with q | q
     ·rcases List.mem_append.mp q with q | q
      ·have:=hz z q; show z.2.1 < 1 + ((i + 1:Nat):Int); omega
      ·rw [List.mem_singleton.mp q]; show (1:Int) + i < 1 + ((i + 1:Nat):Int); omega
     ·rw [List.mem_singleton.mp q]; show (1:Int) + i < 1 + ((i + 1:Nat):Int); omega,rfl⟩
   ·rintro σ H2 ⟨zs,v5,W,hl,hz,rfl⟩;exact ⟨zs,v5,W,fun _=>by omega,fun h h'=>absurd c1' h',rfl⟩
  clear l1 l2 W v5 zs H2;rintro σ1 H2 ⟨zs,v5,W,l1,l2,rfl⟩;have m9:0≤c / 4 % 9∧c / 4 % 9≤8:=by omega
  refine ⟨fun σ1 H3=>∃ m:Int,H3=H2∧0≤m∧zs.length + m≤40∧(c % 4=2→m≤2 * ((n:Int) - 2)∨m=0)∧σ1=[some (.int c),some (.int d),some (.int n),some (.ref pl),some (.int m),v5,none,none],?_,?_⟩
  ·refine ⟨_,rfl,_,_,rfl,rfl,(by show (0:Int) < 4; decide),rfl,_,rfl,Yr (fun c2=>?_) (fun c2=>⟨_,rfl,m9.1,?_,fun h=>absurd (decide_eq_true (congrArg V.int h)) c2,rfl⟩)⟩
   ·have c2':c % 4=2:=V.int.inj (of_decide_eq_true c2);obtain rfl:zs=[]:=l2 (by omega) (by omega);refine ⟨_,rfl,_,_,rfl,rfl,_,_,rfl,_,_,rfl,rfl,.inl ⟨by decide,by decide⟩,_,rfl,?_,?_,fun _=>?_,rfl⟩
    ·split <;> omega
    ·show ((0:Nat):Int) + _≤40;split <;> omega
    ·split <;> omega
   ·by_cases h:c % 4=0∨c % 4=1
    ·have:=l1 h; omega
    ·rw [l2 (fun e=>h (.inl e)) (fun e=>h (.inr e))];show ((0:Nat):Int) + _≤40;omega
  rintro σ1 H3 ⟨m,rfl,hm0,hm1,hm2,rfl⟩;refine ⟨fun σ1 H4=>∃ m:Nat,H4=H3∧zs.length + m≤40∧(c % 4=2→m≤2 * (n - 2))∧σ1=[some (.int c),some (.int d),some (.int n),some (.ref pl),some (.int m),v5,none,none],?_,?_⟩
  ·refine ⟨_,rfl,_,_,rfl,rfl,(by show (0:Int) < 4; decide),rfl,_,rfl,Yr (fun c3=>?_) (fun c3=>⟨m.toNat,rfl,by omega,fun h=>by have:=hm2 h; omega,by rw [Int.toNat_of_nonneg hm0]⟩)⟩;have c3':c % 4=3:=V.int.inj (of_decide_eq_true c3);obtain rfl:zs=[]:=l2 (by omega) (by omega);refine ⟨_,rfl,_,_,rfl,rfl,⟨by decide,by decide⟩,_,_,rfl,rfl,_,_,rfl,rfl,(by show (0:Int) < 41; decide),((c / 4 + 40) % 41).toNat,rfl,?_,fun h=>by omega,?_⟩
   ·show 0 + _≤40;omega
   ·rw [Int.toNat_of_nonneg (by omega)]; rfl
  clear hm2 hm1 hm0 m;rintro σ1 H4 ⟨m,rfl,hm1,hm2,rfl⟩;refine ⟨fun σ1 H5=>∃ (pe:Addr) (es:List Int),PW K H pl n H5 zs∧Jq K H5 pe (es.map V.int)∧pe≠pl∧es.length=2 * m∧(∀ x∈es,0≤x∧x < n)∧σ1=[some (.int c),some (.int d),some (.int n),some (.ref pl),some (.int m),v5,some (.ref pe),none],
   ⟨_,rfl,_,rfl,_,_,rfl,rfl,.inl ⟨by decide,by decide⟩,_,rfl,d,2 * m,n,congrArg (fun z=>[V.int d,V.int z,V.int n]) (by omega:2 * (m:Int)=((2 * m:Nat):Int)),by omega,by omega,by omega,fun pe es H4 h1 e4 h2 h3 h4=>?_⟩,?_⟩
  ·exact ⟨pe,es,⟨W.sm.trans e4,e4 _ _ W.at_,fun z hz=>let ⟨a,g1,g2⟩:=W.ip z hz; ⟨a,g1,e4.tup g2⟩,W.nd,W.rg⟩,Jq.of h2,(fun e=>by rw [e,W.at_] at h1; cases h1),h3,h4,rfl⟩
  rintro σ1 H4 ⟨pe,es,W4,he,hne,hel,her,rfl⟩;refine ⟨_,rfl,(m:Int),rfl,by omega,by omega,?_⟩;refine Jap (n:=m) (fun i σ H5=>∃ zs' v5 v7,PW K H pl n H5 zs'∧Jq K H5 pe (es.map V.int)∧zs'.length≤zs.length + i∧σ=[some (.int c),some (.int d),some (.int n),some (.ref pl),some (.int m),v5,some (.ref pe),v7]) ⟨zs,v5,none,W4,he,by omega,rfl⟩ ?_ ?_
  ·rintro i σ H5 hi ⟨zs',v5,v7,W5,he5,hl5,rfl⟩;obtain ⟨x1,a1,g1⟩:=Jcn (xs:=es) (e:=2 * (0 + (i:Int))) (by omega) (by omega);obtain ⟨x2,a2,g2⟩:=Jcn (xs:=es) (e:=2 * (0 + (i:Int)) + 1) (by omega) (by omega);refine ⟨_,rfl,_,rfl,_,_,rfl,rfl,.inl ⟨by decide,by decide⟩,pe,_,_,.int x1,rfl,rfl,he5,a1,_,rfl,_,rfl,_,_,rfl,rfl,.inl ⟨by decide,by decide⟩,_,_,rfl,rfl,pe,_,_,.int x2,rfl,rfl,he5,a2,by show 2≤sizeLine; omega,fun t n1=>?_⟩;have e6:=Jg.upd (o:=.tup [.int x1,.int x2]) n1;refine ⟨fun σ1 H6=>∃ t a b,Jg H5 H6∧H6 t=some (.tup [.int a,.int b])∧((0≤a∧a < n)∧(0≤b∧b < n))∧σ1=[some (.int c),some (.int d),some (.int n),some (.ref pl),some (.int m),some (.int (0 + (i:Int))),some (.ref pe),some (.ref t)],?_,?_⟩
   ·refine ⟨_,rfl,_,_,rfl,rfl,(by show (0:Int) < 4; decide),rfl,_,rfl,Yr (fun c2=>?_) (fun c2=>⟨t,x1,x2,e6,Jf,⟨her x1 g1,her x2 g2⟩,rfl⟩)⟩;have c2':c % 4=2:=V.int.inj (of_decide_eq_true c2);have hmm:=hm2 c2';obtain ⟨x3,a3,g3⟩:=Jcn (xs:=es) (e:=0 + (i:Int)) (by omega) (by omega);refine ⟨_,rfl,_,_,rfl,rfl,⟨by decide,by decide⟩,_,_,rfl,rfl,_,rfl,_,rfl,pe,_,_,.int x3,rfl,rfl,e6.seq he5,a3,by show 2≤sizeLine; omega,fun t2 n2=>?_⟩;exact ⟨t2,1 + (0 + (i:Int)) / 2,x3,e6.trans (Jg.upd n2),Jf,⟨by omega,her x3 g3⟩,rfl⟩
   rintro σ1 H6 ⟨t,a,b,e6,ht,hab,rfl⟩;refine ⟨fun σ1 H7=>∃ zs' v5 v7,PW K H pl n H7 zs'∧Jq K H7 pe (es.map V.int)∧zs'.length≤zs.length + (i + 1)∧σ1=[some (.int c),some (.int d),some (.int n),some (.ref pl),some (.int m),v5,some (.ref pe),v7],?_,fun σ' H' h=>h⟩;have W6:PW K H pl n H6 zs':=⟨W5.sm.trans e6,e6 _ _ W5.at_,fun z hz=>let ⟨a,g1,g2⟩:=W5.ip z hz; ⟨a,g1,e6.tup g2⟩,W5.nd,W5.rg⟩
   classical
   refine ⟨_,rfl,_,rfl,t,pl,_,Jej (a,b),_,rfl,rfl,J0.of ht,Jq.of W6.at_,JiF W6.ip,_,rfl,?_⟩;have emem:(Jej (a,b)∈(zs'.map (·.2)).map Jej)↔(a,b)∈zs'.map (·.2):=by
    constructor
    ·intro h;obtain ⟨y,h1,h2⟩:=List.mem_map.mp h;rw [← Jl5 h2]; exact h1
    ·exact fun h=>List.mem_map.mpr ⟨_,h,rfl⟩
   by_cases hin:(a,b)∈zs'.map (·.2)
   ·refine Y0 (by rw [if_pos rfl,decide_eq_true (emem.mpr hin)]; rfl) ⟨zs',_,_,W6,e6.seq he5,by omega,rfl⟩
   ·refine Z7 (by rw [if_pos rfl,decide_eq_false (fun h=>hin (emem.mp h))]; rfl) ?_;refine ⟨_,rfl,.inl ⟨rfl,_,Jq.of W6.at_⟩,_,rfl,pl,_,_,rfl,rfl,W6.at_,by rw [List.length_map]; omega,?_⟩;refine ⟨_,_,_,W6.add hpl (Jg.refl _) ht hin hab,?_,by simp; omega,rfl⟩;rcases e6.seq he5 with (h | ⟨o,h⟩) | h
    ·exact .inl (.inl (by rw [Jl hne]; exact h))
    ·exact .inl (.inr ⟨o,by rw [Jl hne]; exact h⟩)
    ·exact .inr h
  ·rintro σ H5 ⟨zs',v5,v7,W5,he5,hl5,rfl⟩;exact ⟨_,rfl,q pl zs' H5 hpl W5 (by omega)⟩
end
def Jlo:Sp:=fun vs H Q _=>∃ (c kd:Int) (n:Nat),vs=[.int c,.int kd,.int n]∧1≤n∧n≤12∧∀ (p:Addr) (gs:List Int) (H':Hp),H p=none→Jg H H'→H' p=some (.lst (gs.map V.int))→gs.Nodup→(∀ g∈gs,0≤g∧g < n)→Q (.ref p) H'
def nm (ps:List Str) (x:Int):Str:=ps.getD x.toNat Str.empty
theorem JfJ {ps:List Str} {x:Int} (h0:0≤x) (h1:x < ps.length):atI (ps.map V.str) x=some (.str (nm ps x)):=by
 obtain ⟨j,rfl⟩:∃ j:Nat,x=(j:Int):=⟨x.toNat,by omega⟩
 have hj:j < ps.length:=by omega
 refine ZU ?_;unfold nm;rw [List.getElem?_map,List.getD_eq_getElem?_getD,Int.toNat_natCast,List.getElem?_eq_getElem hj];rfl
theorem Jea {ps:List Str} {x:Int} (h0:0≤x) (h1:x < ps.length):nm ps x∈ps:=by
 have hj:x.toNat < ps.length:=by omega
 unfold nm;rw [List.getD_eq_getElem?_getD,List.getElem?_eq_getElem hj];exact List.getElem_mem hj
theorem Jic {ps:List Str} (nd:ps.Nodup) {x y:Int} (h0:0≤x) (h1:x < ps.length) (g0:0≤y) (g1:y < ps.length) (e:nm ps x=nm ps y):x=y:=by
 have hx:x.toNat < ps.length:=by omega
 have hy:y.toNat < ps.length:=by omega
 unfold nm at e;rw [List.getD_eq_getElem?_getD,List.getD_eq_getElem?_getD,List.getElem?_eq_getElem hx,List.getElem?_eq_getElem hy] at e;have e:ps[x.toNat]=ps[y.toNat]:=e;have z:x.toNat=y.toNat:=by
  rcases Nat.lt_trichotomy x.toNat y.toNat with h | h | h
  ·exact absurd e (List.pairwise_iff_getElem.mp nd _ _ hx hy h)
  ·exact h
  ·exact absurd e.symm (List.pairwise_iff_getElem.mp nd _ _ hy hx h)
 omega
def nm2 (ps:List Str) (p:Int×Int):Str×Str:=(nm ps p.1,nm ps p.2)
theorem Jg3 {α β:Type} {f:α→β}:∀ {l:List α},l.Nodup→(∀ a∈l,∀ b∈l,f a=f b→a=b)→(l.map f).Nodup:=by
 intro l h hi;rw [List.Nodup,List.pairwise_map];exact List.Pairwise.imp_of_mem (fun ha hb hne e=>hne (hi _ ha _ hb e)) h
structure Ground (K:PySem.W.Frag) (H:Hp) (t:Addr) (ps:List Str) (zs:List (V×(Str×Str))) (gs:List Str):Prop where
 good:Ja1 ps (zs.map (·.2)) gs
 at_:∃ pn pl pg,H t=some (.tup [.ref pn,.ref pl,.ref pg])∧H pn=some (.lst (ps.map V.str))∧H pl=some (.lst (zs.map (·.1)))∧Yd K H zs∧H pg=some (.lst (gs.map V.str))
theorem Ground.same {K:PySem.W.Frag} {H H':Hp} {t:Addr} {ps:List Str} {zs:List (V×(Str×Str))} {gs:List Str} (G:Ground K H t ps zs gs) (e:Jg H H'):Ground K H' t ps zs gs :=
 ⟨G.good,let ⟨pn,pl,pg,h1,h2,h3,h4,h5⟩:=G.at_; ⟨pn,pl,pg,e _ _ h1,e _ _ h2,e _ _ h3,Yh h4 e,e _ _ h5⟩⟩
def Jj4 (K:PySem.W.Frag):Sp:=fun vs H Q _=>∃ (a:Addr) (ns:List Int) (k:Int),vs=[.ref a,.int k]∧Jq K H a (ns.map V.int)∧0≤k∧∀ t ps zs gs H',Jg H H'→Ground K H' t ps zs gs→Q (.ref t) H'
section
variable {P:Program} {w:World} {K:PySem.W.Frag} {mg:Str→Option Value} {base:Heap}
theorem JlW (T:Txt K mg):JM P w K mg base Zk 2 T.JgD T.Jfh ["_law_cell", "_law_kind", "_law_size"] Jlo:=by
 refine T.JgO.F.ok Jcx (fun vs H Q E h=>?_) (fun cdv A outer s H vs Q E hr h=>?_)
 ·obtain ⟨_,_,_,rfl,_⟩:=h;rfl
 ·obtain ⟨c,kd,n,rfl,hn1,hn2,q⟩:=h;have szl:sizeLine=16777216:=sizeLine_eq;refine ⟨_,(@Jd _ _ _ _ _ (@J2 _ _ _ (@Ju _ _ 3 _ _ _ _ Jcx.nd rfl (Or.inr rfl) (@Jp _ _ _ _ _ _ _ _ _ _ _ _ _ _ _ T.JeO (JfF T) (hr.mono (by decide)) JK (@Ja _ _ _ _ _ (@Ji _ _ _ _ _ _ _ _ (@Yq _) (@pv _ 0 _ _ rfl (.inl rfl) rfl rfl) (@Jb _ _ _ _)) (@Ja _ _ _ _ _ (@pv _ 2 _ _ rfl (.inl rfl) rfl rfl) (@Ja _ _ _ _ _ (@Jb _ _ _ _) (@Jc _) rfl) rfl) rfl) rfl (by decide) rfl rfl) rfl (by first | exact .inl rfl | exact .inr rfl | assumption))) (@Jd _ _ _ _ _ (@J2 _ _ _ (@Jjq _ _ _ _ _ _ _ _ _ _ 4 1 ["_law_k", "_law_marks"] [3] _ _ _ _ ["_law_cell", "_law_kind", "_law_size", "_law_marks", "_law_found"] ((Jm JeB).names) (by decide +kernel) Jcx.nd rfl (@Jah _ _ _ _ _ _ rfl T.JaC (@Ja _ _ _ _ _ (@pv _ 2 _ _ rfl (.inl rfl) rfl rfl) (@Jc _) rfl) rfl) (fun _ _ _ _=>(@Y2 _ _ _ _ _ _ _ _ _ 0 (by decide +kernel) rfl rfl)) (fun _ _ _ _=>(@Jgn _ _ _ (@Jr _ _ _ _ _ _ _ _ (@Yi _) (@JG _ _ _ _ _ _ _ (show IxR _ (JhU K) from (@JH _)) (@JT _ _ _ _ _ _ _ _ _ 1 rfl rfl (by decide) (by decide)) (@YB _ _ _ _ _ _ _ _ _ 0 rfl rfl (by decide) (by decide)) (fun _ _=>rfl)) (@Jb _ _ _ _) (JB _)))) (fun _ _ _ _=>(@YB _ _ _ _ _ _ _ _ _ 0 rfl rfl (by decide) (by decide))) rfl rfl rfl rfl rfl (by intro _; rfl))) (@Jd _ _ _ _ _ (@J2 _ _ _ (@JN _ _ _ _ _ _ _ _ (@PW.pt _ _ _ (@JhV _ _ _ _ _ _ _ (@Jr _ _ _ _ _ _ _ _ (@Ja9 _) (@pv _ 1 _ _ rfl (.inl rfl) rfl rfl) (@Jb _ _ _ _) (JB _)) (@Jgl _ _ _ _ (@Jr _ _ _ _ _ _ _ _ (@JoF _) (@Ji _ _ _ _ _ _ _ _ (@JL _) (@pv _ 0 _ _ rfl (.inl rfl) rfl rfl) (@Jb _ _ _ _)) (@Jb _ _ _ _) (JB _))))) (@Jh _ _ _ (@Ju _ _ 4 _ _ _ _ Jcx.nd rfl (Or.inl rfl) (@YC _ _ _ _ (@Ja _ _ _ _ _ (@Ji _ _ _ _ _ _ _ _ (@Y3 _) (@pv _ 2 _ _ rfl (.inl rfl) rfl rfl) (@Jb _ _ _ _)) (@Jc _) rfl)) rfl (.inl rfl))) (@Jw _))) (@Jd _ _ _ _ _ (@J2 _ _ _ (@JN _ _ _ _ _ _ _ _ (@PW.pt _ _ _ (@JhV _ _ _ _ _ _ _ (@Jr _ _ _ _ _ _ _ _ (@Yi _) (@Ji _ _ _ _ _ _ _ _ (@JL _) (@pv _ 0 _ _ rfl (.inl rfl) rfl rfl) (@Jb _ _ _ _)) (@Jb _ _ _ _) (JB _)) (@Jgl _ _ _ _ (@Jr _ _ _ _ _ _ _ _ (@JlQ _ hr.units0) (@pv _ 4 _ _ rfl (.inl rfl) rfl rfl) (@YC _ _ _ _ (@Jc _)) (JB _))))) (@Jh _ _ _ (@Ju _ _ 4 _ _ _ _ Jcx.nd rfl (Or.inl rfl) (@YC _ _ _ _ (@Ja _ _ _ _ _ (@Ji _ _ _ _ _ _ _ _ (@Y3 _) (@pv _ 2 _ _ rfl (.inl rfl) rfl rfl) (@Jb _ _ _ _)) (@Jc _) rfl)) rfl (.inl rfl))) (@Jw _))) (@Jh _ _ _ (@JA _ _ _ _ (@pv _ 4 _ _ rfl (.inl rfl) rfl rfl))))))),?_⟩;refine ⟨fun σ1 H1=>∃ (pm:Addr) (ms:List Int),Jg H H1∧Jq K H1 pm (ms.map V.int)∧ms.length=n∧σ1=[some (.int c),some (.int kd),some (.int n),some (.ref pm),none],
   ⟨_,rfl,_,_,rfl,rfl,⟨by decide,by decide⟩,_,rfl,_,n,_,rfl,by omega,by decide,by decide,fun pm ms H1 h1 e1 h2 h3 h4=>⟨pm,ms,e1,Jq.of h2,h3,rfl⟩⟩,?_⟩
  rintro σ1 H1 ⟨pm,ms,e1,hm,hml,rfl⟩;have fresh:∀ {p:Addr} {H':Hp},Jg H H'→H' p=none→H p=none:=fun {p H'} e h=>by
   cases hd:H p with
   | none=>rfl
   | some u=>rw [e _ _ hd] at h; cases h
  let R:St→Hp→Prop:=fun σ1 H2=>∃ (p:Addr) (gs:List Int),H p=none∧Jg H H2∧H2 p=some (.lst (gs.map V.int))∧gs.Nodup∧(∀ g∈gs,0≤g∧g < n)∧σ1=[some (.int c),some (.int kd),some (.int n),some (.ref pm),some (.ref p)]
  have one:∀ {p:Addr} {H2:Hp},Jg H H2→H2 p=none→R [some (.int c),some (.int kd),some (.int n),some (.ref pm),some (.ref p)] (upd H2 p (.lst [.int ((n:Int) - 1)])):=fun {p H2} e2 np =>
   ⟨p,[(n:Int) - 1],fresh e2 np,e2.trans (Jg.upd np),Jf,by simp,fun g hg=>by rw [List.mem_singleton.mp hg]; omega,rfl⟩
  refine ⟨R,?_,?_⟩
  ·refine ⟨_,rfl,(n:Int),rfl,by omega,by omega,fun D hD=>?_⟩;rw [show ((n:Int)).toNat=n from Int.toNat_natCast n];refine JjN (n:=n) (fun i ys H2=>Jg H1 H2∧H2 D=some (.lst ys)∧∃ gs:List Int,ys=gs.map V.int∧gs.length≤i∧gs.Nodup∧∀ g∈gs,0≤g∧g < i) rfl ⟨Jg.upd hD,Jf,[],rfl,Nat.le_refl _,List.nodup_nil,fun g hg=>nomatch hg⟩ (fun i ys H2 p=>p.2.1) ?_ ?_
   ·rintro i ys H2 hi ⟨e2,hy,gs,rfl,hgl,hgn,hgr⟩;obtain ⟨x,a1,_⟩:=Jcn (xs:=ms) (e:=0 + (i:Int)) (by omega) (by omega);refine ⟨_,rfl,_,rfl,pm,_,_,.int x,rfl,rfl,e2.seq hm,a1,rfl,_,rfl,Yr (fun _=>?_) (fun _=>?_)⟩
    ·refine ⟨_,rfl,hy,by rw [List.length_map]; omega,fun b u e=>?_,Jf,gs ++ [0 + (i:Int)],by rw [List.map_append]; rfl,by simp; omega,?_,fun g hg=>?_⟩
     ·rw [Jl (Jn e hD)]; exact e2 b u e
     ·rw [List.nodup_append];refine ⟨hgn,by simp,fun x hx y hy e=>?_⟩;rw [List.mem_singleton] at hy;have:=hgr x hx;omega
     ·rcases List.mem_append.mp hg with w | w
      ·have:=hgr g w; omega
      ·rw [List.mem_singleton.mp w]; omega
    ·exact ⟨e2,hy,gs,rfl,by omega,hgn,fun g hg=>by have:=hgr g hg; omega⟩
   ·rintro ys H2 ⟨e2,hy,gs,rfl,_,hgn,hgr⟩;exact ⟨D,gs,fresh e1 hD,e1.trans e2,hy,hgn,hgr,rfl⟩
  rintro σ1 H2 ⟨p2,gs2,np2,e2,hp2,nd2,rg2,rfl⟩;refine ⟨R,?_,?_⟩
  ·refine ⟨_,rfl,_,_,rfl,rfl,_,rfl,Yr (fun _=>?_) (fun _=>ZG ⟨p2,gs2,np2,e2,hp2,nd2,rg2,rfl⟩)⟩;refine ⟨_,rfl,_,_,rfl,rfl,(by show (0:Int) < 3; decide),rfl,_,rfl,Yr (fun _=>?_) (fun _=>⟨p2,gs2,np2,e2,hp2,nd2,rg2,rfl⟩)⟩;exact ⟨_,rfl,_,_,rfl,rfl,by show 1≤sizeLine; omega,fun p np=>one e2 np⟩
  clear rg2 nd2 hp2 e2 np2 gs2 p2 H2;rintro σ1 H2 ⟨p2,gs2,np2,e2,hp2,nd2,rg2,rfl⟩;refine ⟨R,?_,?_⟩
  ·refine ⟨_,rfl,_,_,rfl,rfl,(by show (0:Int) < 3; decide),rfl,_,rfl,Yr (fun _=>?_) (fun _=>ZG ⟨p2,gs2,np2,e2,hp2,nd2,rg2,rfl⟩)⟩;refine ⟨_,rfl,by show 0≤sizeLine; omega,fun l nl=>⟨p2,l,_,rfl,rfl,(Jg.upd nl).seq (Jq.of hp2),Jq.of Jf,_,rfl,Yr (fun _=>?_) (fun _=>?_)⟩⟩
   ·exact ⟨_,rfl,_,_,rfl,rfl,by show 1≤sizeLine; omega,fun p np=>one (e2.trans (Jg.upd nl)) np⟩
   ·exact ⟨p2,gs2,np2,e2.trans (Jg.upd nl),(Jg.upd nl) _ _ hp2,nd2,rg2,rfl⟩
  clear rg2 nd2 hp2 e2 np2 gs2 p2 H2;rintro σ1 H2 ⟨p2,gs2,np2,e2,hp2,nd2,rg2,rfl⟩;exact ⟨_,rfl,q p2 gs2 H2 np2 e2 hp2 nd2 rg2⟩
theorem Jd4 {K:PySem.W.Frag} {H:Hp} {D:Addr} {ys ys':List V} {zs:List (V×(Str×Str))} (h:Yd K H zs) (hD:H D=some (.lst ys)):Yd K (upd H D (.lst ys')) zs:=fun z hz=>by
 obtain ⟨a,h1,h2⟩:=h z hz;refine ⟨a,h1,?_⟩;rcases h2 with (q | ⟨o,q⟩) | q
 ·exact .inl (.inl (by rw [Jl (ZC q hD (fun z=>nomatch z))]; exact q))
 ·exact .inl (.inr ⟨o,by rw [Jl (ZC q hD (fun z=>nomatch z))]; exact q⟩)
 ·exact .inr q
theorem Jkm (T:Txt K mg):JM P w K mg base Zk 3 T.Jfl T.Jem ["_law_script", "_law_at_here"] (Jj4 K):=by
 refine T.Jfs.F.ok Zs (fun vs H Q E h=>?_) (fun cdv A outer s H vs Q E hr h=>?_)
 ·obtain ⟨_,_,_,rfl,_⟩:=h;rfl
 ·obtain ⟨a,ns,k,rfl,hS,h0,q⟩:=h;have szl:sizeLine=16777216:=sizeLine_eq;refine ⟨_,(@Jd _ _ _ _ _ (@J2 _ _ _ (@Ju _ _ 2 _ _ _ _ Zs.nd rfl (Or.inl rfl) (@Jp _ _ _ _ _ _ _ _ _ _ _ _ _ _ _ T.JaP (Z4 T) (hr.mono (by decide)) JK (@Ja _ _ _ _ _ (@pv _ 0 _ _ rfl (.inl rfl) rfl rfl) (@Ja _ _ _ _ _ (@Ji _ _ _ _ _ _ _ _ (@JQ _) (@pv _ 1 _ _ rfl (.inl rfl) rfl rfl) (@Jb _ _ _ _)) (@Jc _) rfl) rfl) rfl (by decide) rfl rfl) rfl (.inl rfl))) (@Jd _ _ _ _ _ (@J2 _ _ _ (@Ju _ _ 3 _ _ _ _ Zs.nd rfl (Or.inl rfl) (@JG _ _ _ _ _ _ _ (@JH _) (@YC _ _ _ _ (@Ja _ _ _ _ _ (@Jb _ _ _ _) (@Ja _ _ _ _ _ (@Jb _ _ _ _) (@Ja _ _ _ _ _ (@Jb _ _ _ _) (@Ja _ _ _ _ _ (@Jb _ _ _ _) (@Ja _ _ _ _ _ (@Jb _ _ _ _) (@Ja _ _ _ _ _ (@Jb _ _ _ _) (@Ja _ _ _ _ _ (@Jb _ _ _ _) (@Jc _) rfl) rfl) rfl) rfl) rfl) rfl) rfl)) (@Ji _ _ _ _ _ _ _ _ (@JL _) (@pv _ 2 _ _ rfl (.inl rfl) rfl rfl) (@Jb _ _ _ _)) (fun _ _=>rfl)) rfl (.inl rfl))) (@Jd _ _ _ _ _ (@J2 _ _ _ (@JN _ _ _ _ _ _ _ _ (@Jr _ _ _ _ _ _ _ _ (@Yi _) (@Ji _ _ _ _ _ _ _ _ (@JL _) (@Ji _ _ _ _ _ _ _ _ (@Yq _) (@pv _ 2 _ _ rfl (.inl rfl) rfl rfl) (@Jb _ _ _ _)) (@Jb _ _ _ _)) (@Jb _ _ _ _) (JB _)) (@Jh _ _ _ (@Ju _ _ 3 _ _ _ _ Zs.nd rfl (Or.inl rfl) (@Ji _ _ _ _ _ _ _ _ (@JQ _) (@Jb _ _ _ _) (@Ji _ _ _ _ _ _ _ _ (@JL _) (@Ji _ _ _ _ _ _ _ _ (@Yq _) (@pv _ 2 _ _ rfl (.inl rfl) rfl rfl) (@Jb _ _ _ _)) (@Jb _ _ _ _))) rfl (.inl rfl))) (@Jw _))) (@Jd _ _ _ _ _ (@J2 _ _ _ (@Ju _ _ 4 _ _ _ _ Zs.nd rfl (Or.inr rfl) (@Jp _ _ _ _ _ _ _ _ _ _ _ _ _ _ _ T.JgN (JlV T) (hr.mono (by decide)) JK (@Ja _ _ _ _ _ (@Jp _ _ _ _ _ _ _ _ _ _ _ _ _ _ _ T.JaP (Z4 T) (hr.mono (by decide)) JK (@Ja _ _ _ _ _ (@pv _ 0 _ _ rfl (.inl rfl) rfl rfl) (@Ja _ _ _ _ _ (@Ji _ _ _ _ _ _ _ _ (@JQ _) (@pv _ 1 _ _ rfl (.inl rfl) rfl rfl) (@Jb _ _ _ _)) (@Jc _) rfl) rfl) rfl (by decide) rfl rfl) (@Ja _ _ _ _ _ (@pv _ 3 _ _ rfl (.inl rfl) rfl rfl) (@Jc _) rfl) rfl) rfl (by decide) rfl rfl) rfl (by first | exact .inl rfl | exact .inr rfl | assumption))) (@Jd _ _ _ _ _ (@J2 _ _ _ (@Ju _ _ 5 _ _ _ _ Zs.nd rfl (Or.inl rfl) (@Jp _ _ _ _ _ _ _ _ _ _ _ _ _ _ _ T.JaP (Z4 T) (hr.mono (by decide)) JK (@Ja _ _ _ _ _ (@pv _ 0 _ _ rfl (.inl rfl) rfl rfl) (@Ja _ _ _ _ _ (@pv _ 1 _ _ rfl (.inl rfl) rfl rfl) (@Jc _) rfl) rfl) rfl (by decide) rfl rfl) rfl (.inl rfl))) (@Jd _ _ _ _ _ (@J2 _ _ _ (@Ju _ _ 6 _ _ _ _ Zs.nd rfl (Or.inl rfl) (@Jp _ _ _ _ _ _ _ _ _ _ _ _ _ _ _ T.JgM (JlU T) (hr.mono (by decide)) JK (@Ja _ _ _ _ _ (@pv _ 5 _ _ rfl (.inl rfl) rfl rfl) (@Ja _ _ _ _ _ (@Jp _ _ _ _ _ _ _ _ _ _ _ _ _ _ _ T.JaP (Z4 T) (hr.mono (by decide)) JK (@Ja _ _ _ _ _ (@pv _ 0 _ _ rfl (.inl rfl) rfl rfl) (@Ja _ _ _ _ _ (@Ji _ _ _ _ _ _ _ _ (@JQ _) (@pv _ 1 _ _ rfl (.inl rfl) rfl rfl) (@Jb _ _ _ _)) (@Jc _) rfl) rfl) rfl (by decide) rfl rfl) (@Ja _ _ _ _ _ (@pv _ 3 _ _ rfl (.inl rfl) rfl rfl) (@Jc _) rfl) rfl) rfl) rfl (by decide) rfl rfl) rfl (.inl rfl))) (@Jd _ _ _ _ _ (@J2 _ _ _ (@Ju _ _ 7 _ _ _ _ Zs.nd rfl (Or.inl rfl) (@Jp _ _ _ _ _ _ _ _ _ _ _ _ _ _ _ T.JgO (JlW T) (hr.mono (by decide)) JK (@Ja _ _ _ _ _ (@Jp _ _ _ _ _ _ _ _ _ _ _ _ _ _ _ T.JaP (Z4 T) (hr.mono (by decide)) JK (@Ja _ _ _ _ _ (@pv _ 0 _ _ rfl (.inl rfl) rfl rfl) (@Ja _ _ _ _ _ (@Ji _ _ _ _ _ _ _ _ (@JQ _) (@pv _ 1 _ _ rfl (.inl rfl) rfl rfl) (@Jb _ _ _ _)) (@Jc _) rfl) rfl) rfl (by decide) rfl rfl) (@Ja _ _ _ _ _ (@Ji _ _ _ _ _ _ _ _ (@JL _) (@pv _ 5 _ _ rfl (.inl rfl) rfl rfl) (@Jb _ _ _ _)) (@Ja _ _ _ _ _ (@pv _ 3 _ _ rfl (.inl rfl) rfl rfl) (@Jc _) rfl) rfl) rfl) rfl (by decide) rfl rfl) rfl (.inl rfl))) (@Jd _ _ _ _ _ (@J2 _ _ _ (@Jjq _ _ _ _ _ _ _ _ _ _ 8 2 ["_law_a", "_law_b", "_law_names_here"] [4] _ _ _ _ ["_law_script", "_law_at_here", "_law_cell", "_law_size", "_law_names_here", "_law_kind", "_law_pairs_here", "_law_goals_here", "_law_lanes"] ((Jm Jcy).names) (by decide +kernel) Zs.nd rfl (@Yv _ _ _ _ (@pv _ 6 _ _ rfl (.inl rfl) rfl rfl)) (fun _ _ _ _=>(show PG _ _ (Jl9 K 2 _) from JnP rfl (@JhX _ _ _ _ _ (@Y2 _ _ _ _ _ _ _ _ _ 0 (by decide +kernel) rfl rfl) (@JhX _ _ _ _ _ (@Y2 _ _ _ _ _ _ _ _ _ 1 (by decide +kernel) rfl rfl) (@Jm1 _) rfl) rfl))) (fun _ _ _ _=>(@Zd _)) (fun _ _ _ _=>(@YI _ _ _ _ _ (@Ja _ _ _ _ _ (@JG _ _ _ _ _ _ _ (show IxR _ (JhU K) from (@JH _)) (@JT _ _ _ _ _ _ _ _ _ 2 rfl rfl (by decide) (by decide)) (@YB _ _ _ _ _ _ _ _ _ 0 rfl rfl (by decide) (by decide)) (fun _ _=>rfl)) (@Ja _ _ _ _ _ (@JG _ _ _ _ _ _ _ (show IxR _ (JhU K) from (@JH _)) (@JT _ _ _ _ _ _ _ _ _ 2 rfl rfl (by decide) (by decide)) (@YB _ _ _ _ _ _ _ _ _ 1 rfl rfl (by decide) (by decide)) (fun _ _=>rfl)) (@Jc _) rfl) rfl))) rfl rfl rfl rfl rfl (by intro _; rfl))) (@Jh _ _ _ (@JA _ _ _ _ (@YI _ _ _ _ _ (@Ja _ _ _ _ _ (@pv _ 4 _ _ rfl (.inr (.inl rfl)) rfl rfl) (@Ja _ _ _ _ _ (@pv _ 8 _ _ rfl (.inl rfl) rfl rfl) (@Ja _ _ _ _ _ (@Jaz _ _ _ _ _ _ _ 1 ["_law_k", "_law_names_here"] [4] _ _ _ _ ["_law_script", "_law_at_here", "_law_cell", "_law_size", "_law_names_here", "_law_kind", "_law_pairs_here", "_law_goals_here", "_law_lanes"] ((Jm Jcy).names) (by decide +kernel) (@Yv _ _ _ _ (@pv _ 7 _ _ rfl (.inl rfl) rfl rfl)) (fun _ _ _ _=>(@Y2 _ _ _ _ _ _ _ _ _ 0 (by decide +kernel) rfl rfl)) (fun _ _ _ _=>(@Zd _)) (fun _ _ _ _=>(@JG _ _ _ _ _ _ _ (show IxR _ (JhU K) from (@JH _)) (@JT _ _ _ _ _ _ _ _ _ 1 rfl rfl (by decide) (by decide)) (@YB _ _ _ _ _ _ _ _ _ 0 rfl rfl (by decide) (by decide)) (fun _ _=>rfl))) rfl rfl rfl (by intro _; rfl)) (@Jc _) rfl) rfl) rfl)))))))))))),?_⟩
  try dsimp only [cxK,Jeo]
  refine ⟨fun σ1 H1=>∃ c:Int,H1=H∧σ1=[some (.ref a),some (.int k),some (.int c),none,none,none,none,none,none],
   ⟨_,rfl,_,rfl,_,_,rfl,rfl,a,ns,_,rfl,hS,by omega,_,rfl,rfl⟩,?_⟩
  rintro σ1 H1 ⟨c,rfl,rfl⟩;refine ⟨fun σ1 H2=>∃ n:Nat,Jg H1 H2∧1≤n∧n≤12∧σ1=[some (.ref a),some (.int k),some (.int c),some (.int n),none,none,none,none,none],?_,?_⟩
  ·refine ⟨by show 7≤sizeLine; omega,fun l nl=>?_⟩;obtain ⟨n,hn,h1,h2⟩:∃ n:Nat,atI [V.int 4,V.int 3,V.int 5,V.int 6,V.int 2,V.int 5,V.int 1] (c % 7)=some (.int n)∧1≤n∧n≤12:=by
    have h:c % 7=0∨c % 7=1∨c % 7=2∨c % 7=3∨c % 7=4∨c % 7=5∨c % 7=6:=by omega
    rcases h with h | h | h | h | h | h | h <;> rw [h]
    ·exact ⟨4,rfl,by decide,by decide⟩
    ·exact ⟨3,rfl,by decide,by decide⟩
    ·exact ⟨5,rfl,by decide,by decide⟩
    ·exact ⟨6,rfl,by decide,by decide⟩
    ·exact ⟨2,rfl,by decide,by decide⟩
    ·exact ⟨5,rfl,by decide,by decide⟩
    ·exact ⟨1,rfl,by decide,by decide⟩
   exact ⟨_,rfl,_,_,rfl,rfl,(by show (0:Int) < 7; decide),l,_,_,.int n,rfl,rfl,Jq.of Jf,hn,n,Jg.upd nl,h1,h2,rfl⟩
  rintro σ1 H2 ⟨n,e2,hn1,hn2,rfl⟩;refine ⟨fun σ1 H3=>∃ n:Nat,H3=H2∧1≤n∧n≤12∧σ1=[some (.ref a),some (.int k),some (.int c),some (.int n),none,none,none,none,none],?_,?_⟩
  ·refine ⟨_,rfl,_,_,rfl,rfl,⟨by decide,by decide⟩,_,_,rfl,rfl,(by show (0:Int) < 6; decide),rfl,_,rfl,Yr (fun _=>?_) (fun _=>⟨n,rfl,hn1,hn2,rfl⟩)⟩;refine ⟨_,rfl,_,_,rfl,rfl,⟨by decide,by decide⟩,_,_,rfl,rfl,(by show (0:Int) < 12; decide),_,_,rfl,rfl,(1 + c / 42 % 12).toNat,rfl,by omega,by omega,?_⟩;rw [Int.toNat_of_nonneg (by omega)]; rfl
  clear hn1 hn2 n;rintro σ1 H3 ⟨n,rfl,hn1,hn2,rfl⟩;refine ⟨fun σ1 H4=>∃ (pn:Addr) (ps:List Str),Jg H1 H4∧H4 pn=some (.lst (ps.map V.str))∧ps.length=n∧(∀ s∈ps,YV s=true)∧ps.Nodup∧σ1=[some (.ref a),some (.int k),some (.int c),some (.int n),some (.ref pn),none,none,none,none],
   ⟨_,rfl,_,rfl,_,_,rfl,rfl,a,ns,_,rfl,e2.seq hS,by omega,_,rfl,_,n,rfl,hn1,hn2,fun pn ps H4 h1 e4 h2 h3 h4 h5=>⟨pn,ps,e2.trans e4,h2,h3,h4,h5,rfl⟩⟩,?_⟩
  rintro σ1 H4 ⟨pn,ps,e4,hpn,hpl,hpg,hpd,rfl⟩;refine ⟨fun σ1 H5=>∃ kd:Int,H5=H4∧σ1=[some (.ref a),some (.int k),some (.int c),some (.int n),some (.ref pn),some (.int kd),none,none,none],
   ⟨_,rfl,_,rfl,a,ns,_,rfl,e4.seq hS,h0,_,rfl,rfl⟩,?_⟩
  rintro σ1 H5 ⟨kd,rfl,rfl⟩;refine ⟨fun σ1 H6=>∃ (pp:Addr) (zs:List (V×(Int×Int))),PW K H5 pp n H6 zs∧zs.length≤40∧σ1=[some (.ref a),some (.int k),some (.int c),some (.int n),some (.ref pn),some (.int kd),some (.ref pp),none,none],
   ⟨_,rfl,_,rfl,_,rfl,_,_,rfl,rfl,a,ns,_,rfl,e4.seq hS,by omega,_,rfl,kd,_,n,rfl,hn1,hn2,fun pp zs H6 h1 W hl=>⟨pp,zs,W,hl,rfl⟩⟩,?_⟩
  rintro σ1 H6 ⟨pp,zs,W,hzl,rfl⟩;have e6:=e4.trans W.sm;refine ⟨fun σ1 H7=>∃ (pg:Addr) (gs:List Int),Jg H6 H7∧H7 pg=some (.lst (gs.map V.int))∧gs.Nodup∧(∀ g∈gs,0≤g∧g < n)∧σ1=[some (.ref a),some (.int k),some (.int c),some (.int n),some (.ref pn),some (.int kd),some (.ref pp),some (.ref pg),none],
   ⟨_,rfl,_,rfl,_,_,rfl,rfl,a,ns,_,rfl,e6.seq hS,by omega,_,rfl,_,_,rfl,rfl,(by show (0:Int) < 4; decide),_,rfl,_,_,n,rfl,hn1,hn2,fun pg gs H7 h1 e7 h2 h3 h4=>⟨pg,gs,e7,h2,h3,h4,rfl⟩⟩,?_⟩
  rintro σ1 H7 ⟨pg,gs,e7,hpgs,hgd,hgr,rfl⟩;have e17:=e6.trans e7;have hpn7:=e7 _ _ (W.sm _ _ hpn);have hpp7:=e7 _ _ W.at_;refine ⟨fun σ1 H8=>∃ (pl:Addr) (ls:List (V×(Str×Str))),Jg H7 H8∧H8 pl=some (.lst (ls.map (·.1)))∧Yd K H8 ls∧ls.map (·.2)=(zs.map (·.2)).map (nm2 ps)∧σ1=[some (.ref a),some (.int k),some (.int c),some (.int n),some (.ref pn),some (.int kd),some (.ref pp),some (.ref pg),some (.ref pl)],?_,?_⟩
  ·refine ⟨_,rfl,pp,rfl,⟨_,Jq.of hpp7⟩,fun D hD=>?_⟩;refine JjO (xs:=zs.map (·.1)) (fun i ys H8=>Jg H7 H8∧H8 D=some (.lst ys)∧∃ ls:List (V×(Str×Str)),ys=ls.map (·.1)∧Yd K H8 ls∧ls.map (·.2)=((zs.take i).map (·.2)).map (nm2 ps)) rfl rfl (fun i ys H8 p=>Jq.of (p.1 _ _ hpp7)) ⟨Jg.upd hD,Jf,[],rfl,(fun z hz=>nomatch hz),rfl⟩ (fun i ys H8 p=>p.2.1) ?_ ?_
   ·rintro i x ys H8 hx ⟨e8,hy,ls,rfl,hP,hls⟩;rw [List.getElem?_map] at hx;obtain ⟨z,hz,rfl⟩:=Option.map_eq_some_iff.mp hx;obtain ⟨b,eb,hb⟩:=W.ip z (List.mem_of_getElem? hz);obtain ⟨r1,r2⟩:=W.rg z (List.mem_of_getElem? hz);refine ⟨b,.int z.2.1,.int z.2.2,eb,(e7.trans e8).tup hb,?_⟩;simp only [Jct,if_true];have hll:ls.length≤40:=by
     have z:=congrArg List.length hls;rw [List.length_map,List.length_map,List.length_map,List.length_take] at z;omega
    refine ⟨_,rfl,_,rfl,pn,_,_,_,rfl,rfl,Jq.of (e8 _ _ hpn7),JfJ r1.1 (by omega),_,rfl,_,rfl,pn,_,_,_,rfl,rfl,Jq.of (e8 _ _ hpn7),JfJ r2.1 (by omega),by show 2≤sizeLine; omega,fun t nt=>?_⟩;have e9:=Jg.upd (o:=.tup [.str (nm ps z.2.1),.str (nm ps z.2.2)]) nt;refine ⟨e9 _ _ hy,by rw [List.length_map]; omega,fun b u e=>?_,Jf,ls ++ [(.ref t,nm2 ps z.2)],by rw [List.map_append]; rfl,fun z' hz'=>?_,?_⟩
    ·rw [Jl (Jn e hD)]; exact e9 _ _ (e8 b u e)
    ·rcases List.mem_append.mp hz' with q | q
     ·exact Jd4 (Yh hP e9) (e9 _ _ hy) z' q
     ·rw [List.mem_singleton.mp q];exact Jd4 (zs:=[(.ref t,nm2 ps z.2)]) (fun z' hz'=>by rw [List.mem_singleton.mp hz']; exact ⟨t,rfl,J0.of Jf⟩) (e9 _ _ hy) _ (List.mem_singleton.mpr rfl)
    ·rw [List.map_append,hls,List.take_succ,hz,List.map_append,List.map_append]; rfl
   ·rintro ys H8 ⟨e8,hy,ls,rfl,hP,hls⟩;rw [List.length_map,List.take_length] at hls;exact ⟨D,ls,e8,hy,hP,hls,rfl⟩
  rintro σ1 H8 ⟨pl,ls,e8,hll,hP,hls,rfl⟩;refine ⟨_,rfl,_,rfl,_,rfl,pg,rfl,⟨_,Jq.of (e8 _ _ hpgs)⟩,fun D hD=>?_⟩;refine Jhe (xs:=gs.map V.int) (fun i v=>∃ g,gs[i]?=some g∧v=.str (nm ps g)) rfl (Jq.of (e8 _ _ hpgs)) hD ?_ (fun i x H9 hx e9 Q' hQ=>?_) (fun ys H9 e9 hy hyl hF=>?_)
  ·rw [List.length_map];have:gs.length≤n:=by
    have z:=Jd9 (r:=(List.range n).map fun (i:Nat)=>(i:Int)) hgd fun x hx=>by
     have:=hgr x hx;exact List.mem_map.mpr ⟨x.toNat,List.mem_range.mpr (by omega),by omega⟩
    simpa using z
   omega
  ·rw [List.getElem?_map] at hx;obtain ⟨g,hg,rfl⟩:=Option.map_eq_some_iff.mp hx;have:=hgr g (List.mem_of_getElem? hg);exact ⟨_,rfl,_,rfl,pn,_,_,_,rfl,rfl,Jq.of (e9 _ _ (e8 _ _ hpn7)),JfJ this.1 (by omega),hQ _ ⟨g,hg,rfl⟩⟩
  ·have eys:ys=(gs.map (nm ps)).map V.str:=by
    apply List.ext_getElem?;intro i;by_cases hi:i < ys.length
    ·obtain ⟨g,h1,h2⟩:=hF i _ (List.getElem?_eq_getElem hi);rw [List.getElem?_eq_getElem hi,h2,List.getElem?_map,List.getElem?_map,h1];rfl
    ·rw [List.getElem?_eq_none (by omega),List.getElem?_eq_none];rw [List.length_map] at hyl;rw [List.length_map,List.length_map];omega
   subst eys;refine ⟨by show 3≤sizeLine; omega,fun t nt=>q t ps ls (gs.map (nm ps)) _ ((e17.trans e8).trans (e9.trans (Jg.upd nt))) ⟨⟨by omega,by omega,hpg,hpd,?_,?_,?_,?_,?_⟩,pn,pl,D,Jf,?_,?_,?_,?_⟩⟩
   ·rw [hls,List.length_map,List.length_map]; exact hzl
   ·intro z hz;rw [hls] at hz;obtain ⟨y,hy1,rfl⟩:=List.mem_map.mp hz;obtain ⟨z',hz',rfl⟩:=List.mem_map.mp hy1;obtain ⟨r1,r2⟩:=W.rg z' hz';exact ⟨Jea r1.1 (by omega),Jea r2.1 (by omega)⟩
   ·rw [hls];refine Jg3 W.nd fun x hx y hy e=>?_
    obtain ⟨z',hz',rfl⟩:=List.mem_map.mp hx;obtain ⟨z2,hz2,rfl⟩:=List.mem_map.mp hy;obtain ⟨r1,r2⟩:=W.rg z' hz';obtain ⟨r3,r4⟩:=W.rg z2 hz2;have e1:=congrArg Prod.fst e;have e2:=congrArg Prod.snd e;exact Prod.ext (Jic hpd r1.1 (by omega) r3.1 (by omega) e1) (Jic hpd r2.1 (by omega) r4.1 (by omega) e2)
   ·intro g hg;obtain ⟨x,hx,rfl⟩:=List.mem_map.mp hg;have:=hgr x hx;exact Jea this.1 (by omega)
   ·refine Jg3 hgd fun x hx y hy e=>?_
    have h1:=hgr x hx;have h2:=hgr y hy;exact Jic hpd h1.1 (by omega) h2.1 (by omega) e
   ·exact (e9.trans (Jg.upd nt)) _ _ (e8 _ _ hpn7)
   ·exact (e9.trans (Jg.upd nt)) _ _ hll
   ·exact Yh hP (e9.trans (Jg.upd nt))
   ·exact (Jg.upd nt) _ _ hy
end
def Z0 (z:Str) (n:Int) (zs:List (Str×Str)) (gs:List Str):V:=if z∈gs then .str "north" else if n=0∨Js zs z=[] then .str "south" else .non
def JmP (k:Addr):Sp:=fun vs H Q E=>∃ n m:Int,vs=[.int n,.int m]∧(0≤m∧m≤30)∧(0≤n∧n≤m→Q .non H)∧(¬ (0≤n∧n≤m)→E (.ref k) none H)
def Jlp (K:PySem.W.Frag) (C k1 k2:Addr):Sp:=fun vs H Q E=>∃ (b:Addr) (z:Str) (n:Int) (ps:List Str) (zs:List (V×(Str×Str))) (gs:List Str),vs=[.ref b,.str z,.int n]∧YS z∧zs.length≤40∧JaG K C H b ps zs gs ∧
 (z∉ps→E (.ref k1) none H)∧(z∈ps→¬ (0≤n∧n≤30)→E (.ref k2) none H)∧(z∈ps→0≤n∧n≤30→∀ H',Jg H H'→Q (Z0 z n (zs.map (·.2)) gs) H')
def Jh5 (n s:Int) (r:Bool) (b a:Int):List V :=
 if b > a then (if r then [.str (hs false),.int (n + b),.int (s - b),.str (hs true)] else [.str (hs true),.int (n - b),.int (s + b),.str (hs false)])
 else if a > b then (if r then [.str (hs true),.int (n - a),.int (s + a),.str (hs true)] else [.str (hs false),.int (n + a),.int (s - a),.str (hs false)])
 else (if r then [.str (hs true),.int (n - a),.int (s + a),.str (hs false)] else [.str (hs false),.int (n + a),.int (s - a),.str (hs true)])
def JiA:Sp:=fun vs H Q _=>∃ (b:Bool) (n s:Int),vs=[.str (hs b),.int n,.int s]∧Q (.int (if b then n else s)) H
def Jh4 (b:Bool) (c n s:Int) (r:Bool):List V:=if b then [.str (hs b),.int (n - c),.int (s + c),.str (hs r)] else [.str (hs b),.int (n + c),.int (s - c),.str (hs r)]
def Jny:Sp:=fun vs H Q _=>∃ (b:Bool) (c n s:Int) (r:Bool),vs=[.str (hs b),.int c,.int n,.int s,.str (hs r)]∧∀ p H',Jg H H'→H' p=some (.tup (Jh4 b c n s r))→Q (.ref p) H'
theorem Je6 (n s:Int) (r:Bool) (b a:Int):Jh5 n s r b a=if b > a then Jh4 (!r) b n s r else if a > b then Jh4 r a n s r else Jh4 r a n s (!r):=by
 unfold Jh5 Jh4;cases r <;> rfl
def JaD (n s:Int):Prop:=0≤n∧0≤s∧n + s≤20
instance (n s:Int):Decidable (JaD n s):=by unfold JaD; exact inferInstance
def Jes (n s:Int) (r:Bool) (b a:Int):Prop:=(0≤b∧b≤(if r then s else n))∧(0≤a∧a≤(if r then n else s))
instance (n s:Int) (r:Bool) (b a:Int):Decidable (Jes n s r b a):=by unfold Jes; exact inferInstance
def Jhq (k:Addr):Sp:=fun vs H Q E=>∃ z:Str,vs=[.str z]∧YS z∧(ZT z=true→Q .non H)∧(ZT z=false→E (.ref k) none H)
def Jlj (k:Addr):Sp:=fun vs H Q E=>∃ z:Str,vs=[.str z]∧YS z∧(∀ b,z=hs b→Q (.str (hs (!b))) H)∧(ZT z=false→E (.ref k) none H)
def Jf7 (k:Addr):Sp:=fun vs H Q E=>∃ n s:Int,vs=[.int n,.int s]∧(JaD n s→Q .non H)∧(¬ JaD n s→E (.ref k) none H)
def JhH (k:Addr):Sp:=fun vs H Q E=>∃ n s:Int,vs=[.int n,.int s]∧(0≤n∧n≤s→Q .non H)∧(¬ (0≤n∧n≤s)→E (.ref k) none H)
def Jj2 (k1 k2 k3:Addr):Sp:=fun vs H Q E=>∃ (n s:Int) (z:Str) (b a:Int),vs=[.int n,.int s,.str z,.int b,.int a]∧YS z∧(¬ JaD n s→E (.ref k1) none H)∧(JaD n s→ZT z=false→E (.ref k2) none H) ∧
 (∀ r,z=hs r→JaD n s→¬ Jes n s r b a→E (.ref k3) none H)∧(∀ r,z=hs r→JaD n s→Jes n s r b a→∀ p H',Jg H H'→H' p=some (.tup (Jh5 n s r b a))→Q (.ref p) H')
theorem tcT {σ:St} {H:Hp} {F G:Hp→Prop} (h:F H):Jct σ H (fun b H3=>if b=true then F H3 else G H3):=by
 show if true=true then F H else G H;rw [if_pos rfl];exact h
abbrev J5 (zs:List (Str×Str)) (gs:List Str) (c:Int) (t:Nat) (p:Str) (r:Bool):Int:=need (Js zs) (fun p=>decide (p∈gs)) c t p r
abbrev loB (zs:List (Str×Str)) (gs:List Str) (c:Int) (t:Nat) (p:Str) (r:Bool):Int:=loA (Js zs) (fun p=>decide (p∈gs)) c t p r
abbrev hiC (zs:List (Str×Str)) (gs:List Str) (c:Int) (t:Nat) (p:Str) (r:Bool):Int:=hiB (Js zs) (fun p=>decide (p∈gs)) c t p r
theorem Jew {ps:List Str} {zs:List (Str×Str)} {gs:List Str} (G:Ja1 ps zs gs) {p w:Str} (h:w∈Js zs p):w∈ps:=by
 unfold Js at h;obtain ⟨z,hz,rfl⟩:=List.mem_map.mp h;exact (G.l2 z (List.mem_filter.mp hz).1).2
theorem JgQ {ps:List Str} {zs:List (Str×Str)} {gs:List Str} (G:Ja1 ps zs gs) (p:Str):(Js zs p).length≤40:=by
 unfold Js;rw [List.length_map];exact Nat.le_trans (List.length_filter_le _ _) G.l1
theorem Ja1.perm {ps ps':List Str} {zs zs':List (Str×Str)} {gs gs':List Str} (G:Ja1 ps zs gs) (p:ps'.Perm ps) (z:zs'.Perm zs) (g:gs'.Perm gs):Ja1 ps' zs' gs' :=
 ⟨by rw [p.length_eq]; exact G.p1,by rw [p.length_eq]; exact G.p2,fun x h=>G.p3 x (p.mem_iff.mp h),p.nodup_iff.mpr G.p4,by rw [z.length_eq]; exact G.l1,
  fun x h=>let q:=G.l2 x (z.mem_iff.mp h); ⟨p.mem_iff.mpr q.1,p.mem_iff.mpr q.2⟩,z.nodup_iff.mpr G.l3,fun x h=>p.mem_iff.mpr (G.g1 x (g.mem_iff.mp h)),g.nodup_iff.mpr G.g2⟩
structure Bd (K:PySem.W.Frag) (C:Addr) (H:Hp) (b:Addr) (ps:List Str) (zs:List (V×(Str×Str))) (gs:List Str):Prop where
 B:JaG K C H b ps zs gs
 G:Ja1 ps (zs.map (·.2)) gs
theorem Bd.same {K:PySem.W.Frag} {C:Addr} {H H':Hp} {b:Addr} {ps:List Str} {zs:List (V×(Str×Str))} {gs:List Str} (h:Bd K C H b ps zs gs) (e:Jg H H'):Bd K C H' b ps zs gs:=⟨h.B.same e,h.G⟩
theorem Bd.zl {K:PySem.W.Frag} {C:Addr} {H:Hp} {b:Addr} {ps:List Str} {zs:List (V×(Str×Str))} {gs:List Str} (h:Bd K C H b ps zs gs):zs.length≤40:=by have:=h.G.l1; rwa [List.length_map] at this
theorem Zl.bd {K:PySem.W.Frag} {C C' dx:Addr} {H H':Hp} {b k:Addr} {ps:List Str} {zs:List (V×(Str×Str))} {gs:List Str} {fs:List (Str×V)} (h:Bd K C H b ps zs gs) (e:Zl k H H') (hk:H k=some (.ins C' dx fs)) (hn:k≠b):Bd K C H' b ps zs gs:=by
 obtain ⟨⟨d,tp,tl,tg,h1,h2,h3,h4,h5⟩,G⟩:=h;exact ⟨⟨d,tp,tl,tg,e _ _ (fun z=>hn z.symm) h1,e _ _ (ZC h2 hk (fun z=>nomatch z)) h2,e _ _ (ZC h3 hk (fun z=>nomatch z)) h3,fun z hz=>let ⟨a,q1,q2⟩:=h4 z hz; ⟨a,q1,e.tup hk q2⟩,e _ _ (ZC h5 hk (fun z=>nomatch z)) h5⟩,G⟩
def ZJ (p:Str) (r:Bool):List JP:=[.inr p,.inr (hs r)]
theorem YE {a b:Bool} (h:hs a=hs b):a=b:=by cases a <;> cases b <;> first | rfl | (exact absurd h (by decide +kernel))
theorem Jit {p q:Str} {r s:Bool} (h:ZJ p r=ZJ q s):p=q∧r=s:=by
 unfold ZJ at h;simp only [List.cons.injEq,Sum.inr.injEq,and_true] at h;exact ⟨h.1,YE h.2⟩
def Jda (H:Hp) (a:Addr) (ps:List Str) (f:Str→Bool→Int):Prop:=∃ kvs:List (List JP×V),H a=some (.dT kvs)∧∀ p∈ps,∀ r,Y1 kvs (ZJ p r)=some (.int (f p r))
theorem Jda.same {H H':Hp} {a:Addr} {ps:List Str} {f:Str→Bool→Int} (h:Jda H a ps f) (e:Jg H H'):Jda H' a ps f:=let ⟨kvs,h1,h2⟩:=h; ⟨kvs,e _ _ h1,h2⟩
structure Bk (K:PySem.W.Frag) (C CB:Addr) (H:Hp) (k b:Addr) (ps:List Str) (zs:List (V×(Str×Str))) (gs:List Str) (c:Int) (t n:Nat):Prop where
 B:Bd K C H b ps zs gs
 c0:0≤c
 c1:c≤20
 t1:t≤30
 at_:∃ (dx l:Addr) (rs:List Addr),H k=some (.ins CB dx [("board",.ref b),("coins",.int c),("turns",.int t),("needs",.ref l)])∧H l=some (.lst (rs.map V.ref))∧rs.length=n∧∀ (i:Nat) a,rs[i]?=some a→Jda H a ps (J5 (zs.map (·.2)) gs c i)
theorem Bk.same {K:PySem.W.Frag} {C CB:Addr} {H H':Hp} {k b:Addr} {ps:List Str} {zs:List (V×(Str×Str))} {gs:List Str} {c:Int} {t n:Nat} (h:Bk K C CB H k b ps zs gs c t n) (e:Jg H H'):Bk K C CB H' k b ps zs gs c t n :=
 ⟨h.B.same e,h.c0,h.c1,h.t1,let ⟨dx,l,rs,h1,h2,h3,h4⟩:=h.at_; ⟨dx,l,rs,e _ _ h1,e _ _ h2,h3,fun i a q=>(h4 i a q).same e⟩⟩
section
variable (K:PySem.W.Frag) (C CB:Addr)
def JnA:Sp:=fun vs H Q _=>∃ (k b:Addr) (z:Str) (m:Nat) (ps:List Str) (zs:List (V×(Str×Str))) (gs:List Str) (c:Int) (t n:Nat),vs=[.ref k,.str z,.int ((m:Int) + 1)]∧Bk K C CB H k b ps zs gs c t n∧m < n∧z∈ps∧Js (zs.map (·.2)) z≠[] ∧
 ∀ H',Jg H H'→Q (.int (loB (zs.map (·.2)) gs c m z false)) H'
def Jnz:Sp:=fun vs H Q _=>∃ (k b:Addr) (z:Str) (m:Nat) (ps:List Str) (zs:List (V×(Str×Str))) (gs:List Str) (c:Int) (t n:Nat),vs=[.ref k,.str z,.int ((m:Int) + 1)]∧Bk K C CB H k b ps zs gs c t n∧m < n∧z∈ps∧Js (zs.map (·.2)) z≠[] ∧
 ∀ H',Jg H H'→Q (.int (hiC (zs.map (·.2)) gs c m z true)) H'
def JmR:Sp:=fun vs H Q _=>∃ (k b:Addr) (z:Str) (m:Nat) (r:Bool) (ps:List Str) (zs:List (V×(Str×Str))) (gs:List Str) (c:Int) (t n:Nat),vs=[.ref k,.str z,.int m,.str (hs r)]∧Bk K C CB H k b ps zs gs c t n∧m≤n∧m≤30∧z∈ps ∧
 ∀ H',Jg H H'→Q (.int (J5 (zs.map (·.2)) gs c m z r)) H'
def Jlk:Sp:=fun vs H Q _=>∃ (k b:Addr) (m:Nat) (ps:List Str) (zs:List (V×(Str×Str))) (gs:List Str) (c:Int) (t n:Nat),vs=[.ref k,.int m]∧Bk K C CB H k b ps zs gs c t n∧m≤n∧m≤30 ∧
 ∀ a H',Jg H H'→Jda H' a ps (J5 (zs.map (·.2)) gs c m)→Q (.ref a) H'
def JhI (x:Addr):Sp:=fun vs H Q E=>∃ (k b dx:Addr) (c t:Int) (ps:List Str) (zs:List (V×(Str×Str))) (gs:List Str),vs=[.ref k,.ref b,.int c,.int t]∧H k=some (.ins CB dx [])∧k≠b∧Bd K C H b ps zs gs ∧
 (¬ (0≤c∧c≤20)→E (.ref x) none H)∧(0≤c∧c≤20→¬ (0≤t∧t≤30)→E (.ref x) none H) ∧
 (0≤c∧c≤20→0≤t∧t≤30→∀ H',Zl k H H'→Bk K C CB H' k b ps zs gs c t.toNat (t.toNat + 1)→Q .non H')
def Jf9 (ps:List Str) (c:Int) (t:Nat) (z:Str) (m north:Int) (x:Str):Prop:=z∈ps∧(0≤m∧m≤t)∧(0≤north∧north≤c)∧ZT x=true
def Jcv (kP kR kH:Addr) (ps:List Str) (c:Int) (t:Nat) (z:Str) (m north:Int) (x:Str) (H:Hp) (E:XK):Prop :=
 (z∉ps→E (.ref kP) none H)∧(z∈ps→¬ (0≤m∧m≤t)→E (.ref kR) none H)∧(z∈ps→0≤m∧m≤t→¬ (0≤north∧north≤c)→E (.ref kR) none H)∧(z∈ps→0≤m∧m≤t→0≤north∧north≤c→ZT x=false→E (.ref kH) none H)
theorem ZL {kP kR kH:Addr} {ps:List Str} {c:Int} {t:Nat} {z:Str} {m north:Int} {x:Str} {H:Hp} {E:XK} (h:Jf9 ps c t z m north x):Jcv kP kR kH ps c t z m north x H E :=
 ⟨fun z=>absurd h.1 z,fun _ z=>absurd h.2.1 z,fun _ _ z=>absurd h.2.2.1 z,fun _ _ _ z=>by rw [h.2.2.2] at z; cases z⟩
def Jlh (kP kR kH:Addr):Sp:=fun vs H Q E=>∃ (k b:Addr) (z x:Str) (m north:Int) (ps:List Str) (zs:List (V×(Str×Str))) (gs:List Str) (c:Int) (t:Nat),vs=[.ref k,.str z,.int m,.int north,.str x]∧YS z∧YS x∧Bk K C CB H k b ps zs gs c t (t + 1) ∧
 Jcv kP kR kH ps c t z m north x H E∧(Jf9 ps c t z m north x→Q .non H)
def Jj1 (kP kR kH:Addr):Sp:=fun vs H Q E=>∃ (k b:Addr) (z x:Str) (m north:Int) (ps:List Str) (zs:List (V×(Str×Str))) (gs:List Str) (c:Int) (t:Nat),vs=[.ref k,.str z,.int m,.int north,.str x]∧YS z∧YS x∧Bk K C CB H k b ps zs gs c t (t + 1) ∧
 Jcv kP kR kH ps c t z m north x H E∧(z∈ps→(0≤m∧m≤t)→(0≤north∧north≤c)→∀ r,x=hs r→∀ H',Jg H H'→Q (.str (hs (decide (J5 (zs.map (·.2)) gs c m.toNat z r≤north)))) H')
def Jbb (zs:List (Str×Str)) (gs:List Str) (c:Int) (m:Nat) (z:Str) (r:Bool):V:=if J5 zs gs c m z r≤c then .int (J5 zs gs c m z r) else .non
def Jlm (kP kR kH:Addr):Sp:=fun vs H Q E=>∃ (k b:Addr) (z x:Str) (m:Int) (ps:List Str) (zs:List (V×(Str×Str))) (gs:List Str) (c:Int) (t:Nat),vs=[.ref k,.str z,.int m,.str x]∧YS z∧YS x∧Bk K C CB H k b ps zs gs c t (t + 1) ∧
 Jcv kP kR kH ps c t z m c x H E∧(z∈ps→(0≤m∧m≤t)→∀ r,x=hs r→∀ H',Jg H H'→Q (Jbb (zs.map (·.2)) gs c m.toNat z r) H')
def JnS:Option Int→V
 | none=>.non
 | some i=>.int i
def Je7:Option Str→V
 | none=>.non
 | some i=>.str i
def YL (zs:List (Str×Str)) (gs:List Str) (m:Nat) (z:Str):Prop:=z∈gs∨m=0∨Js zs z=[]
instance (zs:List (Str×Str)) (gs:List Str) (m:Nat) (z:Str):Decidable (YL zs gs m z):=by unfold YL; exact inferInstance
theorem Jfm {z:Str} {m:Nat} {zs:List (Str×Str)} {gs:List Str}:(YL zs gs m z→∃ x,Z0 z (m:Int) zs gs=.str x)∧(¬ YL zs gs m z→Z0 z (m:Int) zs gs=.non):=by
 unfold Z0 YL;by_cases hg:z∈gs
 ·rw [if_pos hg]; exact ⟨fun _=>⟨_,rfl⟩,fun h=>absurd (.inl hg) h⟩
 ·rw [if_neg hg];by_cases h0:(m:Int)=0∨Js zs z=[]
  ·rw [if_pos h0];refine ⟨fun _=>⟨_,rfl⟩,fun h=>absurd (.inr ?_) h⟩;rcases h0 with h0 | h0
   ·exact .inl (by omega)
   ·exact .inr h0
  ·rw [if_neg h0];refine ⟨fun h=>?_,fun _=>rfl⟩;rcases h with h | h | h
   ·exact absurd h hg
   ·exact absurd (.inl (by omega)) h0
   ·exact absurd (.inr h) h0
abbrev gB (gs:List Str):Str→Bool:=fun p=>decide (p∈gs)
def bidV (zs:List (Str×Str)) (gs:List Str) (c:Int) (m:Nat) (z:Str) (k:Int) (r:Bool):V :=
 if YL zs gs m z then .non else if decide (J5 zs gs c m z r≤k)=!r then .int (Jiu (Js zs) (gB gs) c (m - 1) z k r) else .non
def ansV (zs:List (Str×Str)) (gs:List Str) (c:Int) (m:Nat) (z:Str) (k:Int) (r:Bool) (b:Int):V :=
 if YL zs gs m z then .non else JnS (JcX (Js zs) (gB gs) c (m - 1) z k r b)
def stepV (zs:List (Str×Str)) (gs:List Str) (c:Int) (m:Nat) (z:Str) (k:Int) (r h:Bool):V :=
 if YL zs gs m z then .non else Je7 (Jax (Js zs) (gB gs) c (m - 1) z k r h)
theorem JiX {α:Type} {f:α→Bool} {w:α}:∀ {l:List α} {i:Nat},l[i]?=some w→(∀ x∈l.take i,f x=false)→f w=true→l.find? f=some w
 | [],i,h,_,_=>by simp at h
 | a :: l,0,h,_,hw=>by
  have:a=w:=by simpa using h
  subst this;rw [List.find?_cons,hw]
 | a :: l,i + 1,h,hn,hw=>by
  rw [List.find?_cons,hn a (by simp)];exact JiX (by simpa using h) (fun x hx=>hn x (by simp [hx])) hw
theorem Jjr (n s:Int) (r:Bool) (b a:Int):∃ s',Jh5 n s r b a=[.str (hs (after n r b a).1),.int (after n r b a).2.1,.int s',.str (hs (after n r b a).2.2)]:=by
 unfold Jh5 after;by_cases h1:b > a
 ·rw [if_pos h1,if_pos h1]; cases r <;> exact ⟨_,rfl⟩
 ·rw [if_neg h1,if_neg h1];by_cases h2:a > b
  ·rw [if_pos h2,if_pos h2]; cases r <;> exact ⟨_,rfl⟩
  ·rw [if_neg h2,if_neg h2]; cases r <;> exact ⟨_,rfl⟩
theorem Jmk {n c:Int} {r:Bool} {b a:Int} (hn:0≤n∧n≤c) (hb:0≤b) (hb2:b≤own c n (!r)) (ha:0≤a) (ha2:a≤own c n r):0≤(after n r b a).2.1∧(after n r b a).2.1≤c:=by
 unfold after;unfold own at hb2 ha2;by_cases h1:b > a
 ·rw [if_pos h1]; cases r <;> simp at hb2 ha2 ⊢ <;> omega
 ·rw [if_neg h1];by_cases h2:a > b
  ·rw [if_pos h2]; cases r <;> simp at hb2 ha2 ⊢ <;> omega
  ·rw [if_neg h2]; cases r <;> simp at hb2 ha2 ⊢ <;> omega
def Jj8 (kP kR kH:Addr):Sp:=fun vs H Q E=>∃ (k b:Addr) (z x:Str) (m north:Int) (ps:List Str) (zs:List (V×(Str×Str))) (gs:List Str) (c:Int) (t:Nat),vs=[.ref k,.str z,.int m,.int north,.str x]∧YS z∧YS x∧Bk K C CB H k b ps zs gs c t (t + 1) ∧
 Jcv kP kR kH ps c t z m north x H E∧(z∈ps→(0≤m∧m≤t)→(0≤north∧north≤c)→∀ r,x=hs r→∀ H',Jg H H'→Q (bidV (zs.map (·.2)) gs c m.toNat z north r) H')
def Jjh (kP kR kH:Addr):Sp:=fun vs H Q E=>∃ (k b:Addr) (z x y:Str) (m north:Int) (ps:List Str) (zs:List (V×(Str×Str))) (gs:List Str) (c:Int) (t:Nat),vs=[.ref k,.str z,.int m,.int north,.str x,.str y]∧YS z∧YS x∧YS y∧Bk K C CB H k b ps zs gs c t (t + 1) ∧
 Jcv kP kR kH ps c t z m north x H E∧(Jf9 ps c t z m north x→ZT y=false→E (.ref kH) none H)∧(z∈ps→(0≤m∧m≤t)→(0≤north∧north≤c)→∀ r h,x=hs r→y=hs h→∀ H',Jg H H'→Q (stepV (zs.map (·.2)) gs c m.toNat z north r h) H')
def Jlq:Sp:=fun vs H Q _=>∃ (k b p:Addr) (z:Str) (m:Nat) (l r h:Bool) (n s:Int) (ps:List Str) (zs:List (V×(Str×Str))) (gs:List Str) (c:Int) (t:Nat),vs=[.ref k,.str z,.int ((m:Int) + 1),.ref p,.str (hs h)]∧H p=some (.tup [.str (hs l),.int n,.int s,.str (hs r)])∧Bk K C CB H k b ps zs gs c t (t + 1) ∧
 z∈ps∧m + 1≤t∧(0≤n∧n≤c)∧¬ YL (zs.map (·.2)) gs (m + 1) z∧∀ H',Jg H H'→Q (.bl ((Jax (Js (zs.map (·.2))) (gB gs) c m z n r l).isSome == (l == h))) H'
def JhJ (kP kR kH kB:Addr):Sp:=fun vs H Q E=>∃ (k b:Addr) (z x:Str) (m north bid:Int) (ps:List Str) (zs:List (V×(Str×Str))) (gs:List Str) (c:Int) (t:Nat),vs=[.ref k,.str z,.int m,.int north,.str x,.int bid]∧YS z∧YS x∧Bk K C CB H k b ps zs gs c t (t + 1) ∧
 Jcv kP kR kH ps c t z m north x H E∧(z∈ps→(0≤m∧m≤t)→(0≤north∧north≤c)→∀ r,x=hs r→¬ (0≤bid∧bid≤own c north (!r))→E (.ref kB) none H) ∧
 (z∈ps→(0≤m∧m≤t)→(0≤north∧north≤c)→∀ r,x=hs r→0≤bid∧bid≤own c north (!r)→∀ H',Jg H H'→Q (ansV (zs.map (·.2)) gs c m.toNat z north r bid) H')
end
section
variable {P:Program} {w:World} {K:PySem.W.Frag} {mg:Str→Option Value} {base:Heap}
theorem ZF (T:Txt K mg):JM P w K mg base (Y4 P w) 1 T.Jb1 T.Jbv ["number", "most"] (JmP T.JW):=by
 refine T.Y8.F.ok1 Jga (fun vs H Q E h=>?_) (fun cdv A outer s H vs Q E hr h=>?_)
 ·obtain ⟨_,_,rfl,_⟩:=h;rfl
 ·obtain ⟨n,m,rfl,hm,q1,q2⟩:=h;refine ⟨_,(@Jh _ _ _ (@JN _ _ _ _ _ _ _ _ (@PW.pt _ _ _ (@Jcg _ _ _ _ _ _ _ (@Jr _ _ _ _ _ _ _ _ (@Ja9 _) (@pv _ 0 _ _ rfl (.inl rfl) rfl rfl) (@Jb _ _ _ _) (JB _)) (@JbM _ _ _ _ (@Jr _ _ _ _ _ _ _ _ (@Jch _) (@pv _ 0 _ _ rfl (.inl rfl) rfl rfl) (@pv _ 1 _ _ rfl (.inl rfl) rfl rfl) (JB _))))) (@Jh _ _ _ (@JcG _ _ _ _ _ _ _ _ _ T.Jb8 T.JcW Jdq (@JeC _ _ _ _ _ _ (PJ.cons (@JR _ _ _ _) (PJ.cons (@JiQ _ _ _ _ (@pv _ 1 _ _ rfl (.inl rfl) rfl rfl)) PJ.nil)) rfl) rfl rfl (by decide) rfl)) (@Jw _))),?_⟩;have fm:∀ m:Nat,m < 31→(m:Int).natAbs.log2 < 1920∧(Str.empty ++ Str.ofString "it goes from 0 to " ++ Str.ofString (toString (m:Int))).length≤sizeLine:=by decide +kernel
  obtain ⟨m,rfl⟩:∃ j:Nat,m=(j:Int):=⟨m.toNat,by omega⟩
  have fm:=fm m (by omega);have bad:¬ (0≤n∧n≤m)→JhF T.JW E (Jfw [tC (.str "it goes from 0 to "),Jjg (fun σ H Q=>∃ v,σ[1]?=some (some v)∧Q v H)] Str.empty) { nx:=fun _ H'=>Q .non H',rt:=Q } [some (.int n),some (.int (m:Int))] H:=fun hb =>
   ⟨_,rfl,by decide +kernel,_,rfl,_,rfl,fm.1,_,rfl,fm.2,fm.2,q2 hb⟩
  refine ⟨_,rfl,_,_,rfl,rfl,_,rfl,Yr (fun c=>?_) (fun c=>?_)⟩
  ·exact Y7 (bad fun z=>by have:=z.1; have:=of_decide_eq_true c; omega)
  refine ⟨_,rfl,_,rfl,_,_,rfl,rfl,_,rfl,Yr (fun d=>?_) (fun d=>?_)⟩
  ·exact bad fun z=>by have:=z.2; have:=of_decide_eq_true d; omega
  ·exact q1 ⟨Int.not_lt.mp fun z=>c (decide_eq_true z),Int.not_lt.mp fun z=>d (decide_eq_true z)⟩
theorem JdL (T:Txt K mg):JM P w K mg base (Y4 P w) 4 T.JgE T.Jfi ["board", "place", "turns"] (Jlp K T.JC T.Yu T.JW):=by
 refine T.Jcs.F.ok1 JlG (fun vs H Q E h=>?_) (fun cdv A outer s H vs Q E hr h=>?_)
 ·obtain ⟨_,_,_,_,_,_,rfl,_⟩:=h;rfl
 ·obtain ⟨b,z,n,ps,zs,gs,rfl,ht,hl,B,q1,q2,q3⟩:=h;refine ⟨_,(@Jd _ _ _ _ _ (@Jy _ _ _ _ (@JS _ _ _ _ _ _ _ _ _ _ _ _ _ _ _ _ _ _ _ _ (@pv _ 0 _ _ rfl (.inl rfl) rfl rfl) T.Yo T.JU.m (Za T) (hr.mono (by decide)) T.JU.b .nil Yy (@Ja _ _ _ _ _ (@pv _ 1 _ _ rfl (.inl rfl) rfl rfl) (@Jc _) rfl) rfl rfl rfl) rfl) (@Jd _ _ _ _ _ (@Jy _ _ _ _ (@Jp _ _ _ _ _ _ _ _ _ _ _ _ _ _ _ T.Y8 (ZF T) (hr.mono (by decide)) Yy (@Ja _ _ _ _ _ (@pv _ 2 _ _ rfl (.inl rfl) rfl rfl) (@Ja _ _ _ _ _ (@JaA _ _ _ _ _ rfl T.Jao T.Jag (by decide)) (@Jc _) rfl) rfl) rfl (by decide) rfl rfl) rfl) (@Jd _ _ _ _ _ (@JN _ _ _ _ _ _ _ _ (@JcF _ _ _ (@JS _ _ _ _ _ _ _ _ _ _ _ _ _ _ _ _ _ _ _ _ (@pv _ 0 _ _ rfl (.inl rfl) rfl rfl) T.Yo T.Z8.m (Je8 T) (hr.mono (by decide)) T.Z8.b .nil Yy (@Ja _ _ _ _ _ (@pv _ 1 _ _ rfl (.inl rfl) rfl rfl) (@Jc _) rfl) rfl rfl rfl) (by intro _; rfl)) (@Jh _ _ _ (@JA _ _ _ _ (@JR _ _ _ _))) (@Jw _)) (@Jd _ _ _ _ _ (@JN _ _ _ _ _ _ _ _ (@PW.pt _ _ _ (@Jcg _ _ _ _ _ _ _ (@Jr _ _ _ _ _ _ _ _ (@Yi _) (@pv _ 2 _ _ rfl (.inl rfl) rfl rfl) (@Jb _ _ _ _) (JB _)) (@JbM _ _ _ _ (@Jr _ _ _ _ _ _ _ _ (@Yi _) (@JO _ _ _ _ _ _ _ _ _ (@Yp _) rfl T.ZM PySem.boot_len (@Ja _ _ _ _ _ (@JS _ _ _ _ _ _ _ _ _ _ _ _ _ _ _ _ _ _ _ _ (@pv _ 0 _ _ rfl (.inl rfl) rfl rfl) T.Yo T.Yx.m (JaT T) (hr.mono (by decide)) T.Yx.b .nil Yy (@Ja _ _ _ _ _ (@pv _ 1 _ _ rfl (.inl rfl) rfl rfl) (@Jc _) rfl) rfl rfl rfl) (@Jc _) rfl) (by decide) (by decide) rfl rfl) (@Jb _ _ _ _) (JB _))))) (@Jh _ _ _ (@JA _ _ _ _ (@JR _ _ _ _))) (@Jw _)) (@Jh _ _ _ (@JA _ _ _ _ (@JcJ _ _ _))))))),?_⟩;obtain ⟨dx,tp,tl,tg,hb,_⟩:=id B;refine ⟨_,rfl,b,dx,_,rfl,hb,rfl,_,rfl,b,z,ps,zs,gs,rfl,ht,B,fun hin=>?_,q1⟩;refine ⟨_,rfl,n,30,rfl,⟨by decide,by decide⟩,fun hn=>?_,q2 hin⟩;refine ⟨_,rfl,b,dx,_,rfl,hb,rfl,_,rfl,b,z,ps,zs,gs,rfl,ht,B,fun _=>⟨_,rfl,?_⟩,fun h=>absurd hin h⟩;have q:=q3 hin hn;by_cases hg:z∈gs
  ·refine Z7 (decide_eq_true hg) ?_;have e:Z0 z n (zs.map (·.2)) gs=.str "north":=by unfold Z0; rw [if_pos hg]
   rw [e] at q;exact q H (Jg.refl _)
  ·refine Y0 (decide_eq_false hg) ⟨_,rfl,rfl,_,rfl,?_⟩;by_cases h0:n=0
   ·have e:Z0 z n (zs.map (·.2)) gs=.str "south":=by unfold Z0; rw [if_neg hg,if_pos (.inl h0)]
    rw [e] at q;exact Z7 (by rw [h0]; exact decide_eq_true rfl) (Y7 (q H (Jg.refl _)))
   ·refine Y0 (decide_eq_false fun e=>h0 (V.int.inj e)) ⟨_,rfl,b,dx,_,rfl,hb,rfl,_,rfl,b,z,ps,zs,gs,rfl,ht,hl,B,fun _ t H' e' ht'=>⟨t,_,rfl,.inr (J0.of ht'),rfl,_,rfl,?_⟩,fun h=>absurd hin h⟩;rw [List.length_map];by_cases hw:Js (zs.map (·.2)) z=[]
    ·have e:Z0 z n (zs.map (·.2)) gs=.str "south":=by unfold Z0; rw [if_neg hg,if_pos (.inr hw)]
     rw [e] at q;exact Z7 (by rw [hw]; exact decide_eq_true rfl) (q H' e')
    ·have e:Z0 z n (zs.map (·.2)) gs=.non:=by unfold Z0; rw [if_neg hg,if_neg (fun h=>h.elim h0 hw)]
     rw [e] at q;refine Y0 (decide_eq_false fun e2=>?_) (q H' e');have e3:((Js (zs.map (·.2)) z).length:Int)=0:=V.int.inj e2;exact hw (List.length_eq_zero_iff.mp (by omega))
theorem JbV (T:Txt K mg):JM P w K mg base (Y4 P w) 1 T.JcS T.JbX ["hand"] (Jhq T.YQ):=by
 refine T.Jaw.F.ok1 Jhs (fun vs H Q E h=>?_) (fun cdv A outer s H vs Q E hr h=>?_)
 ·obtain ⟨_,rfl,_⟩:=h;rfl
 ·obtain ⟨z,rfl,ht,q1,q2⟩:=h;refine ⟨_,(@Jh _ _ _ (@JN _ _ _ _ _ _ _ _ (@Jr _ _ _ _ _ _ _ _ (@Jai _) (@pv _ 0 _ _ rfl (.inl rfl) rfl rfl) (@JiP _ _ _ _ rfl T.Jgu (by decide)) (by with_unfolding_all rfl)) (@Jh _ _ _ (@JcG _ _ _ _ _ _ _ _ _ T.Jf0 T.Jhh Jdq (@JeC _ _ _ _ _ _ (PJ.cons (@JhZ _ _ _ _ (@pv _ 0 _ _ rfl (.inl rfl) rfl rfl)) (PJ.cons (@JR _ _ _ _) PJ.nil)) rfl) rfl rfl (by decide) rfl)) (@Jw _))),?_⟩;refine ⟨_,rfl,T.Jdz,_,rfl,.inr (T.Jey H),rfl,rfl,_,rfl,?_⟩;rw [if_pos rfl,JkH];have hz:=JgW ht;have e1:(Str.empty ++ reprText z).length=(reprText z).length:=by rw [strLen_append]; exact Nat.zero_add _
  cases hb:ZT z with
  | true=>exact ZG (q1 hb)
  | false =>
   refine Y7 ⟨_,rfl,z,rfl,Nat.le_trans hz (by decide),_,rfl,by rw [e1]; exact Nat.le_trans hz (by decide),_,rfl,?_,?_,q2 hb⟩
   all_goals
    rw [strLen_append,e1];refine Nat.le_trans (Nat.add_le_add_right hz _) (by decide)
theorem Jh7 (T:Txt K mg):JM P w K mg base (Y4 P w) 2 T.JgA T.Jfe ["hand"] (Jlj T.YQ):=by
 refine T.JeP.F.ok1 JlE (fun vs H Q E h=>?_) (fun cdv A outer s H vs Q E hr h=>?_)
 ·obtain ⟨_,rfl,_⟩:=h;rfl
 ·obtain ⟨z,rfl,ht,q1,q2⟩:=h;refine ⟨_,(@Jd _ _ _ _ _ (@Jy _ _ _ _ (@Jp _ _ _ _ _ _ _ _ _ _ _ _ _ _ _ T.Jaw (JbV T) (hr.mono (by decide)) Yy (@Ja _ _ _ _ _ (@pv _ 0 _ _ rfl (.inl rfl) rfl rfl) (@Jc _) rfl) rfl (by decide) rfl rfl) rfl) (@Jh _ _ _ (@JA _ _ _ _ (@JcK _ _ _ _ _ _ _ _ (@Jr _ _ _ _ _ _ _ _ (@Yi _) (@pv _ 0 _ _ rfl (.inl rfl) rfl rfl) (@JR _ _ _ _) (JB _)) (@JR _ _ _ _) (@JR _ _ _ _))))),?_⟩;refine ⟨_,rfl,z,rfl,ht,fun hb=>?_,q2⟩;obtain ⟨b,rfl⟩:=Jcq hb;refine ⟨_,rfl,rfl,_,rfl,?_⟩;rw [JjB];cases b with
  | true=>exact Y7 (q1 true rfl)
  | false=>exact ZG (q1 false rfl)
theorem JbI (T:Txt K mg):JM P w K mg base Zk 1 T.JdR T.Jdf ["hand", "north", "south"] JiA:=by
 refine T.JaE.F.ok JiB (fun vs H Q E h=>?_) (fun cdv A outer s H vs Q E hr h=>?_)
 ·obtain ⟨_,_,_,rfl,_⟩:=h;rfl
 ·obtain ⟨b,n,s,rfl,q⟩:=h;refine ⟨_,(@Jh _ _ _ (@JA _ _ _ _ (@JcK _ _ _ _ _ _ _ _ (@Jr _ _ _ _ _ _ _ _ (@Yi _) (@pv _ 0 _ _ rfl (.inl rfl) rfl rfl) (@JR _ _ _ _) (JB _)) (@pv _ 1 _ _ rfl (.inl rfl) rfl rfl) (@pv _ 2 _ _ rfl (.inl rfl) rfl rfl)))),?_⟩;refine ⟨_,rfl,rfl,_,rfl,?_⟩;rw [JjB];cases b with
  | true=>exact Y7 ⟨_,rfl,q⟩
  | false=>exact ZG ⟨_,rfl,q⟩
theorem Jh6 (T:Txt K mg):JM P w K mg base Zk 1 T.JjH T.Jin ["hand", "price", "north", "south", "ribbon"] Jny:=by
 refine T.Jf3.F.ok JnE (fun vs H Q E h=>?_) (fun cdv A outer s H vs Q E hr h=>?_)
 ·obtain ⟨_,_,_,_,_,rfl,_⟩:=h;rfl
 ·obtain ⟨b,c,n,s,r,rfl,q⟩:=h;refine ⟨_,(@Jd _ _ _ _ _ (@JN _ _ _ _ _ _ _ _ (@Jr _ _ _ _ _ _ _ _ (@Yi _) (@pv _ 0 _ _ rfl (.inl rfl) rfl rfl) (@JR _ _ _ _) (JB _)) (@Jh _ _ _ (@JA _ _ _ _ (@YI _ _ _ _ _ (@Ja _ _ _ _ _ (@pv _ 0 _ _ rfl (.inl rfl) rfl rfl) (@Ja _ _ _ _ _ (@Ji _ _ _ _ _ _ _ _ (@Y3 _) (@pv _ 2 _ _ rfl (.inl rfl) rfl rfl) (@pv _ 1 _ _ rfl (.inl rfl) rfl rfl)) (@Ja _ _ _ _ _ (@Ji _ _ _ _ _ _ _ _ (@JQ _) (@pv _ 3 _ _ rfl (.inl rfl) rfl rfl) (@pv _ 1 _ _ rfl (.inl rfl) rfl rfl)) (@Ja _ _ _ _ _ (@pv _ 4 _ _ rfl (.inl rfl) rfl rfl) (@Jc _) rfl) rfl) rfl) rfl)))) (@Jw _)) (@Jh _ _ _ (@JA _ _ _ _ (@YI _ _ _ _ _ (@Ja _ _ _ _ _ (@pv _ 0 _ _ rfl (.inl rfl) rfl rfl) (@Ja _ _ _ _ _ (@Ji _ _ _ _ _ _ _ _ (@JQ _) (@pv _ 2 _ _ rfl (.inl rfl) rfl rfl) (@pv _ 1 _ _ rfl (.inl rfl) rfl rfl)) (@Ja _ _ _ _ _ (@Ji _ _ _ _ _ _ _ _ (@Y3 _) (@pv _ 3 _ _ rfl (.inl rfl) rfl rfl) (@pv _ 1 _ _ rfl (.inl rfl) rfl rfl)) (@Ja _ _ _ _ _ (@pv _ 4 _ _ rfl (.inl rfl) rfl rfl) (@Jc _) rfl) rfl) rfl) rfl))))),?_⟩;refine ⟨_,rfl,rfl,_,rfl,?_⟩;rw [JjB];cases b with
  | true=>exact Y7 ⟨_,rfl,_,rfl,_,rfl,_,_,rfl,rfl,_,rfl,_,rfl,_,_,rfl,rfl,_,rfl,by show 4≤sizeLine; decide,fun p hp=>q p _ (Jg.upd hp) Jf⟩
  | false=>exact ZG ⟨_,rfl,_,rfl,_,rfl,_,_,rfl,rfl,_,rfl,_,rfl,_,_,rfl,rfl,_,rfl,by show 4≤sizeLine; decide,fun p hp=>q p _ (Jg.upd hp) Jf⟩
theorem Jgq (T:Txt K mg):JM P w K mg base (Y4 P w) 1 T.Jb4 T.Jby ["north", "south"] (Jf7 T.JW):=by
 refine T.Jcb.F.ok1 Jgb (fun vs H Q E h=>?_) (fun cdv A outer s H vs Q E hr h=>?_)
 ·obtain ⟨_,_,rfl,_⟩:=h;rfl
 ·obtain ⟨n,s,rfl,q1,q2⟩:=h;refine ⟨_,(@Jh _ _ _ (@JN _ _ _ _ _ _ _ _ (@PW.pt _ _ _ (@Jcg _ _ _ _ _ _ _ (@Jr _ _ _ _ _ _ _ _ (@Ja9 _) (@pv _ 0 _ _ rfl (.inl rfl) rfl rfl) (@Jb _ _ _ _) (JB _)) (@Jcg _ _ _ _ _ _ _ (@Jr _ _ _ _ _ _ _ _ (@Ja9 _) (@pv _ 1 _ _ rfl (.inl rfl) rfl rfl) (@Jb _ _ _ _) (JB _)) (@JbM _ _ _ _ (@Jr _ _ _ _ _ _ _ _ (@Jch _) (@Ji _ _ _ _ _ _ _ _ (@JQ _) (@pv _ 0 _ _ rfl (.inl rfl) rfl rfl) (@pv _ 1 _ _ rfl (.inl rfl) rfl rfl)) (@JaA _ _ _ _ _ rfl T.ZH T.ZE (by decide)) (JB _)))))) (@Jh _ _ _ (@JcG _ _ _ _ _ _ _ _ _ T.Jb8 T.JcW Jdq (@JeC _ _ _ _ _ _ (PJ.cons (@JR _ _ _ _) (PJ.cons (@JiQ _ _ _ _ (@JaA _ _ _ _ _ rfl T.ZH T.ZE (by decide))) PJ.nil)) rfl) rfl rfl (by decide) rfl)) (@Jw _))),?_⟩;have bad:¬ JaD n s→JhF T.JW E (Jfw [tC (.str "coins go from 0, both hands' together to "),Jjg (tC (.int 20))] Str.empty) { nx:=fun _ H'=>Q .non H',rt:=Q } [some (.int n),some (.int s)] H:=fun hb =>
   ⟨_,rfl,by decide +kernel,_,rfl,by decide +kernel,_,rfl,by decide +kernel,by decide +kernel,q2 hb⟩
  refine ⟨_,rfl,_,_,rfl,rfl,_,rfl,Yr (fun c=>?_) (fun c=>?_)⟩
  ·exact Y7 (bad fun z=>by have:=z.1; have:=of_decide_eq_true c; omega)
  refine ⟨_,rfl,_,_,rfl,rfl,_,rfl,Yr (fun d=>?_) (fun d=>?_)⟩
  ·exact Y7 (bad fun z=>by have:=z.2.1; have:=of_decide_eq_true d; omega)
  refine ⟨_,rfl,_,rfl,_,_,rfl,rfl,_,_,rfl,rfl,_,rfl,Yr (fun e=>?_) (fun e=>?_)⟩
  ·exact bad fun z=>by have:=z.2.2; have:=of_decide_eq_true e; omega
  ·refine q1 ⟨?_,?_,?_⟩
   ·exact Int.not_lt.mp fun z=>c (decide_eq_true z)
   ·exact Int.not_lt.mp fun z=>d (decide_eq_true z)
   ·exact Int.not_lt.mp fun z=>e (decide_eq_true z)
theorem JcL (T:Txt K mg):JM P w K mg base (Y4 P w) 1 T.Jdh T.JcQ ["named", "coins"] (JhH T.Jbu):=by
 refine T.JaR.F.ok1 JhP (fun vs H Q E h=>?_) (fun cdv A outer s H vs Q E hr h=>?_)
 ·obtain ⟨_,_,rfl,_⟩:=h;rfl
 ·obtain ⟨n,s,rfl,q1,q2⟩:=h;refine ⟨_,(@Jh _ _ _ (@JN _ _ _ _ _ _ _ _ (@PW.pt _ _ _ (@Jcg _ _ _ _ _ _ _ (@Jr _ _ _ _ _ _ _ _ (@Ja9 _) (@pv _ 0 _ _ rfl (.inl rfl) rfl rfl) (@Jb _ _ _ _) (JB _)) (@JbM _ _ _ _ (@Jr _ _ _ _ _ _ _ _ (@Jch _) (@pv _ 0 _ _ rfl (.inl rfl) rfl rfl) (@pv _ 1 _ _ rfl (.inl rfl) rfl rfl) (JB _))))) (@Jh _ _ _ (@JcG _ _ _ _ _ _ _ _ _ T.Jhm T.Jis Jdq (@JR _ _ _ _) rfl rfl (by decide) rfl)) (@Jw _))),?_⟩;refine ⟨_,rfl,_,_,rfl,rfl,_,rfl,Yr (fun c=>?_) (fun c=>?_)⟩
  ·exact Y7 (q2 fun z=>by have:=z.1; have:=of_decide_eq_true c; omega)
  refine ⟨_,rfl,_,rfl,_,_,rfl,rfl,_,rfl,Yr (fun d=>?_) (fun d=>?_)⟩
  ·exact q2 fun z=>by have:=z.2; have:=of_decide_eq_true d; omega
  ·exact q1 ⟨Int.not_lt.mp fun z=>c (decide_eq_true z),Int.not_lt.mp fun z=>d (decide_eq_true z)⟩
theorem Jkl (T:Txt K mg):JM P w K mg base (Y4 P w) 3 T.Jfk T.Jel ["north", "south", "ribbon", "bid", "answer"] (Jj2 T.JW T.YQ T.Jbu):=by
 refine T.Jfr.F.ok1 JgY (fun vs H Q E h=>?_) (fun cdv A outer s H vs Q E hr h=>?_)
 ·obtain ⟨_,_,_,_,_,rfl,_⟩:=h;rfl
 ·obtain ⟨n,s,z,b,a,rfl,ht,q1,q2,q3,q⟩:=h;refine ⟨_,(@Jd _ _ _ _ _ (@Jy _ _ _ _ (@Jp _ _ _ _ _ _ _ _ _ _ _ _ _ _ _ T.Jcb (Jgq T) (hr.mono (by decide)) Yy (@Ja _ _ _ _ _ (@pv _ 0 _ _ rfl (.inl rfl) rfl rfl) (@Ja _ _ _ _ _ (@pv _ 1 _ _ rfl (.inl rfl) rfl rfl) (@Jc _) rfl) rfl) rfl (by decide) rfl rfl) rfl) (@Jd _ _ _ _ _ (@Ju _ _ 5 _ _ _ _ JgY.nd rfl (Or.inl rfl) (@Jp _ _ _ _ _ _ _ _ _ _ _ _ _ _ _ T.JeP (Jh7 T) (hr.mono (by decide)) Yy (@Ja _ _ _ _ _ (@pv _ 2 _ _ rfl (.inl rfl) rfl rfl) (@Jc _) rfl) rfl (by decide) rfl rfl) rfl (.inl rfl)) (@Jd _ _ _ _ _ (@Jy _ _ _ _ (@Jp _ _ _ _ _ _ _ _ _ _ _ _ _ _ _ T.JaR (JcL T) (hr.mono (by decide)) Yy (@Ja _ _ _ _ _ (@pv _ 3 _ _ rfl (.inl rfl) rfl rfl) (@Ja _ _ _ _ _ (@Jp _ _ _ _ _ _ _ _ _ _ _ _ _ _ _ T.JaE (JbI T) (hr.mono (by decide)) JK (@Ja _ _ _ _ _ (@pv _ 5 _ _ rfl (.inl rfl) rfl rfl) (@Ja _ _ _ _ _ (@pv _ 0 _ _ rfl (.inl rfl) rfl rfl) (@Ja _ _ _ _ _ (@pv _ 1 _ _ rfl (.inl rfl) rfl rfl) (@Jc _) rfl) rfl) rfl) rfl (by decide) rfl rfl) (@Jc _) rfl) rfl) rfl (by decide) rfl rfl) rfl) (@Jd _ _ _ _ _ (@Jy _ _ _ _ (@Jp _ _ _ _ _ _ _ _ _ _ _ _ _ _ _ T.JaR (JcL T) (hr.mono (by decide)) Yy (@Ja _ _ _ _ _ (@pv _ 4 _ _ rfl (.inl rfl) rfl rfl) (@Ja _ _ _ _ _ (@Jp _ _ _ _ _ _ _ _ _ _ _ _ _ _ _ T.JaE (JbI T) (hr.mono (by decide)) JK (@Ja _ _ _ _ _ (@pv _ 2 _ _ rfl (.inl rfl) rfl rfl) (@Ja _ _ _ _ _ (@pv _ 0 _ _ rfl (.inl rfl) rfl rfl) (@Ja _ _ _ _ _ (@pv _ 1 _ _ rfl (.inl rfl) rfl rfl) (@Jc _) rfl) rfl) rfl) rfl (by decide) rfl rfl) (@Jc _) rfl) rfl) rfl (by decide) rfl rfl) rfl) (@Jd _ _ _ _ _ (@JN _ _ _ _ _ _ _ _ (@Jr _ _ _ _ _ _ _ _ (@Jch _) (@pv _ 3 _ _ rfl (.inl rfl) rfl rfl) (@pv _ 4 _ _ rfl (.inl rfl) rfl rfl) (JB _)) (@Jh _ _ _ (@JA _ _ _ _ (@Jp _ _ _ _ _ _ _ _ _ _ _ _ _ _ _ T.Jf3 (Jh6 T) (hr.mono (by decide)) JK (@Ja _ _ _ _ _ (@pv _ 5 _ _ rfl (.inl rfl) rfl rfl) (@Ja _ _ _ _ _ (@pv _ 3 _ _ rfl (.inl rfl) rfl rfl) (@Ja _ _ _ _ _ (@pv _ 0 _ _ rfl (.inl rfl) rfl rfl) (@Ja _ _ _ _ _ (@pv _ 1 _ _ rfl (.inl rfl) rfl rfl) (@Ja _ _ _ _ _ (@pv _ 2 _ _ rfl (.inl rfl) rfl rfl) (@Jc _) rfl) rfl) rfl) rfl) rfl) rfl (by decide) rfl rfl))) (@Jw _)) (@Jd _ _ _ _ _ (@JN _ _ _ _ _ _ _ _ (@Jr _ _ _ _ _ _ _ _ (@Jch _) (@pv _ 4 _ _ rfl (.inl rfl) rfl rfl) (@pv _ 3 _ _ rfl (.inl rfl) rfl rfl) (JB _)) (@Jh _ _ _ (@JA _ _ _ _ (@Jp _ _ _ _ _ _ _ _ _ _ _ _ _ _ _ T.Jf3 (Jh6 T) (hr.mono (by decide)) JK (@Ja _ _ _ _ _ (@pv _ 2 _ _ rfl (.inl rfl) rfl rfl) (@Ja _ _ _ _ _ (@pv _ 4 _ _ rfl (.inl rfl) rfl rfl) (@Ja _ _ _ _ _ (@pv _ 0 _ _ rfl (.inl rfl) rfl rfl) (@Ja _ _ _ _ _ (@pv _ 1 _ _ rfl (.inl rfl) rfl rfl) (@Ja _ _ _ _ _ (@pv _ 2 _ _ rfl (.inl rfl) rfl rfl) (@Jc _) rfl) rfl) rfl) rfl) rfl) rfl (by decide) rfl rfl))) (@Jw _)) (@Jh _ _ _ (@JA _ _ _ _ (@Jp _ _ _ _ _ _ _ _ _ _ _ _ _ _ _ T.Jf3 (Jh6 T) (hr.mono (by decide)) JK (@Ja _ _ _ _ _ (@pv _ 2 _ _ rfl (.inl rfl) rfl rfl) (@Ja _ _ _ _ _ (@pv _ 4 _ _ rfl (.inl rfl) rfl rfl) (@Ja _ _ _ _ _ (@pv _ 0 _ _ rfl (.inl rfl) rfl rfl) (@Ja _ _ _ _ _ (@pv _ 1 _ _ rfl (.inl rfl) rfl rfl) (@Ja _ _ _ _ _ (@pv _ 5 _ _ rfl (.inl rfl) rfl rfl) (@Jc _) rfl) rfl) rfl) rfl) rfl) rfl (by decide) rfl rfl))))))))),?_⟩;refine ⟨_,rfl,_,rfl,n,s,rfl,fun hc=>?_,q1⟩;refine ⟨_,rfl,z,rfl,ht,fun r hz=>?_,q2 hc⟩;subst hz;refine ⟨_,rfl,_,rfl,_,rfl,_,rfl,_,n,s,rfl,b,_,rfl,fun hb=>?_,fun hb=>q3 r rfl hc fun z=>hb (by cases r <;> exact z.1)⟩;refine ⟨_,rfl,_,rfl,_,rfl,_,rfl,r,n,s,rfl,a,_,rfl,fun ha=>?_,fun ha=>q3 r rfl hc fun z=>ha z.2⟩;have hok:Jes n s r b a:=⟨by cases r <;> exact hb,ha⟩
  have q:=q r rfl hc hok;refine ⟨_,rfl,_,rfl,_,_,rfl,rfl,_,rfl,?_⟩;refine Yr (fun c=>?_) (fun c=>?_)
  ·have c':a < b:=of_decide_eq_true c;refine ⟨_,rfl,_,rfl,_,rfl,_,rfl,_,rfl,_,b,n,s,r,rfl,fun p H' e hp=>q p H' e ?_⟩;rw [hp,Je6,if_pos c']
  ·have c':¬ a < b:=fun z=>c (decide_eq_true z)
   refine ⟨_,rfl,_,rfl,_,_,rfl,rfl,_,rfl,?_⟩;refine Yr (fun d=>?_) (fun d=>?_)
   ·have d':b < a:=of_decide_eq_true d;refine ⟨_,rfl,_,rfl,_,rfl,_,rfl,_,rfl,_,a,n,s,r,rfl,fun p H' e hp=>q p H' e ?_⟩;rw [hp,Je6,if_neg c',if_pos d']
   ·have d':¬ b < a:=fun z=>d (decide_eq_true z)
    refine ⟨_,rfl,_,rfl,_,rfl,_,rfl,_,rfl,_,a,n,s,_,rfl,fun p H' e hp=>q p H' e ?_⟩;rw [hp,Je6,if_neg c',if_neg d']
theorem Zx (T:Txt K mg):JM P w K mg base Zk 4 T.YU T.YK ["self", "place", "turns"] (JnA K T.JC T.Jz):=by
 refine T.JY.F.ok Zv (fun vs H Q E h=>?_) (fun cdv A outer s H vs Q E hr h=>?_)
 ·obtain ⟨_,_,_,_,_,_,_,_,_,_,rfl,_⟩:=h;rfl
 ·obtain ⟨k,b,z,m,ps,zs,gs,c,t,n,rfl,B,hm,hz,hw,q⟩:=h;have hu:=Jck hr;refine ⟨_,(@Jd _ _ _ _ _ (@Ju _ _ 3 _ _ _ _ Zv.nd rfl (Or.inr rfl) (@JG _ _ _ _ _ _ _ (@JH _) (@Yg _ _ _ _ _ (@pv _ 0 _ _ rfl (.inl rfl) rfl rfl) rfl) (@Ji _ _ _ _ _ _ _ _ (@Y3 _) (@pv _ 2 _ _ rfl (.inl rfl) rfl rfl) (@Jb _ _ _ _)) (fun _ _=>rfl)) rfl (by first | exact .inl rfl | exact .inr rfl | assumption)) (@Jh _ _ _ (@JA _ _ _ _ (@JO _ _ _ _ _ _ _ _ _ (@JkW _ rfl) rfl T.Jjw PyProof.Rows.boot_min (@Ja _ _ _ _ _ (@Jaz _ _ _ _ _ _ _ 1 ["way", "behind"] [3] _ _ _ _ ["self", "place", "turns", "behind"] ((Jm Ym).names) (by decide +kernel) (@JcI _ _ _ _ (@JS _ _ _ _ _ _ _ _ _ _ _ _ _ _ _ _ _ _ _ _ (@Yg _ _ _ _ _ (@pv _ 0 _ _ rfl (.inl rfl) rfl rfl) rfl) T.Yo T.Yx.m (JaT T) (hr.mono (by decide)) T.Yx.b .nil YY (@Ja _ _ _ _ _ (@pv _ 1 _ _ rfl (.inl rfl) rfl rfl) (@Jc _) rfl) rfl rfl rfl)) (fun _ _ _ _=>(@Y2 _ _ _ _ _ _ _ _ _ 0 (by decide +kernel) rfl rfl)) (fun _ _ _ _=>(@Zd _)) (fun _ _ _ _=>(@JeD _ _ _ _ _ _ hu (@JT _ _ _ _ _ _ _ _ _ 1 rfl rfl (by decide) (by decide)) (@YI _ _ _ _ _ (@Ja _ _ _ _ _ (@YB _ _ _ _ _ _ _ _ _ 0 rfl rfl (by decide) (by decide)) (@Ja _ _ _ _ _ (@JR _ _ _ _) (@Jc _) rfl) rfl)) (fun _ _=>rfl))) rfl rfl rfl (by intro _; rfl)) (@Jc _) rfl) (by decide) (by decide) rfl rfl)))),?_⟩;obtain ⟨dx,l,rs,h1,h2,h3,h4⟩:=B.at_;obtain ⟨a,ha⟩:∃ a,rs[m]?=some a:=⟨_,List.getElem?_eq_getElem (by omega)⟩
  obtain ⟨kvs,hk1,hk2⟩:=h4 m a ha;obtain ⟨bdx,tp,tl,tg,hb,_⟩:=id B.B.B;have hwl:=JgQ B.B.G z;have hat:atI (rs.map V.ref) ((m:Int) + 1 - 1)=some (.ref a):=by
   rw [Int.add_sub_cancel]; exact ZU (by rw [List.getElem?_map,ha]; rfl)
  refine ⟨_,rfl,k,_,dx,_,.ref l,rfl,h1,T.JD,T.Y5,rfl,_,rfl,_,_,rfl,rfl,l,_,_,.ref a,rfl,rfl,Jq.of h2,hat,?_⟩;refine ⟨_,rfl,k,_,dx,_,.ref b,rfl,h1,T.JD,T.Yb,rfl,b,bdx,_,rfl,hb,rfl,_,rfl,b,z,ps,zs,gs,rfl,Yz (B.B.G.p3 z hz),B.B.zl,B.B.B,fun _ tw H1 e1 ht=>?_,fun h=>absurd hz h⟩;refine ⟨tw,rfl,⟨_,J0.of ht⟩,fun D hD=>?_⟩;refine Jfn (xs:=(Js (zs.map (·.2)) z).map V.str) (fun i ys H2=>Jg H1 H2∧H2 D=some (.lst ys)∧ys=((Js (zs.map (·.2)) z).take i).map fun w=>V.int (J5 (zs.map (·.2)) gs c m w false)) rfl (fun i ys H2 p=>J0.of (p.1 _ _ ht)) ⟨Jg.upd hD,Jf,by simp⟩ (fun i ys H2 p=>p.2.1) ?_ ?_
  ·rintro i x ys H2 hx ⟨e2,hy,rfl⟩;rw [List.getElem?_map] at hx;obtain ⟨w',hw1,rfl⟩:=Option.map_eq_some_iff.mp hx;have hin:=Jew B.B.G (List.mem_of_getElem? hw1);refine tcT ?_;refine ⟨_,rfl,_,rfl,by show 2≤sizeLine; decide,fun p hp=>?_⟩;have g:=Jc1.t (k:=ZJ w' false) ((Jg.upd (o:=.tup [.str w',.str "south"]) hp) _ _ (e2 _ _ (e1 _ _ hk1))) (show upd H2 p (.tup [.str w',.str "south"]) p=some (.tup ((ZJ w' false).map kV)) from Jf);rw [hk2 w' hin false] at g;have hDp:D≠p:=Jn hy hp;refine ⟨a,_,rfl,g,by rw [Jl hDp]; exact hy,?_,fun b' u e=>?_,Jf,?_⟩
   ·rw [List.length_map,List.length_take];refine Nat.lt_of_le_of_lt (Nat.min_le_right _ _) (Nat.lt_of_le_of_lt hwl (by decide))
   ·rw [Jl (Jn e hD),Jl (Jn (e2 _ _ e) hp)]; exact e2 b' u e
   ·rw [List.take_succ,hw1,List.map_append]; rfl
  ·rintro ys H2 ⟨e2,hy,rfl⟩;rw [List.length_map,List.take_length] at hy;have e:((Js (zs.map (·.2)) z).map fun w=>V.int (J5 (zs.map (·.2)) gs c m w false))=((Js (zs.map (·.2)) z).map fun w=>J5 (zs.map (·.2)) gs c m w false).map V.int:=by rw [List.map_map]; rfl
   rw [e] at hy;refine ⟨D,_,rfl,Jq.of hy,?_,fun M hM1 hM2=>?_⟩
   ·rw [List.length_map]; exact List.length_pos_iff.mpr hw
   ·rw [Jna hM1 hM2]; exact q H2 (e1.trans e2)
theorem Zw (T:Txt K mg):JM P w K mg base Zk 4 T.YT T.YJ ["self", "place", "turns"] (Jnz K T.JC T.Jz):=by
 refine T.JX.F.ok Zu (fun vs H Q E h=>?_) (fun cdv A outer s H vs Q E hr h=>?_)
 ·obtain ⟨_,_,_,_,_,_,_,_,_,_,rfl,_⟩:=h;rfl
 ·obtain ⟨k,b,z,m,ps,zs,gs,c,t,n,rfl,B,hm,hz,hw,q⟩:=h;have hu:=Jck hr;refine ⟨_,(@Jd _ _ _ _ _ (@Ju _ _ 3 _ _ _ _ Zu.nd rfl (Or.inr rfl) (@JG _ _ _ _ _ _ _ (@JH _) (@Yg _ _ _ _ _ (@pv _ 0 _ _ rfl (.inl rfl) rfl rfl) rfl) (@Ji _ _ _ _ _ _ _ _ (@Y3 _) (@pv _ 2 _ _ rfl (.inl rfl) rfl rfl) (@Jb _ _ _ _)) (fun _ _=>rfl)) rfl (by first | exact .inl rfl | exact .inr rfl | assumption)) (@Jh _ _ _ (@JA _ _ _ _ (@JO _ _ _ _ _ _ _ _ _ (@JkY _ rfl) rfl T.JdN PyProof.Rows.boot_max (@Ja _ _ _ _ _ (@Jaz _ _ _ _ _ _ _ 1 ["way", "behind"] [3] _ _ _ _ ["self", "place", "turns", "behind"] ((Jm Yl).names) (by decide +kernel) (@JcI _ _ _ _ (@JS _ _ _ _ _ _ _ _ _ _ _ _ _ _ _ _ _ _ _ _ (@Yg _ _ _ _ _ (@pv _ 0 _ _ rfl (.inl rfl) rfl rfl) rfl) T.Yo T.Yx.m (JaT T) (hr.mono (by decide)) T.Yx.b .nil YY (@Ja _ _ _ _ _ (@pv _ 1 _ _ rfl (.inl rfl) rfl rfl) (@Jc _) rfl) rfl rfl rfl)) (fun _ _ _ _=>(@Y2 _ _ _ _ _ _ _ _ _ 0 (by decide +kernel) rfl rfl)) (fun _ _ _ _=>(@Zd _)) (fun _ _ _ _=>(@JeD _ _ _ _ _ _ hu (@JT _ _ _ _ _ _ _ _ _ 1 rfl rfl (by decide) (by decide)) (@YI _ _ _ _ _ (@Ja _ _ _ _ _ (@YB _ _ _ _ _ _ _ _ _ 0 rfl rfl (by decide) (by decide)) (@Ja _ _ _ _ _ (@JR _ _ _ _) (@Jc _) rfl) rfl)) (fun _ _=>rfl))) rfl rfl rfl (by intro _; rfl)) (@Jc _) rfl) (by decide) (by decide) rfl rfl)))),?_⟩;obtain ⟨dx,l,rs,h1,h2,h3,h4⟩:=B.at_;obtain ⟨a,ha⟩:∃ a,rs[m]?=some a:=⟨_,List.getElem?_eq_getElem (by omega)⟩
  obtain ⟨kvs,hk1,hk2⟩:=h4 m a ha;obtain ⟨bdx,tp,tl,tg,hb,_⟩:=id B.B.B;have hwl:=JgQ B.B.G z;have hat:atI (rs.map V.ref) ((m:Int) + 1 - 1)=some (.ref a):=by
   rw [Int.add_sub_cancel]; exact ZU (by rw [List.getElem?_map,ha]; rfl)
  refine ⟨_,rfl,k,_,dx,_,.ref l,rfl,h1,T.JD,T.Y5,rfl,_,rfl,_,_,rfl,rfl,l,_,_,.ref a,rfl,rfl,Jq.of h2,hat,?_⟩;refine ⟨_,rfl,k,_,dx,_,.ref b,rfl,h1,T.JD,T.Yb,rfl,b,bdx,_,rfl,hb,rfl,_,rfl,b,z,ps,zs,gs,rfl,Yz (B.B.G.p3 z hz),B.B.zl,B.B.B,fun _ tw H1 e1 ht=>?_,fun h=>absurd hz h⟩;refine ⟨tw,rfl,⟨_,J0.of ht⟩,fun D hD=>?_⟩;refine Jfn (xs:=(Js (zs.map (·.2)) z).map V.str) (fun i ys H2=>Jg H1 H2∧H2 D=some (.lst ys)∧ys=((Js (zs.map (·.2)) z).take i).map fun w=>V.int (J5 (zs.map (·.2)) gs c m w true)) rfl (fun i ys H2 p=>J0.of (p.1 _ _ ht)) ⟨Jg.upd hD,Jf,by simp⟩ (fun i ys H2 p=>p.2.1) ?_ ?_
  ·rintro i x ys H2 hx ⟨e2,hy,rfl⟩;rw [List.getElem?_map] at hx;obtain ⟨w',hw1,rfl⟩:=Option.map_eq_some_iff.mp hx;have hin:=Jew B.B.G (List.mem_of_getElem? hw1);refine tcT ?_;refine ⟨_,rfl,_,rfl,by show 2≤sizeLine; decide,fun p hp=>?_⟩;have g:=Jc1.t (k:=ZJ w' true) ((Jg.upd (o:=.tup [.str w',.str "north"]) hp) _ _ (e2 _ _ (e1 _ _ hk1))) (show upd H2 p (.tup [.str w',.str "north"]) p=some (.tup ((ZJ w' true).map kV)) from Jf);rw [hk2 w' hin true] at g;have hDp:D≠p:=Jn hy hp;refine ⟨a,_,rfl,g,by rw [Jl hDp]; exact hy,?_,fun b' u e=>?_,Jf,?_⟩
   ·rw [List.length_map,List.length_take];refine Nat.lt_of_le_of_lt (Nat.min_le_right _ _) (Nat.lt_of_le_of_lt hwl (by decide))
   ·rw [Jl (Jn e hD),Jl (Jn (e2 _ _ e) hp)]; exact e2 b' u e
   ·rw [List.take_succ,hw1,List.map_append]; rfl
  ·rintro ys H2 ⟨e2,hy,rfl⟩;rw [List.length_map,List.take_length] at hy;have e:((Js (zs.map (·.2)) z).map fun w=>V.int (J5 (zs.map (·.2)) gs c m w true))=((Js (zs.map (·.2)) z).map fun w=>J5 (zs.map (·.2)) gs c m w true).map V.int:=by rw [List.map_map]; rfl
   rw [e] at hy;refine ⟨D,_,rfl,Jq.of hy,?_,fun M hM1 hM2=>?_⟩
   ·rw [List.length_map]; exact List.length_pos_iff.mpr hw
   ·rw [Jnc hM1 hM2]; exact q H2 (e1.trans e2)
theorem JfH (T:Txt K mg):JM P w K mg base Zk 5 T.JbE T.Jbg ["self", "place", "turns", "ribbon"] (JmR K T.JC T.Jz):=by
 refine T.JaF.F.ok Z2 (fun vs H Q E h=>?_) (fun cdv A outer s H vs Q E hr h=>?_)
 ·obtain ⟨_,_,_,_,_,_,_,_,_,_,_,rfl,_⟩:=h;rfl
 ·obtain ⟨k,b,z,m,r,ps,zs,gs,c,t,n,rfl,B,hm,hm2,hz,q⟩:=h;refine ⟨_,(@Jd _ _ _ _ _ (@Ju _ _ 4 _ _ _ _ Z2.nd rfl (Or.inl rfl) (@Jp _ _ _ _ _ _ _ _ _ _ _ _ _ _ _ T.Jcs (JdL T) (hr.mono (by decide)) YY (@Ja _ _ _ _ _ (@Yg _ _ _ _ _ (@pv _ 0 _ _ rfl (.inl rfl) rfl rfl) rfl) (@Ja _ _ _ _ _ (@pv _ 1 _ _ rfl (.inl rfl) rfl rfl) (@Ja _ _ _ _ _ (@pv _ 2 _ _ rfl (.inl rfl) rfl rfl) (@Jc _) rfl) rfl) rfl) rfl (by decide) rfl rfl) rfl (.inl rfl)) (@Jd _ _ _ _ _ (@JN _ _ _ _ _ _ _ _ (@Jd2 _ _ _ _ _ _ (@Jds _ _ _ _ _ (@pv _ 4 _ _ rfl (.inl rfl) rfl rfl)) (by first | exact ZA _ (by decide) (by decide) | rfl)) (@Jh _ _ _ (@JA _ _ _ _ (@JcK _ _ _ _ _ _ _ _ (@Jr _ _ _ _ _ _ _ _ (@Yi _) (@pv _ 4 _ _ rfl (.inl rfl) rfl rfl) (@JR _ _ _ _) (JB _)) (@Jb _ _ _ _) (@Ji _ _ _ _ _ _ _ _ (@JQ _) (@Yg _ _ _ _ _ (@pv _ 0 _ _ rfl (.inl rfl) rfl rfl) rfl) (@Jb _ _ _ _))))) (@Jw _)) (@Jd _ _ _ _ _ (@Ju _ _ 5 _ _ _ _ Z2.nd rfl (Or.inl rfl) (@JS _ _ _ _ _ _ _ _ _ _ _ _ _ _ _ _ _ _ _ _ (@pv _ 0 _ _ rfl (.inl rfl) rfl rfl) T.JD T.JY.m (Zx T) (hr.mono (by decide)) T.JY.b .nil JK (@Ja _ _ _ _ _ (@pv _ 1 _ _ rfl (.inl rfl) rfl rfl) (@Ja _ _ _ _ _ (@pv _ 2 _ _ rfl (.inl rfl) rfl rfl) (@Jc _) rfl) rfl) rfl rfl rfl) rfl (.inl rfl)) (@Jd _ _ _ _ _ (@Ju _ _ 6 _ _ _ _ Z2.nd rfl (Or.inl rfl) (@JS _ _ _ _ _ _ _ _ _ _ _ _ _ _ _ _ _ _ _ _ (@pv _ 0 _ _ rfl (.inl rfl) rfl rfl) T.JD T.JX.m (Zw T) (hr.mono (by decide)) T.JX.b .nil JK (@Ja _ _ _ _ _ (@pv _ 1 _ _ rfl (.inl rfl) rfl rfl) (@Ja _ _ _ _ _ (@pv _ 2 _ _ rfl (.inl rfl) rfl rfl) (@Jc _) rfl) rfl) rfl rfl rfl) rfl (.inl rfl)) (@Jd _ _ _ _ _ (@JN _ _ _ _ _ _ _ _ (@Jr _ _ _ _ _ _ _ _ (@Yi _) (@pv _ 3 _ _ rfl (.inl rfl) rfl rfl) (@JR _ _ _ _) (JB _)) (@Jh _ _ _ (@JA _ _ _ _ (@JO _ _ _ _ _ _ _ _ _ (@JbN _ rfl) rfl T.JdN PyProof.Rows.boot_max (@Ja _ _ _ _ _ (@pv _ 5 _ _ rfl (.inl rfl) rfl rfl) (@Ja _ _ _ _ _ (@Ji _ _ _ _ _ _ _ _ (@Yq _) (@Ji _ _ _ _ _ _ _ _ (@JQ _) (@pv _ 5 _ _ rfl (.inl rfl) rfl rfl) (@pv _ 6 _ _ rfl (.inl rfl) rfl rfl)) (@Jb _ _ _ _)) (@Jc _) rfl) rfl) (by decide) (by decide) rfl rfl))) (@Jw _)) (@Jh _ _ _ (@JA _ _ _ _ (@JO _ _ _ _ _ _ _ _ _ (@JkX _ rfl) rfl T.Jjw PyProof.Rows.boot_min (@Ja _ _ _ _ _ (@pv _ 6 _ _ rfl (.inl rfl) rfl rfl) (@Ja _ _ _ _ _ (@Ji _ _ _ _ _ _ _ _ (@Yq _) (@Ji _ _ _ _ _ _ _ _ (@JQ _) (@Ji _ _ _ _ _ _ _ _ (@JQ _) (@pv _ 5 _ _ rfl (.inl rfl) rfl rfl) (@pv _ 6 _ _ rfl (.inl rfl) rfl rfl)) (@Jb _ _ _ _)) (@Jb _ _ _ _)) (@Jc _) rfl) rfl) (by decide) (by decide) rfl rfl)))))))),?_⟩;obtain ⟨dx,l,rs,h1,h2,h3,h4⟩:=B.at_;refine ⟨_,rfl,k,_,dx,_,.ref b,rfl,h1,T.JD,T.Yb,rfl,_,rfl,_,rfl,b,z,m,ps,zs,gs,rfl,Yz (B.B.G.p3 z hz),B.B.zl,B.B.B,fun h=>absurd hz h,fun _ h=>absurd (by omega) h,fun _ _ H1 e1=>?_⟩;by_cases hg:z∈gs
  ·have ev:Z0 z m (zs.map (·.2)) gs=.str "north":=by unfold Z0; rw [if_pos hg]
   rw [ev];have en:J5 (zs.map (·.2)) gs c m z r=0:=Jec (decide_eq_true hg);rw [en] at q;exact ⟨_,rfl,_,rfl,Y7 ⟨_,rfl,rfl,_,rfl,Y7 (q H1 e1)⟩⟩
  ·by_cases h0:(m:Int)=0∨Js (zs.map (·.2)) z=[]
   ·have ev:Z0 z m (zs.map (·.2)) gs=.str "south":=by unfold Z0; rw [if_neg hg,if_pos h0]
    rw [ev];have en:J5 (zs.map (·.2)) gs c m z r=c + 1:=by
     rcases h0 with h0 | h0
     ·have:m=0:=by omega
      subst this;exact Jkq (decide_eq_false hg)
     ·exact Jeb (decide_eq_false hg) h0
    rw [en] at q;exact ⟨_,rfl,_,rfl,Y7 ⟨_,rfl,rfl,_,rfl,ZG ⟨_,rfl,k,_,dx,_,.int c,rfl,e1 _ _ h1,T.JD,T.Y6,rfl,_,_,rfl,rfl,q H1 e1⟩⟩⟩
   ·have ev:Z0 z m (zs.map (·.2)) gs=.non:=by unfold Z0; rw [if_neg hg,if_neg h0]
    rw [ev];obtain ⟨j,rfl⟩:∃ j,m=j + 1:=⟨m - 1,by omega⟩
    have hw:Js (zs.map (·.2)) z≠[]:=fun e=>h0 (.inr e)
    refine ⟨_,rfl,_,rfl,ZG ?_⟩;refine ⟨_,rfl,k,dx,_,rfl,e1 _ _ h1,rfl,_,rfl,_,rfl,k,b,z,j,ps,zs,gs,c,t,n,rfl,B.same e1,by omega,hz,hw,fun H2 e2=>?_⟩;have e12:=e1.trans e2;refine ⟨_,rfl,k,dx,_,rfl,e12 _ _ h1,rfl,_,rfl,_,rfl,k,b,z,j,ps,zs,gs,c,t,n,rfl,B.same e12,by omega,hz,hw,fun H3 e3=>?_⟩;have q:=q H3 (e12.trans e3);refine ⟨_,rfl,rfl,_,rfl,?_⟩;rw [JjB];cases r with
    | true =>
     rw [J5,Jks (W:=Js (zs.map (·.2))) (g:=fun p=>decide (p∈gs)) (p:=z) (decide_eq_false hg) hw] at q;exact Y7 ⟨_,rfl,_,rfl,_,rfl,_,_,rfl,rfl,_,_,rfl,rfl,⟨by decide,by decide⟩,_,_,rfl,q⟩
    | false =>
     rw [J5,Jkr (W:=Js (zs.map (·.2))) (g:=fun p=>decide (p∈gs)) (p:=z) (decide_eq_false hg) hw] at q;exact ZG ⟨_,rfl,_,rfl,_,rfl,_,_,rfl,rfl,_,_,rfl,rfl,_,_,rfl,rfl,⟨by decide,by decide⟩,_,_,rfl,q⟩
theorem Jd8 (T:Txt K mg):JM P w K mg base Zk 6 T.JaN T.Jas ["self", "turns"] (Jlk K T.JC T.Jz):=by
 refine T.ZD.F.ok Zt (fun vs H Q E h=>?_) (fun cdv A outer s H vs Q E hr h=>?_)
 ·obtain ⟨_,_,_,_,_,_,_,_,_,rfl,_⟩:=h;rfl
 ·obtain ⟨k,b,m,ps,zs,gs,c,t,n,rfl,B,hm,hm2,q⟩:=h;have hu:=Jck hr;have szl:sizeLine=16777216:=sizeLine_eq;refine ⟨_,(@Jd _ _ _ _ _ (@Ju _ _ 2 _ _ _ _ Zt.nd rfl (Or.inl rfl) (@JlO _ _) rfl (.inl rfl)) (@Jd _ _ _ _ _ (@YH _ _ _ _ _ _ _ _ PassesOwn.never rfl (@JcI _ _ _ _ (@Yg _ _ _ _ _ (@Yg _ _ _ _ _ (@pv _ 0 _ _ rfl (.inl rfl) rfl rfl) rfl) rfl)) (@Yj _ _ 3 _ Zt.nd rfl (Or.inl rfl) (.inl rfl)) (@Jh _ _ _ (@YH _ _ _ _ _ _ _ _ PassesOwn.never rfl (@JcI _ _ _ _ (@JiP _ _ _ _ rfl T.Jgu (by decide))) (@Yj _ _ 4 _ Zt.nd rfl (Or.inl rfl) (.inl rfl)) (@Jh _ _ _ (@Jm0 _ _ _ _ _ _ _ _ _ hu (@pv _ 2 _ _ rfl (.inl rfl) rfl rfl) (@YI _ _ _ _ _ (@Ja _ _ _ _ _ (@pv _ 3 _ _ rfl (.inl rfl) rfl rfl) (@Ja _ _ _ _ _ (@pv _ 4 _ _ rfl (.inl rfl) rfl rfl) (@Jc _) rfl) rfl)) (@JS _ _ _ _ _ _ _ _ _ _ _ _ _ _ _ _ _ _ _ _ (@pv _ 0 _ _ rfl (.inl rfl) rfl rfl) T.JD T.JaF.m (JfH T) (hr.mono (by decide)) T.JaF.b .nil JK (@Ja _ _ _ _ _ (@pv _ 3 _ _ rfl (.inl rfl) rfl rfl) (@Ja _ _ _ _ _ (@pv _ 1 _ _ rfl (.inl rfl) rfl rfl) (@Ja _ _ _ _ _ (@pv _ 4 _ _ rfl (.inl rfl) rfl rfl) (@Jc _) rfl) rfl) rfl) rfl rfl rfl) rfl)) (by intro _; rfl))) (by intro _; rfl)) (@Jh _ _ _ (@JA _ _ _ _ (@pv _ 2 _ _ rfl (.inl rfl) rfl rfl))))),?_⟩;obtain ⟨dx,l,rs,h1,h2,h3,h4⟩:=B.at_;obtain ⟨bdx,tp,tl,tg,hb,hp,_⟩:=id B.B.B;intro d hd;have kp:∀ {H2:Hp} {kvs:List (List JP×V)},Jg H H2→Jg H (upd H2 d (.dT kvs)):=fun e b' u h=>by rw [Jl (Jn h hd)]; exact e b' u h
  refine ⟨_,rfl,k,_,dx,_,.ref b,rfl,kp (Jg.refl _) _ _ h1,T.JD,T.Yb,rfl,b,_,bdx,_,.ref tp,rfl,kp (Jg.refl _) _ _ hb,T.Yo,T.Z5,rfl,tp,rfl,⟨_,J0.of (kp (Jg.refl _) _ _ hp)⟩,?_⟩;refine JeJ (xs:=ps.map V.str) (fun i σ H2=>∃ kvs v1 v2,Jg H H2∧H2 d=some (.dT kvs)∧kvs.length≤2 * i∧(∀ p∈ps.take i,∀ r,Y1 kvs (ZJ p r)=some (.int (J5 (zs.map (·.2)) gs c m p r)))∧σ=[some (.ref k),some (.int m),some (.ref d),v1,v2])
   ⟨[],none,none,kp (Jg.refl _),Jf,Nat.zero_le _,fun p hp=>by simp at hp,rfl⟩ (fun i σ H2 _ h=>by obtain ⟨_,_,_,e,_⟩:=h; exact J0.of (e _ _ hp)) ?_ ?_
  ·rintro i x σ H2 hx ⟨kvs,v1,v2,e2,hd2,hl2,hv2,rfl⟩;rw [List.getElem?_map] at hx;obtain ⟨p,hp1,rfl⟩:=Option.map_eq_some_iff.mp hx;have hpm:=List.mem_of_getElem? hp1;refine ⟨T.Jdz,rfl,⟨_,T.Jey _⟩,?_⟩;refine JeJ (xs:=[.str "north",.str "south"]) (fun j σ H3=>∃ kvs v2,Jg H H3∧H3 d=some (.dT kvs)∧kvs.length≤2 * i + j∧(∀ p∈ps.take i,∀ r,Y1 kvs (ZJ p r)=some (.int (J5 (zs.map (·.2)) gs c m p r))) ∧
     (0 < j→Y1 kvs (ZJ p true)=some (.int (J5 (zs.map (·.2)) gs c m p true)))∧(1 < j→Y1 kvs (ZJ p false)=some (.int (J5 (zs.map (·.2)) gs c m p false)))∧σ=[some (.ref k),some (.int m),some (.ref d),some (.str p),v2])
    ⟨kvs,v2,e2,hd2,by omega,hv2,fun z=>absurd z (by decide),fun z=>absurd z (by decide),rfl⟩ (fun i σ H2 _ h=>T.Jey _) ?_ ?_
   ·rintro j y σ H3 hy ⟨kvs,v2,e3,hd3,hl3,hv3,hn3,hs3,rfl⟩;obtain ⟨r,rfl,hrj⟩:∃ r:Bool,y=.str (hs r)∧((r=true∧j=0)∨(r=false∧j=1)):=by
     match j,hy with
     | 0,h=>exact ⟨true,(Option.some.inj h).symm,.inl ⟨rfl,rfl⟩⟩
     | 1,h=>exact ⟨false,(Option.some.inj h).symm,.inr ⟨rfl,rfl⟩⟩
     | j + 2,h=>cases h
    refine ⟨_,rfl,k,dx,_,rfl,e3 _ _ h1,rfl,_,rfl,_,rfl,_,rfl,k,b,p,m,r,ps,zs,gs,c,t,n,rfl,B.same e3,hm,hm2,hpm,fun H4 e4=>?_⟩;refine ⟨_,rfl,_,rfl,_,rfl,by show 2≤sizeLine; decide,fun tp4 n4=>?_⟩;have hd4:upd H4 tp4 (.tup [.str p,.str (hs r)]) d=some (.dT kvs):=(Jg.upd n4) _ _ (e4 _ _ hd3);have hlen:ps.length≤12:=B.B.G.p2;have hil:i < ps.length:=(List.getElem?_eq_some_iff.mp hp1).1;have hj2:j≤1:=by rcases hrj with h | h <;> omega
    refine ⟨d,_,rfl,Jft.t (k:=ZJ p r) hd4 (show upd H4 tp4 (.tup [.str p,.str (hs r)]) tp4=some (.tup ((ZJ p r).map kV)) from Jf) (by omega),_,_,kp ((e3.trans e4).trans (Jg.upd n4)),Jf,?_,fun p' hp' r'=>?_,fun h=>?_,fun h=>?_,rfl⟩
    ·unfold JaY;split
     ·rw [List.length_map]; omega
     ·rw [List.length_append,List.length_singleton]; omega
    ·rw [Je1];by_cases hk:ZJ p' r'=ZJ p r
     ·obtain ⟨rfl,rfl⟩:=Jit hk;rw [if_pos rfl]
     ·rw [if_neg hk]; exact hv3 p' hp' r'
    ·rw [Je1];rcases hrj with ⟨rfl,rfl⟩ | ⟨rfl,rfl⟩
     ·rw [if_pos rfl]
     ·rw [if_neg (fun e=>by have:=(Jit e).2; cases this)]; exact hn3 (by decide)
    ·rcases hrj with ⟨rfl,rfl⟩ | ⟨rfl,rfl⟩
     ·exact absurd h (by decide)
     ·rw [Je1,if_pos rfl]
   ·rintro σ H3 ⟨kvs,v2,e3,hd3,hl3,hv3,hn3,hs3,rfl⟩;refine ⟨kvs,_,_,e3,hd3,by have:[V.str "north",V.str "south"].length=2:=rfl; omega,fun p' hp' r=>?_,rfl⟩;rw [List.take_succ,hp1] at hp';rcases List.mem_append.mp hp' with h | h
    ·exact hv3 p' h r
    ·have h:p'=p:=by simpa using h
     subst h;cases r with
     | true=>exact hn3 (by decide)
     | false=>exact hs3 (by decide)
  ·rintro σ H2 ⟨kvs,v1,v2,e2,hd2,hl2,hv2,rfl⟩;rw [List.length_map,List.take_length] at hv2;exact ⟨_,rfl,q d H2 e2 ⟨kvs,hd2,hv2⟩⟩
theorem Jia (T:Txt K mg):JM P w K mg base (Y4 P w) 7 T.JbJ T.JcR ["self", "board", "coins", "turns"] (JhI K T.JC T.Jz T.JW):=by
 refine T.Jdk.F.ok1 Jd0 (fun vs H Q E h=>?_) (fun cdv A outer s H vs Q E hr h=>?_)
 ·obtain ⟨_,_,_,_,_,_,_,_,rfl,_⟩:=h;rfl
 ·obtain ⟨k,b,dx,c,t,ps,zs,gs,rfl,hk,hkb,B,q1,q2,q⟩:=h;have szl:sizeLine=16777216:=sizeLine_eq;refine ⟨_,(@Jd _ _ _ _ _ (@Jy _ _ _ _ (@Jp _ _ _ _ _ _ _ _ _ _ _ _ _ _ _ T.Y8 (ZF T) (hr.mono (by decide)) Yy (@Ja _ _ _ _ _ (@pv _ 2 _ _ rfl (.inl rfl) rfl rfl) (@Ja _ _ _ _ _ (@JaA _ _ _ _ _ rfl T.ZH T.ZE (by decide)) (@Jc _) rfl) rfl) rfl (by decide) rfl rfl) rfl) (@Jd _ _ _ _ _ (@Jy _ _ _ _ (@Jp _ _ _ _ _ _ _ _ _ _ _ _ _ _ _ T.Y8 (ZF T) (hr.mono (by decide)) Yy (@Ja _ _ _ _ _ (@pv _ 3 _ _ rfl (.inl rfl) rfl rfl) (@Ja _ _ _ _ _ (@JaA _ _ _ _ _ rfl T.Jao T.Jag (by decide)) (@Jc _) rfl) rfl) rfl (by decide) rfl rfl) rfl) (@Jd _ _ _ _ _ (@JcH _ _ _ _ _ _ _ _ (@pv _ 0 _ _ rfl (.inl rfl) rfl rfl) (@pv _ 1 _ _ rfl (.inl rfl) rfl rfl) rfl) (@Jd _ _ _ _ _ (@JcH _ _ _ _ _ _ _ _ (@pv _ 0 _ _ rfl (.inl rfl) rfl rfl) (@pv _ 2 _ _ rfl (.inl rfl) rfl rfl) rfl) (@Jd _ _ _ _ _ (@JcH _ _ _ _ _ _ _ _ (@pv _ 0 _ _ rfl (.inl rfl) rfl rfl) (@pv _ 3 _ _ rfl (.inl rfl) rfl rfl) rfl) (@Jd _ _ _ _ _ (@JcH _ _ _ _ _ _ _ _ (@pv _ 0 _ _ rfl (.inl rfl) rfl rfl) (@YC _ _ _ _ (@Jc _)) rfl) (@Jh _ _ _ (@YH _ _ _ _ _ _ _ _ PassesOwn.leaving rfl (@Jah _ _ _ _ _ _ rfl T.JaC (@Ja _ _ _ _ _ (@Ji _ _ _ _ _ _ _ _ (@JQ _) (@pv _ 3 _ _ rfl (.inl rfl) rfl rfl) (@Jb _ _ _ _)) (@Jc _) rfl) rfl) (@Yj _ _ 4 _ Jd0.nd rfl (Or.inl rfl) (.inl rfl)) (@Jh _ _ _ (@Jy _ _ _ _ (@Zm _ _ _ _ _ _ _ _ _ _ _ _ PySem.F.plainAttrs_list PySem.F.slot_list_append PySem.F.type_list_append (@Yc _) (@Yg _ _ _ _ _ (@pv _ 0 _ _ rfl (.inl rfl) rfl rfl) rfl) (@Ja _ _ _ _ _ (@JS _ _ _ _ _ _ _ _ _ _ _ _ _ _ _ _ _ _ _ _ (@pv _ 0 _ _ rfl (.inl rfl) rfl rfl) T.JD T.ZD.m (Jd8 T) (hr.mono (by decide)) T.ZD.b .nil JK (@Ja _ _ _ _ _ (@pv _ 4 _ _ rfl (.inl rfl) rfl rfl) (@Jc _) rfl) rfl rfl rfl) (@Jc _) rfl) rfl rfl rfl rfl rfl) rfl)) (by intro _; rfl))))))))),?_⟩;refine ⟨_,rfl,c,20,rfl,⟨by decide,by decide⟩,fun hc=>?_,q1⟩;refine ⟨_,rfl,t,30,rfl,⟨by decide,by decide⟩,fun ht=>?_,q2 hc⟩;have q:=q hc ht;obtain ⟨tn,rfl⟩:∃ j:Nat,t=(j:Int):=⟨t.toNat,by omega⟩
  rw [Int.toNat_natCast] at q;refine ⟨_,rfl,_,rfl,k,_,dx,_,rfl,hk,T.JD,T.Yb,by decide,?_⟩;have b1:Zl k H (upd H k (.ins T.Jz dx (J8 "board" (.ref b) []))):=Zl.put;have h1:upd H k (.ins T.Jz dx (J8 "board" (.ref b) [])) k=some (.ins T.Jz dx [("board",.ref b)]):=Jf;generalize upd H k (.ins T.Jz dx (J8 "board" (.ref b) []))=H1 at b1 h1;refine ⟨_,rfl,_,rfl,k,_,dx,_,rfl,h1,T.JD,T.Y6,by show 1 < 1000; decide,?_⟩;have b2:=b1.trans (Zl.put (o:=.ins T.Jz dx (J8 "coins" (.int c) [("board",.ref b)])));have h2:upd H1 k (.ins T.Jz dx (J8 "coins" (.int c) [("board",.ref b)])) k=some (.ins T.Jz dx [("board",.ref b),("coins",.int c)]):=Jf;generalize upd H1 k (.ins T.Jz dx (J8 "coins" (.int c) [("board",.ref b)]))=H2 at b2 h2;refine ⟨_,rfl,_,rfl,k,_,dx,_,rfl,h2,T.JD,T.JbW,by show 2 < 1000; decide,?_⟩;have b3:=b2.trans (Zl.put (o:=.ins T.Jz dx (J8 "turns" (.int (tn:Int)) [("board",.ref b),("coins",.int c)])));have h3:upd H2 k (.ins T.Jz dx (J8 "turns" (.int (tn:Int)) [("board",.ref b),("coins",.int c)])) k=some (.ins T.Jz dx [("board",.ref b),("coins",.int c),("turns",.int (tn:Int))]):=Jf;generalize upd H2 k (.ins T.Jz dx (J8 "turns" (.int (tn:Int)) [("board",.ref b),("coins",.int c)]))=H3 at b3 h3;refine ⟨by show 0≤sizeLine; decide,fun l hl=>?_⟩;refine ⟨_,rfl,k,_,dx,_,rfl,(Jg.upd hl) _ _ h3,T.JD,T.Y5,by show 3 < 1000; decide,?_⟩;have lk:l≠k:=fun e=>by rw [e,h3] at hl; cases hl
  have lH:H l=none:=by
   cases e:H l with
   | none=>rfl
   | some u=>rw [b3 l u lk e] at hl; cases hl
  have b4:=(b3.trans (Zl.of (Jg.upd (o:=.lst []) hl))).trans (Zl.put (o:=.ins T.Jz dx (J8 "needs" (.ref l) [("board",.ref b),("coins",.int c),("turns",.int (tn:Int))])));have h4:upd (upd H3 l (.lst [])) k (.ins T.Jz dx (J8 "needs" (.ref l) [("board",.ref b),("coins",.int c),("turns",.int (tn:Int))])) k=some (.ins T.Jz dx [("board",.ref b),("coins",.int c),("turns",.int (tn:Int)),("needs",.ref l)]):=Jf;have l4:upd (upd H3 l (.lst [])) k (.ins T.Jz dx (J8 "needs" (.ref l) [("board",.ref b),("coins",.int c),("turns",.int (tn:Int))])) l=some (.lst []):=by rw [Jl lk,Jf]
  generalize upd (upd H3 l (.lst [])) k (.ins T.Jz dx (J8 "needs" (.ref l) [("board",.ref b),("coins",.int c),("turns",.int (tn:Int))]))=H4 at b4 h4 l4;refine ⟨_,rfl,_,_,rfl,rfl,(tn:Int) + 1,rfl,by omega,by omega,?_⟩;rw [show ((tn:Int) + 1).toNat=tn + 1 by omega];refine Jap (n:=tn + 1) (fun i σ H5=>∃ rs v,Zl k H H5∧H5 k=some (.ins T.Jz dx [("board",.ref b),("coins",.int c),("turns",.int (tn:Int)),("needs",.ref l)])∧H5 l=some (.lst (rs.map V.ref))∧rs.length=i∧(∀ (j:Nat) a,rs[j]?=some a→Jda H5 a ps (J5 (zs.map (·.2)) gs c j))∧σ=[some (.ref k),some (.ref b),some (.int c),some (.int (tn:Int)),v])
   ⟨[],none,b4,h4,l4,rfl,fun j a e=>by simp at e,rfl⟩ ?_ ?_
  ·rintro i σ H5 hi ⟨rs,v,b5,h5,l5,len5,r5,rfl⟩;have B5:Bk K T.JC T.Jz H5 k b ps zs gs c tn i:=⟨Zl.bd B b5 hk hkb,hc.1,hc.2,by omega,dx,l,rs,h5,l5,len5,r5⟩
   refine ⟨_,rfl,k,_,dx,_,.ref l,rfl,h5,T.JD,T.Y5,rfl,.inl ⟨rfl,_,Jq.of l5⟩,_,rfl,k,dx,_,rfl,h5,rfl,_,rfl,k,b,i,ps,zs,gs,c,tn,i,by rw [Int.zero_add]; rfl,B5,Nat.le_refl _,by omega,fun a H6 e6 r6=>?_⟩;refine ⟨l,_,_,rfl,rfl,e6 _ _ l5,by rw [List.length_map]; omega,rs ++ [a],_,?_,?_,?_,?_,?_,rfl⟩
   ·intro x u hx hu;rw [Jl (Jn hu lH)];exact e6 _ _ (b5 x u hx hu)
   ·rw [Jl (fun e=>lk e.symm)]; exact e6 _ _ h5
   ·rw [Jf,List.map_append]; rfl
   ·rw [List.length_append,len5]; rfl
   ·intro j x hx;have key:∀ {y:Addr} {f:Str→Bool→Int},Jda H6 y ps f→Jda (upd H6 l (.lst (rs.map V.ref ++ [.ref a]))) y ps f:=fun {y f} hy=>by
     obtain ⟨kvs,y1,y2⟩:=hy;exact ⟨kvs,by rw [Jl (ZC y1 (e6 _ _ l5) (fun z=>nomatch z))]; exact y1,y2⟩
    by_cases hj:j < rs.length
    ·rw [List.getElem?_append_left hj] at hx;exact key ((r5 j x hx).same e6)
    ·rw [List.getElem?_append_right (by omega)] at hx;have hj0:j - rs.length=0:=by
      cases e:j - rs.length with
      | zero=>rfl
      | succ n=>rw [e] at hx; simp at hx
     rw [hj0] at hx;have:a=x:=by simpa using hx
     subst this;have:j=i:=by omega
     subst this;exact key r6
  ·rintro σ H5 ⟨rs,v,b5,h5,l5,len5,r5,rfl⟩;exact q H5 b5 ⟨Zl.bd B b5 hk hkb,hc.1,hc.2,by omega,dx,l,rs,h5,l5,len5,r5⟩
theorem Zn (T:Txt K mg):JM P w K mg base (Y4 P w) 3 T.Jat T.ZX ["self", "place", "turns", "north", "ribbon"] (Jlh K T.JC T.Jz T.Yu T.JW T.YQ):=by
 refine T.J1.F.ok1 JdV (fun vs H Q E h=>?_) (fun cdv A outer s H vs Q E hr h=>?_)
 ·obtain ⟨_,_,_,_,_,_,_,_,_,_,_,rfl,_⟩:=h;rfl
 ·obtain ⟨k,b,z,x,m,north,ps,zs,gs,c,t,rfl,tz,tx,B,⟨q1,q2,q3,q4⟩,q⟩:=h;refine ⟨_,(@Jd _ _ _ _ _ (@Jy _ _ _ _ (@JS _ _ _ _ _ _ _ _ _ _ _ _ _ _ _ _ _ _ _ _ (@Yg _ _ _ _ _ (@pv _ 0 _ _ rfl (.inl rfl) rfl rfl) rfl) T.Yo T.JU.m (Za T) (hr.mono (by decide)) T.JU.b .nil Yy (@Ja _ _ _ _ _ (@pv _ 1 _ _ rfl (.inl rfl) rfl rfl) (@Jc _) rfl) rfl rfl rfl) rfl) (@Jd _ _ _ _ _ (@Jy _ _ _ _ (@Jp _ _ _ _ _ _ _ _ _ _ _ _ _ _ _ T.Y8 (ZF T) (hr.mono (by decide)) Yy (@Ja _ _ _ _ _ (@pv _ 2 _ _ rfl (.inl rfl) rfl rfl) (@Ja _ _ _ _ _ (@Yg _ _ _ _ _ (@pv _ 0 _ _ rfl (.inl rfl) rfl rfl) rfl) (@Jc _) rfl) rfl) rfl (by decide) rfl rfl) rfl) (@Jd _ _ _ _ _ (@Jy _ _ _ _ (@Jp _ _ _ _ _ _ _ _ _ _ _ _ _ _ _ T.Y8 (ZF T) (hr.mono (by decide)) Yy (@Ja _ _ _ _ _ (@pv _ 3 _ _ rfl (.inl rfl) rfl rfl) (@Ja _ _ _ _ _ (@Yg _ _ _ _ _ (@pv _ 0 _ _ rfl (.inl rfl) rfl rfl) rfl) (@Jc _) rfl) rfl) rfl (by decide) rfl rfl) rfl) (@Jh _ _ _ (@Jy _ _ _ _ (@Jp _ _ _ _ _ _ _ _ _ _ _ _ _ _ _ T.Jaw (JbV T) (hr.mono (by decide)) Yy (@Ja _ _ _ _ _ (@pv _ 4 _ _ rfl (.inl rfl) rfl rfl) (@Jc _) rfl) rfl (by decide) rfl rfl) rfl))))),?_⟩;obtain ⟨dx,l,rs,h1,h2,h3,h4⟩:=B.at_;obtain ⟨bdx,tp,tl,tg,hb,_⟩:=id B.B.B;have:=B.c0;have:=B.c1;have:=B.t1;refine ⟨_,rfl,k,_,dx,_,.ref b,rfl,h1,T.JD,T.Yb,rfl,b,bdx,_,rfl,hb,rfl,_,rfl,b,z,ps,zs,gs,rfl,tz,B.B.B,fun hz=>?_,q1⟩;refine ⟨_,rfl,_,rfl,k,_,dx,_,.int t,rfl,h1,T.JD,T.JbW,rfl,m,t,rfl,⟨by omega,by omega⟩,fun hm=>?_,q2 hz⟩;refine ⟨_,rfl,_,rfl,k,_,dx,_,.int c,rfl,h1,T.JD,T.Y6,rfl,north,c,rfl,⟨by omega,by omega⟩,fun hn=>?_,q3 hz hm⟩;exact ⟨_,rfl,x,rfl,tx,fun hx=>q ⟨hz,hm,hn,hx⟩,q4 hz hm hn⟩
theorem Jbr (T:Txt K mg):JM P w K mg base (Y4 P w) 4 T.Jb6 T.JbA ["self", "place", "turns", "north", "ribbon"] (Jj1 K T.JC T.Jz T.Yu T.JW T.YQ):=by
 refine T.YR.F.ok1 Jgd (fun vs H Q E h=>?_) (fun cdv A outer s H vs Q E hr h=>?_)
 ·obtain ⟨_,_,_,_,_,_,_,_,_,_,_,rfl,_⟩:=h;rfl
 ·obtain ⟨k,b,z,x,m,north,ps,zs,gs,c,t,rfl,tz,tx,B,qe,q⟩:=h;have hu:=Jck hr;refine ⟨_,(@Jd _ _ _ _ _ (@Jy _ _ _ _ (@JS _ _ _ _ _ _ _ _ _ _ _ _ _ _ _ _ _ _ _ _ (@pv _ 0 _ _ rfl (.inl rfl) rfl rfl) T.JD T.J1.m (Zn T) (hr.mono (by decide)) T.J1.b .nil Yy (@Ja _ _ _ _ _ (@pv _ 1 _ _ rfl (.inl rfl) rfl rfl) (@Ja _ _ _ _ _ (@pv _ 2 _ _ rfl (.inl rfl) rfl rfl) (@Ja _ _ _ _ _ (@pv _ 3 _ _ rfl (.inl rfl) rfl rfl) (@Ja _ _ _ _ _ (@pv _ 4 _ _ rfl (.inl rfl) rfl rfl) (@Jc _) rfl) rfl) rfl) rfl) rfl rfl rfl) rfl) (@Jh _ _ _ (@JA _ _ _ _ (@JcK _ _ _ _ _ _ _ _ (@Jr _ _ _ _ _ _ _ _ (@JoH _) (@pv _ 3 _ _ rfl (.inl rfl) rfl rfl) (@JeD _ _ _ _ _ _ hu (@JG _ _ _ _ _ _ _ (@JH _) (@Yg _ _ _ _ _ (@pv _ 0 _ _ rfl (.inl rfl) rfl rfl) rfl) (@pv _ 2 _ _ rfl (.inl rfl) rfl rfl) (fun _ _=>rfl)) (@YI _ _ _ _ _ (@Ja _ _ _ _ _ (@pv _ 1 _ _ rfl (.inl rfl) rfl rfl) (@Ja _ _ _ _ _ (@pv _ 4 _ _ rfl (.inl rfl) rfl rfl) (@Jc _) rfl) rfl)) (fun _ _=>rfl)) (JB _)) (@JR _ _ _ _) (@JR _ _ _ _))))),?_⟩;obtain ⟨dx,l,rs,h1,h2,h3,h4⟩:=B.at_;refine ⟨_,rfl,k,dx,_,rfl,h1,rfl,_,rfl,_,rfl,_,rfl,_,rfl,k,b,z,x,m,north,ps,zs,gs,c,t,rfl,tz,tx,B,qe,fun ⟨hz,hm,hn,hx⟩=>?_⟩;obtain ⟨r,rfl⟩:=Jcq hx;obtain ⟨j,rfl⟩:∃ j:Nat,m=(j:Int):=⟨m.toNat,by omega⟩
  obtain ⟨a,ha⟩:∃ a,rs[j]?=some a:=⟨_,List.getElem?_eq_getElem (by omega)⟩
  obtain ⟨kvs,hk1,hk2⟩:=h4 j a ha;have hat:atI (rs.map V.ref) (j:Int)=some (.ref a):=ZU (by rw [List.getElem?_map,ha]; rfl);refine ⟨_,rfl,_,rfl,k,_,dx,_,.ref l,rfl,h1,T.JD,T.Y5,rfl,_,rfl,l,_,_,.ref a,rfl,rfl,Jq.of h2,hat,_,rfl,_,rfl,by show 2≤sizeLine; decide,fun p hp=>?_⟩;have g:=Jc1.t (k:=ZJ z r) ((Jg.upd (o:=.tup [.str z,.str (hs r)]) hp) _ _ hk1) (show upd H p (.tup [.str z,.str (hs r)]) p=some (.tup ((ZJ z r).map kV)) from Jf);rw [hk2 z hz r] at g;have q:=q hz hm hn r rfl _ (Jg.upd (o:=.tup [.str z,.str (hs r)]) hp);rw [Int.toNat_natCast] at q;refine ⟨a,_,rfl,g,_,_,rfl,rfl,_,rfl,Yr (fun hc=>?_) (fun hc=>?_)⟩
  ·rw [hc] at q; exact q
  ·rw [Bool.not_eq_true] at hc; rw [hc] at q; exact q
theorem Jhv (T:Txt K mg):JM P w K mg base (Y4 P w) 4 T.JcT T.JbY ["self", "place", "turns", "ribbon"] (Jlm K T.JC T.Jz T.Yu T.JW T.YQ):=by
 refine T.Jbm.F.ok1 JdS (fun vs H Q E h=>?_) (fun cdv A outer s H vs Q E hr h=>?_)
 ·obtain ⟨_,_,_,_,_,_,_,_,_,_,rfl,_⟩:=h;rfl
 ·obtain ⟨k,b,z,x,m,ps,zs,gs,c,t,rfl,tz,tx,B,qe,q⟩:=h;have hu:=Jck hr;refine ⟨_,(@Jd _ _ _ _ _ (@Jy _ _ _ _ (@JS _ _ _ _ _ _ _ _ _ _ _ _ _ _ _ _ _ _ _ _ (@pv _ 0 _ _ rfl (.inl rfl) rfl rfl) T.JD T.J1.m (Zn T) (hr.mono (by decide)) T.J1.b .nil Yy (@Ja _ _ _ _ _ (@pv _ 1 _ _ rfl (.inl rfl) rfl rfl) (@Ja _ _ _ _ _ (@pv _ 2 _ _ rfl (.inl rfl) rfl rfl) (@Ja _ _ _ _ _ (@Yg _ _ _ _ _ (@pv _ 0 _ _ rfl (.inl rfl) rfl rfl) rfl) (@Ja _ _ _ _ _ (@pv _ 3 _ _ rfl (.inl rfl) rfl rfl) (@Jc _) rfl) rfl) rfl) rfl) rfl rfl rfl) rfl) (@Jd _ _ _ _ _ (@Ju _ _ 4 _ _ _ _ JdS.nd rfl (Or.inl rfl) (@JeD _ _ _ _ _ _ hu (@JG _ _ _ _ _ _ _ (@JH _) (@Yg _ _ _ _ _ (@pv _ 0 _ _ rfl (.inl rfl) rfl rfl) rfl) (@pv _ 2 _ _ rfl (.inl rfl) rfl rfl) (fun _ _=>rfl)) (@YI _ _ _ _ _ (@Ja _ _ _ _ _ (@pv _ 1 _ _ rfl (.inl rfl) rfl rfl) (@Ja _ _ _ _ _ (@pv _ 3 _ _ rfl (.inl rfl) rfl rfl) (@Jc _) rfl) rfl)) (fun _ _=>rfl)) rfl (.inl rfl)) (@Jh _ _ _ (@JA _ _ _ _ (@JcK _ _ _ _ _ _ _ _ (@Jr _ _ _ _ _ _ _ _ (@Jch _) (@pv _ 4 _ _ rfl (.inl rfl) rfl rfl) (@Yg _ _ _ _ _ (@pv _ 0 _ _ rfl (.inl rfl) rfl rfl) rfl) (JB _)) (@JcJ _ _ _) (@pv _ 4 _ _ rfl (.inl rfl) rfl rfl)))))),?_⟩;obtain ⟨dx,l,rs,h1,h2,h3,h4⟩:=B.at_;refine ⟨_,rfl,k,dx,_,rfl,h1,rfl,_,rfl,_,rfl,_,rfl,k,_,dx,_,.int c,rfl,h1,T.JD,T.Y6,rfl,_,rfl,k,b,z,x,m,c,ps,zs,gs,c,t,rfl,tz,tx,B,qe,fun ⟨hz,hm,hn,hx⟩=>?_⟩;obtain ⟨r,rfl⟩:=Jcq hx;obtain ⟨j,rfl⟩:∃ j:Nat,m=(j:Int):=⟨m.toNat,by omega⟩
  obtain ⟨a,ha⟩:∃ a,rs[j]?=some a:=⟨_,List.getElem?_eq_getElem (by omega)⟩
  obtain ⟨kvs,hk1,hk2⟩:=h4 j a ha;have hat:atI (rs.map V.ref) (j:Int)=some (.ref a):=ZU (by rw [List.getElem?_map,ha]; rfl);refine ⟨_,rfl,k,_,dx,_,.ref l,rfl,h1,T.JD,T.Y5,rfl,_,rfl,l,_,_,.ref a,rfl,rfl,Jq.of h2,hat,_,rfl,_,rfl,by show 2≤sizeLine; decide,fun p hp=>?_⟩;have e1:Jg H (upd H p (.tup [.str z,.str (hs r)])):=Jg.upd hp;have g:=Jc1.t (k:=ZJ z r) (e1 _ _ hk1) (show upd H p (.tup [.str z,.str (hs r)]) p=some (.tup ((ZJ z r).map kV)) from Jf);rw [hk2 z hz r] at g;have q:=q hz hm r rfl _ e1;rw [Int.toNat_natCast] at q;refine ⟨a,_,rfl,g,_,rfl,_,rfl,k,_,dx,_,.int c,rfl,e1 _ _ h1,T.JD,T.Y6,rfl,_,_,rfl,rfl,_,rfl,Yr (fun hc=>?_) (fun hc=>?_)⟩
  ·rw [Jbb,if_neg (by have:=of_decide_eq_true hc; omega)] at q; exact q
  ·rw [Jbb,if_pos (Int.not_lt.mp fun h=>hc (decide_eq_true h))] at q; exact ⟨_,rfl,q⟩
theorem Jgr (T:Txt K mg):JM P w K mg base (Y4 P w) 5 T.Jb7 T.JbB ["self", "place", "turns", "north", "ribbon"] (Jj8 K T.JC T.Jz T.Yu T.JW T.YQ):=by
 refine T.JaW.F.ok1 Jdo (fun vs H Q E h=>?_) (fun cdv A outer s H vs Q E hr h=>?_)
 ·obtain ⟨_,_,_,_,_,_,_,_,_,_,_,rfl,_⟩:=h;rfl
 ·obtain ⟨k,b,z,x,m,north,ps,zs,gs,c,t,rfl,tz,tx,B,qe,q⟩:=h;refine ⟨_,(@Jd _ _ _ _ _ (@Ju _ _ 5 _ _ _ _ Jdo.nd rfl (Or.inl rfl) (@JS _ _ _ _ _ _ _ _ _ _ _ _ _ _ _ _ _ _ _ _ (@pv _ 0 _ _ rfl (.inl rfl) rfl rfl) T.JD T.YR.m (Jbr T) (hr.mono (by decide)) T.YR.b .nil Yy (@Ja _ _ _ _ _ (@pv _ 1 _ _ rfl (.inl rfl) rfl rfl) (@Ja _ _ _ _ _ (@pv _ 2 _ _ rfl (.inl rfl) rfl rfl) (@Ja _ _ _ _ _ (@pv _ 3 _ _ rfl (.inl rfl) rfl rfl) (@Ja _ _ _ _ _ (@pv _ 4 _ _ rfl (.inl rfl) rfl rfl) (@Jc _) rfl) rfl) rfl) rfl) rfl rfl rfl) rfl (.inl rfl)) (@Jd _ _ _ _ _ (@JN _ _ _ _ _ _ _ _ (@PW.pt _ _ _ (@Jcg _ _ _ _ _ _ _ (@Jr _ _ _ _ _ _ _ _ (@Yi _) (@pv _ 5 _ _ rfl (.inl rfl) rfl rfl) (@pv _ 4 _ _ rfl (.inl rfl) rfl rfl) (JB _)) (@JbM _ _ _ _ (@Jd2 _ _ _ _ _ _ (@Jds _ _ _ _ _ (@Jp _ _ _ _ _ _ _ _ _ _ _ _ _ _ _ T.Jcs (JdL T) (hr.mono (by decide)) YY (@Ja _ _ _ _ _ (@Yg _ _ _ _ _ (@pv _ 0 _ _ rfl (.inl rfl) rfl rfl) rfl) (@Ja _ _ _ _ _ (@pv _ 1 _ _ rfl (.inl rfl) rfl rfl) (@Ja _ _ _ _ _ (@pv _ 2 _ _ rfl (.inl rfl) rfl rfl) (@Jc _) rfl) rfl) rfl) rfl (by decide) rfl rfl)) (by first | exact ZA _ (by decide) (by decide) | rfl))))) (@Jh _ _ _ (@JA _ _ _ _ (@JcJ _ _ _))) (@Jw _)) (@Jd _ _ _ _ _ (@JN _ _ _ _ _ _ _ _ (@Jr _ _ _ _ _ _ _ _ (@Yi _) (@pv _ 4 _ _ rfl (.inl rfl) rfl rfl) (@JR _ _ _ _) (JB _)) (@Jh _ _ _ (@JA _ _ _ _ (@JO _ _ _ _ _ _ _ _ _ (@JbN _ rfl) rfl T.JdN PyProof.Rows.boot_max (@Ja _ _ _ _ _ (@Jb _ _ _ _) (@Ja _ _ _ _ _ (@Ji _ _ _ _ _ _ _ _ (@Y3 _) (@JS _ _ _ _ _ _ _ _ _ _ _ _ _ _ _ _ _ _ _ _ (@pv _ 0 _ _ rfl (.inl rfl) rfl rfl) T.JD T.JX.m (Zw T) (hr.mono (by decide)) T.JX.b .nil JK (@Ja _ _ _ _ _ (@pv _ 1 _ _ rfl (.inl rfl) rfl rfl) (@Ja _ _ _ _ _ (@pv _ 2 _ _ rfl (.inl rfl) rfl rfl) (@Jc _) rfl) rfl) rfl rfl rfl) (@pv _ 3 _ _ rfl (.inl rfl) rfl rfl)) (@Jc _) rfl) rfl) (by decide) (by decide) rfl rfl))) (@Jw _)) (@Jh _ _ _ (@JA _ _ _ _ (@JO _ _ _ _ _ _ _ _ _ (@JbN _ rfl) rfl T.JdN PyProof.Rows.boot_max (@Ja _ _ _ _ _ (@Jb _ _ _ _) (@Ja _ _ _ _ _ (@Ji _ _ _ _ _ _ _ _ (@JQ _) (@Ji _ _ _ _ _ _ _ _ (@Y3 _) (@pv _ 3 _ _ rfl (.inl rfl) rfl rfl) (@JS _ _ _ _ _ _ _ _ _ _ _ _ _ _ _ _ _ _ _ _ (@pv _ 0 _ _ rfl (.inl rfl) rfl rfl) T.JD T.JY.m (Zx T) (hr.mono (by decide)) T.JY.b .nil JK (@Ja _ _ _ _ _ (@pv _ 1 _ _ rfl (.inl rfl) rfl rfl) (@Ja _ _ _ _ _ (@pv _ 2 _ _ rfl (.inl rfl) rfl rfl) (@Jc _) rfl) rfl) rfl rfl rfl)) (@Jb _ _ _ _)) (@Jc _) rfl) rfl) (by decide) (by decide) rfl rfl)))))),?_⟩;obtain ⟨dx,l,rs,h1,h2,h3,h4⟩:=B.at_;refine ⟨_,rfl,k,dx,_,rfl,h1,rfl,_,rfl,_,rfl,_,rfl,_,rfl,k,b,z,x,m,north,ps,zs,gs,c,t,rfl,tz,tx,B,qe,fun hz hm hn r hx H1 e1=>?_⟩;subst hx;obtain ⟨j,rfl⟩:∃ j:Nat,m=(j:Int):=⟨m.toNat,by omega⟩
  have q:=fun H' e=>q hz hm hn r rfl H' e
  simp only [Int.toNat_natCast] at q ⊢;have t1:=B.t1;refine ⟨_,rfl,_,rfl,rfl,_,rfl,?_⟩;have ev:=Jfm (z:=z) (m:=j) (zs:=zs.map (·.2)) (gs:=gs);cases hd:decide (J5 (zs.map (·.2)) gs c j z r≤north) == r with
  | true =>
   have hd':decide (J5 (zs.map (·.2)) gs c j z r≤north)=r:=by simpa using hd
   rw [hd'];refine Z7 (decide_eq_true rfl) (Y7 ?_);have e:bidV (zs.map (·.2)) gs c j z north r=.non:=by
    unfold bidV;by_cases he:YL (zs.map (·.2)) gs j z
    ·rw [if_pos he]
    ·rw [if_neg he,hd',if_neg (by cases r <;> decide)]
   rw [e] at q;exact q H1 e1
  | false =>
   have hd':decide (J5 (zs.map (·.2)) gs c j z r≤north)=!r:=by
    revert hd
    cases decide (J5 (zs.map (·.2)) gs c j z r≤north) <;> cases r <;> decide
   rw [hd'];refine Y0 (decide_eq_false (fun e=>by have:=YE (V.str.inj e); cases r <;> cases this)) ?_;refine ⟨_,rfl,k,_,dx,_,.ref b,rfl,e1 _ _ h1,T.JD,T.Yb,rfl,_,rfl,_,rfl,b,z,j,ps,zs,gs,rfl,tz,B.B.zl,(B.B.same e1).B,fun h=>absurd hz h,fun _ h=>absurd (by omega) h,fun _ _ H2 e2=>?_⟩;have e12:=e1.trans e2;by_cases he:YL (zs.map (·.2)) gs j z
   ·obtain ⟨y,hy⟩:=ev.1 he;rw [hy];have e:bidV (zs.map (·.2)) gs c j z north r=.non:=by unfold bidV; rw [if_pos he]
    rw [e] at q;exact ⟨_,rfl,Y7 (q H2 e12)⟩
   ·rw [ev.2 he];refine ⟨_,rfl,ZG ?_⟩;have hw:Js (zs.map (·.2)) z≠[]:=fun h=>he (.inr (.inr h))
    obtain ⟨i,rfl⟩:∃ i,j=i + 1:=⟨j - 1,by have:j≠0:=fun h=>he (.inr (.inl h)); omega⟩
    have e:bidV (zs.map (·.2)) gs c (i + 1) z north r=.int (Jiu (Js (zs.map (·.2))) (gB gs) c i z north r):=by unfold bidV; rw [if_neg he,hd',if_pos rfl]; rfl
    rw [e] at q;refine ⟨_,rfl,rfl,_,rfl,?_⟩;cases r with
    | false =>
     refine Z7 (by decide +kernel) ?_;refine ⟨_,rfl,k,dx,_,rfl,e12 _ _ h1,rfl,_,rfl,_,rfl,k,b,z,i,ps,zs,gs,c,t,t + 1,rfl,B.same e12,by omega,hz,hw,fun H3 e3=>?_⟩;exact ⟨_,rfl,_,_,rfl,rfl,_,_,rfl,q H3 (e12.trans e3)⟩
    | true =>
     refine Y0 (by decide +kernel) ?_;refine ⟨_,rfl,_,rfl,k,dx,_,rfl,e12 _ _ h1,rfl,_,rfl,_,rfl,k,b,z,i,ps,zs,gs,c,t,t + 1,rfl,B.same e12,by omega,hz,hw,fun H3 e3=>?_⟩;exact ⟨_,_,rfl,rfl,_,_,rfl,rfl,_,_,rfl,q H3 (e12.trans e3)⟩
theorem Jba (T:Txt K mg):JM P w K mg base (Y4 P w) 5 T.JbD T.Jbf ["self", "place", "turns", "north", "ribbon", "hand"] (Jjh K T.JC T.Jz T.Yu T.JW T.YQ):=by
 refine T.YF.F.ok1 Jc4 (fun vs H Q E h=>?_) (fun cdv A outer s H vs Q E hr h=>?_)
 ·obtain ⟨_,_,_,_,_,_,_,_,_,_,_,_,rfl,_⟩:=h;rfl
 ·obtain ⟨k,b,z,x,y,m,north,ps,zs,gs,c,t,rfl,tz,tx,ty,B,qe,qh,q⟩:=h;refine ⟨_,(@Jd _ _ _ _ _ (@Jy _ _ _ _ (@JS _ _ _ _ _ _ _ _ _ _ _ _ _ _ _ _ _ _ _ _ (@pv _ 0 _ _ rfl (.inl rfl) rfl rfl) T.JD T.J1.m (Zn T) (hr.mono (by decide)) T.J1.b .nil Yy (@Ja _ _ _ _ _ (@pv _ 1 _ _ rfl (.inl rfl) rfl rfl) (@Ja _ _ _ _ _ (@pv _ 2 _ _ rfl (.inl rfl) rfl rfl) (@Ja _ _ _ _ _ (@pv _ 3 _ _ rfl (.inl rfl) rfl rfl) (@Ja _ _ _ _ _ (@pv _ 4 _ _ rfl (.inl rfl) rfl rfl) (@Jc _) rfl) rfl) rfl) rfl) rfl rfl rfl) rfl) (@Jd _ _ _ _ _ (@Jy _ _ _ _ (@Jp _ _ _ _ _ _ _ _ _ _ _ _ _ _ _ T.Jaw (JbV T) (hr.mono (by decide)) Yy (@Ja _ _ _ _ _ (@pv _ 5 _ _ rfl (.inl rfl) rfl rfl) (@Jc _) rfl) rfl (by decide) rfl rfl) rfl) (@Jd _ _ _ _ _ (@JN _ _ _ _ _ _ _ _ (@Jd2 _ _ _ _ _ _ (@Jds _ _ _ _ _ (@Jp _ _ _ _ _ _ _ _ _ _ _ _ _ _ _ T.Jcs (JdL T) (hr.mono (by decide)) YY (@Ja _ _ _ _ _ (@Yg _ _ _ _ _ (@pv _ 0 _ _ rfl (.inl rfl) rfl rfl) rfl) (@Ja _ _ _ _ _ (@pv _ 1 _ _ rfl (.inl rfl) rfl rfl) (@Ja _ _ _ _ _ (@pv _ 2 _ _ rfl (.inl rfl) rfl rfl) (@Jc _) rfl) rfl) rfl) rfl (by decide) rfl rfl)) (by first | exact ZA _ (by decide) (by decide) | rfl)) (@Jh _ _ _ (@JA _ _ _ _ (@JcJ _ _ _))) (@Jw _)) (@Jd _ _ _ _ _ (@YH _ _ _ _ _ _ _ _ PassesOwn.leaving rfl (@JcI _ _ _ _ (@JS _ _ _ _ _ _ _ _ _ _ _ _ _ _ _ _ _ _ _ _ (@Yg _ _ _ _ _ (@pv _ 0 _ _ rfl (.inl rfl) rfl rfl) rfl) T.Yo T.Yx.m (JaT T) (hr.mono (by decide)) T.Yx.b .nil YY (@Ja _ _ _ _ _ (@pv _ 1 _ _ rfl (.inl rfl) rfl rfl) (@Jc _) rfl) rfl rfl rfl)) (@Yj _ _ 6 _ Jc4.nd rfl (Or.inl rfl) (.inl rfl)) (@Jh _ _ _ (@JN _ _ _ _ _ _ _ _ (@Jr _ _ _ _ _ _ _ _ (@Yi _) (@JS _ _ _ _ _ _ _ _ _ _ _ _ _ _ _ _ _ _ _ _ (@pv _ 0 _ _ rfl (.inl rfl) rfl rfl) T.JD T.YR.m (Jbr T) (hr.mono (by decide)) T.YR.b .nil YY (@Ja _ _ _ _ _ (@pv _ 6 _ _ rfl (.inl rfl) rfl rfl) (@Ja _ _ _ _ _ (@Ji _ _ _ _ _ _ _ _ (@Y3 _) (@pv _ 2 _ _ rfl (.inl rfl) rfl rfl) (@Jb _ _ _ _)) (@Ja _ _ _ _ _ (@pv _ 3 _ _ rfl (.inl rfl) rfl rfl) (@Ja _ _ _ _ _ (@pv _ 4 _ _ rfl (.inl rfl) rfl rfl) (@Jc _) rfl) rfl) rfl) rfl) rfl rfl rfl) (@pv _ 5 _ _ rfl (.inl rfl) rfl rfl) (JB _)) (@Jh _ _ _ (@JA _ _ _ _ (@pv _ 6 _ _ rfl (.inl rfl) rfl rfl))) (@Jw _))) (by intro _; rfl)) (@Jh _ _ _ (@JA _ _ _ _ (@JcJ _ _ _))))))),?_⟩;obtain ⟨dx,l,rs,h1,h2,h3,h4⟩:=B.at_;refine ⟨_,rfl,k,dx,_,rfl,h1,rfl,_,rfl,_,rfl,_,rfl,_,rfl,k,b,z,x,m,north,ps,zs,gs,c,t,rfl,tz,tx,B,qe,fun hok=>?_⟩;refine ⟨_,rfl,y,rfl,ty,fun hy=>?_,qh hok⟩;obtain ⟨hz,hm,hn,hx⟩:=hok;obtain ⟨r,rfl⟩:=Jcq hx;obtain ⟨h,rfl⟩:=Jcq hy;obtain ⟨j,rfl⟩:∃ j:Nat,m=(j:Int):=⟨m.toNat,by omega⟩
  have q:=fun H' e=>q hz hm hn r h rfl rfl H' e
  simp only [Int.toNat_natCast] at q;have t1:=B.t1;have ev:=Jfm (z:=z) (m:=j) (zs:=zs.map (·.2)) (gs:=gs);refine ⟨_,rfl,k,_,dx,_,.ref b,rfl,h1,T.JD,T.Yb,rfl,_,rfl,_,rfl,b,z,j,ps,zs,gs,rfl,tz,B.B.zl,B.B.B,fun h=>absurd hz h,fun _ h=>absurd (by omega) h,fun _ _ H1 e1=>?_⟩;by_cases he:YL (zs.map (·.2)) gs j z
  ·obtain ⟨y,hy⟩:=ev.1 he;rw [hy];have e:stepV (zs.map (·.2)) gs c j z north r h=.non:=by unfold stepV; rw [if_pos he]
   rw [e] at q;exact ⟨_,rfl,Y7 (q H1 e1)⟩
  ·rw [ev.2 he];refine ⟨_,rfl,ZG ?_⟩;obtain ⟨i,rfl⟩:∃ i,j=i + 1:=⟨j - 1,by have:j≠0:=fun h=>he (.inr (.inl h)); omega⟩
   have e:stepV (zs.map (·.2)) gs c (i + 1) z north r h=Je7 (Jax (Js (zs.map (·.2))) (gB gs) c i z north r h):=by unfold stepV; rw [if_neg he]; rfl
   rw [e] at q;obtain ⟨bdx,tp,tl,tg,hb,_⟩:=id B.B.B;refine ⟨_,rfl,k,_,dx,_,.ref b,rfl,e1 _ _ h1,T.JD,T.Yb,rfl,b,bdx,_,rfl,e1 _ _ hb,rfl,_,rfl,b,z,ps,zs,gs,rfl,tz,B.B.zl,(B.B.same e1).B,fun _ tw H2 e2 ht=>?_,fun h=>absurd hz h⟩;have e12:=e1.trans e2;refine ⟨tw,rfl,⟨_,J0.of ht⟩,?_⟩;refine JeJ (xs:=(Js (zs.map (·.2)) z).map V.str) (fun n σ H3=>Jg H2 H3∧(∀ w∈(Js (zs.map (·.2)) z).take n,(decide (J5 (zs.map (·.2)) gs c i w r≤north) == h)=false)∧∃ v,σ=[some (.ref k),some (.str z),some (.int ((i:Int) + 1)),some (.int north),some (.str (hs r)),some (.str (hs h)),v]) ⟨Jg.refl _,fun w hw=>by simp at hw,none,rfl⟩ (fun n σ H3 _ p=>J0.of (p.1 _ _ ht)) ?_ ?_
   ·rintro n x σ H3 hx ⟨e3,hf,v,rfl⟩;rw [List.getElem?_map] at hx;obtain ⟨w',hw1,rfl⟩:=Option.map_eq_some_iff.mp hx;have hin:=Jew B.B.G (List.mem_of_getElem? hw1);have e13:=e12.trans e3;refine ⟨_,rfl,k,dx,_,rfl,e13 _ _ h1,rfl,_,rfl,_,rfl,_,_,rfl,rfl,_,rfl,_,rfl,k,b,w',hs r,(i:Int) + 1 - 1,north,ps,zs,gs,c,t,rfl,Yz (B.B.G.p3 w' hin),Zc r,B.same e13,ZL ⟨hin,⟨by omega,by omega⟩,hn,YD r⟩,fun _ _ _ r' hr' H4 e4=>?_⟩;obtain rfl:=YE hr';have ei:((i:Int) + 1 - 1).toNat=i:=by omega
    rw [ei];refine ⟨_,rfl,rfl,_,rfl,?_⟩;cases hd:decide (J5 (zs.map (·.2)) gs c i w' r≤north) == h with
    | true =>
     have hd':decide (J5 (zs.map (·.2)) gs c i w' r≤north)=h:=by simpa using hd
     rw [hd'];refine Z7 (decide_eq_true rfl) ⟨_,rfl,?_⟩;have es:Jax (Js (zs.map (·.2))) (gB gs) c i z north r h=some w':=JiX hw1 hf hd;rw [es] at q;exact q H4 (e13.trans e4)
    | false =>
     refine Y0 (decide_eq_false fun e=>?_) ⟨e3.trans e4,fun w hw=>?_,_,rfl⟩
     ·rw [YE (V.str.inj e)] at hd;simp at hd
     ·rw [List.take_succ,hw1] at hw;rcases List.mem_append.mp hw with h' | h'
      ·exact hf w h'
      ·have h':w=w':=by simpa using h'
       subst h';exact hd
   ·rintro σ H3 ⟨e3,hf,v,rfl⟩;rw [List.length_map,List.take_length] at hf;have es:Jax (Js (zs.map (·.2))) (gB gs) c i z north r h=none:=by
     unfold Jax;rw [List.find?_eq_none];intro w hw;rw [hf w hw]; exact Bool.false_ne_true
    rw [es] at q;exact q H3 (e12.trans e3)
theorem JdW (T:Txt K mg):JM P w K mg base Zk 6 T.Jau T.ZY ["self", "place", "turns", "settled", "holder"] (Jlq K T.JC T.Jz):=by
 refine T.Zz.F.ok ZV (fun vs H Q E h=>?_) (fun cdv A outer s H vs Q E hr h=>?_)
 ·obtain ⟨_,_,_,_,_,_,_,_,_,_,_,_,_,_,_,rfl,_⟩:=h;rfl
 ·obtain ⟨k,b,p,z,m,l,r,h,n,s',ps,zs,gs,c,t,rfl,hp,B,hz,hm,hn,he,q⟩:=h;refine ⟨_,(@Jd _ _ _ _ _ (@Ju _ _ 5 _ _ _ _ ZV.nd rfl (Or.inl rfl) (@JG _ _ _ _ _ _ _ (@Zy _) (@pv _ 3 _ _ rfl (.inl rfl) rfl rfl) (@Jb _ _ _ _) (fun _ _=>rfl)) rfl (.inl rfl)) (@Jd _ _ _ _ _ (@Ju _ _ 6 _ _ _ _ ZV.nd rfl (Or.inl rfl) (@JS _ _ _ _ _ _ _ _ _ _ _ _ _ _ _ _ _ _ _ _ (@pv _ 0 _ _ rfl (.inl rfl) rfl rfl) T.JD T.YF.m (Jba T) (hr.mono (by decide)) T.YF.b .nil YY (@Ja _ _ _ _ _ (@pv _ 1 _ _ rfl (.inl rfl) rfl rfl) (@Ja _ _ _ _ _ (@pv _ 2 _ _ rfl (.inl rfl) rfl rfl) (@Ja _ _ _ _ _ (@JG _ _ _ _ _ _ _ (@Zy _) (@pv _ 3 _ _ rfl (.inl rfl) rfl rfl) (@Jb _ _ _ _) (fun _ _=>rfl)) (@Ja _ _ _ _ _ (@JG _ _ _ _ _ _ _ (@Zy _) (@pv _ 3 _ _ rfl (.inl rfl) rfl rfl) (@Jb _ _ _ _) (fun _ _=>rfl)) (@Ja _ _ _ _ _ (@pv _ 5 _ _ rfl (.inl rfl) rfl rfl) (@Jc _) rfl) rfl) rfl) rfl) rfl) rfl rfl rfl) rfl (.inl rfl)) (@Jd _ _ _ _ _ (@JN _ _ _ _ _ _ _ _ (@Jr _ _ _ _ _ _ _ _ (@Yi _) (@pv _ 5 _ _ rfl (.inl rfl) rfl rfl) (@pv _ 4 _ _ rfl (.inl rfl) rfl rfl) (JB _)) (@Jh _ _ _ (@JA _ _ _ _ (@Jh1 _ _ _ _ _ _ (@Jds _ _ _ _ _ (@pv _ 6 _ _ rfl (.inl rfl) rfl rfl)) (by first | exact ZA _ (by decide) (by decide) | rfl)))) (@Jw _)) (@Jh _ _ _ (@JA _ _ _ _ (@Jh1 _ _ _ _ _ _ (@Jh3 _ _ _ _ _ (@pv _ 6 _ _ rfl (.inl rfl) rfl rfl)) (by first | exact ZA _ (by decide) (by decide) | rfl))))))),?_⟩;obtain ⟨dx,l',rs,h1,h2,h3,h4⟩:=B.at_;refine ⟨_,rfl,p,_,_,.str (hs l),rfl,rfl,J0.of hp,rfl,?_⟩;refine ⟨_,rfl,k,dx,_,rfl,h1,rfl,_,rfl,_,rfl,_,rfl,p,_,_,.int n,rfl,rfl,J0.of hp,rfl,_,rfl,p,_,_,.str (hs r),rfl,rfl,J0.of hp,rfl,_,rfl,?_⟩;refine ⟨k,b,z,hs r,hs l,(m:Int) + 1,n,ps,zs,gs,c,t,rfl,Yz (B.B.G.p3 z hz),Zc r,Zc l,B,ZL ⟨hz,⟨by omega,by omega⟩,hn,YD r⟩,fun _ h=>(by rw [YD] at h; cases h),fun _ _ _ r' l'' hr' hl' H1 e1=>?_⟩;obtain rfl:=YE hr';obtain rfl:=YE hl';have ei:((m:Int) + 1).toNat=m + 1:=by omega
  have es:stepV (zs.map (·.2)) gs c ((m:Int) + 1).toNat z n r l=Je7 (Jax (Js (zs.map (·.2))) (gB gs) c m z n r l):=by rw [ei]; unfold stepV; rw [if_neg he]; rfl
  rw [es];have q:=q H1 e1;refine ⟨_,rfl,_,rfl,rfl,_,rfl,?_⟩;cases hs':Jax (Js (zs.map (·.2))) (gB gs) c m z n r l with
  | none =>
   rw [hs'] at q;by_cases hlh:l=h
   ·subst hlh;refine Z7 (decide_eq_true rfl) ⟨_,rfl,?_⟩;simpa [Je7] using q
   ·refine Y0 (decide_eq_false fun e=>hlh (YE (V.str.inj e))) ⟨_,rfl,?_⟩;have:(l == h)=false:=by simpa using hlh
    rw [this] at q;simpa [Je7] using q
  | some w' =>
   rw [hs'] at q;by_cases hlh:l=h
   ·subst hlh;refine Z7 (decide_eq_true rfl) ⟨_,rfl,?_⟩;simpa [Je7] using q
   ·refine Y0 (decide_eq_false fun e=>hlh (YE (V.str.inj e))) ⟨_,rfl,?_⟩;have:(l == h)=false:=by simpa using hlh
    rw [this] at q;simpa [Je7] using q
theorem JeR (T:Txt K mg):JM P w K mg base (Y4 P w) 7 T.Ja0 T.JaL ["self", "place", "turns", "north", "ribbon", "bid"] (JhJ K T.JC T.Jz T.Yu T.JW T.YQ T.Jbu):=by
 refine T.ZP.F.ok1 JaI (fun vs H Q E h=>?_) (fun cdv A outer s H vs Q E hr h=>?_)
 ·obtain ⟨_,_,_,_,_,_,_,_,_,_,_,_,rfl,_⟩:=h;rfl
 ·obtain ⟨k,b,z,x,m,north,bid,ps,zs,gs,c,t,rfl,tz,tx,B,qe,qb,q⟩:=h;refine ⟨_,(@Jd _ _ _ _ _ (@Jy _ _ _ _ (@JS _ _ _ _ _ _ _ _ _ _ _ _ _ _ _ _ _ _ _ _ (@pv _ 0 _ _ rfl (.inl rfl) rfl rfl) T.JD T.J1.m (Zn T) (hr.mono (by decide)) T.J1.b .nil Yy (@Ja _ _ _ _ _ (@pv _ 1 _ _ rfl (.inl rfl) rfl rfl) (@Ja _ _ _ _ _ (@pv _ 2 _ _ rfl (.inl rfl) rfl rfl) (@Ja _ _ _ _ _ (@pv _ 3 _ _ rfl (.inl rfl) rfl rfl) (@Ja _ _ _ _ _ (@pv _ 4 _ _ rfl (.inl rfl) rfl rfl) (@Jc _) rfl) rfl) rfl) rfl) rfl rfl rfl) rfl) (@Jd _ _ _ _ _ (@Ju _ _ 6 _ _ _ _ JaI.nd rfl (Or.inl rfl) (@Ji _ _ _ _ _ _ _ _ (@Y3 _) (@Yg _ _ _ _ _ (@pv _ 0 _ _ rfl (.inl rfl) rfl rfl) rfl) (@pv _ 3 _ _ rfl (.inl rfl) rfl rfl)) rfl (.inl rfl)) (@Jd _ _ _ _ _ (@Jy _ _ _ _ (@Jp _ _ _ _ _ _ _ _ _ _ _ _ _ _ _ T.JaR (JcL T) (hr.mono (by decide)) Yy (@Ja _ _ _ _ _ (@pv _ 5 _ _ rfl (.inl rfl) rfl rfl) (@Ja _ _ _ _ _ (@Jp _ _ _ _ _ _ _ _ _ _ _ _ _ _ _ T.JaE (JbI T) (hr.mono (by decide)) JK (@Ja _ _ _ _ _ (@Jp _ _ _ _ _ _ _ _ _ _ _ _ _ _ _ T.JeP (Jh7 T) (hr.mono (by decide)) YY (@Ja _ _ _ _ _ (@pv _ 4 _ _ rfl (.inl rfl) rfl rfl) (@Jc _) rfl) rfl (by decide) rfl rfl) (@Ja _ _ _ _ _ (@pv _ 3 _ _ rfl (.inl rfl) rfl rfl) (@Ja _ _ _ _ _ (@pv _ 6 _ _ rfl (.inl rfl) rfl rfl) (@Jc _) rfl) rfl) rfl) rfl (by decide) rfl rfl) (@Jc _) rfl) rfl) rfl (by decide) rfl rfl) rfl) (@Jd _ _ _ _ _ (@JN _ _ _ _ _ _ _ _ (@Jd2 _ _ _ _ _ _ (@Jds _ _ _ _ _ (@Jp _ _ _ _ _ _ _ _ _ _ _ _ _ _ _ T.Jcs (JdL T) (hr.mono (by decide)) YY (@Ja _ _ _ _ _ (@Yg _ _ _ _ _ (@pv _ 0 _ _ rfl (.inl rfl) rfl rfl) rfl) (@Ja _ _ _ _ _ (@pv _ 1 _ _ rfl (.inl rfl) rfl rfl) (@Ja _ _ _ _ _ (@pv _ 2 _ _ rfl (.inl rfl) rfl rfl) (@Jc _) rfl) rfl) rfl) rfl (by decide) rfl rfl)) (by first | exact ZA _ (by decide) (by decide) | rfl)) (@Jh _ _ _ (@JA _ _ _ _ (@JcJ _ _ _))) (@Jw _)) (@Jd _ _ _ _ _ (@YH _ _ _ _ _ _ _ _ PassesOwn.leaving rfl (@JcI _ _ _ _ (@YI _ _ _ _ _ (@Ja _ _ _ _ _ (@Jb _ _ _ _) (@Ja _ _ _ _ _ (@pv _ 5 _ _ rfl (.inl rfl) rfl rfl) (@Jc _) rfl) rfl))) (@Yj _ _ 7 _ JaI.nd rfl (Or.inl rfl) (.inl rfl)) (@Jh _ _ _ (@JN _ _ _ _ _ _ _ _ (@Jr _ _ _ _ _ _ _ _ (@JoG _) (@pv _ 7 _ _ rfl (.inl rfl) rfl rfl) (@Jp _ _ _ _ _ _ _ _ _ _ _ _ _ _ _ T.JaE (JbI T) (hr.mono (by decide)) JK (@Ja _ _ _ _ _ (@pv _ 4 _ _ rfl (.inl rfl) rfl rfl) (@Ja _ _ _ _ _ (@pv _ 3 _ _ rfl (.inl rfl) rfl rfl) (@Ja _ _ _ _ _ (@pv _ 6 _ _ rfl (.inl rfl) rfl rfl) (@Jc _) rfl) rfl) rfl) rfl (by decide) rfl rfl) (JB _)) (@Jh _ _ _ (@JN _ _ _ _ _ _ _ _ (@JcF _ _ _ (@JS _ _ _ _ _ _ _ _ _ _ _ _ _ _ _ _ _ _ _ _ (@pv _ 0 _ _ rfl (.inl rfl) rfl rfl) T.JD T.Zz.m (JdW T) (hr.mono (by decide)) T.Zz.b .nil JK (@Ja _ _ _ _ _ (@pv _ 1 _ _ rfl (.inl rfl) rfl rfl) (@Ja _ _ _ _ _ (@pv _ 2 _ _ rfl (.inl rfl) rfl rfl) (@Ja _ _ _ _ _ (@Jp _ _ _ _ _ _ _ _ _ _ _ _ _ _ _ T.Jfr (Jkl T) (hr.mono (by decide)) YY (@Ja _ _ _ _ _ (@pv _ 3 _ _ rfl (.inl rfl) rfl rfl) (@Ja _ _ _ _ _ (@pv _ 6 _ _ rfl (.inl rfl) rfl rfl) (@Ja _ _ _ _ _ (@pv _ 4 _ _ rfl (.inl rfl) rfl rfl) (@Ja _ _ _ _ _ (@pv _ 5 _ _ rfl (.inl rfl) rfl rfl) (@Ja _ _ _ _ _ (@pv _ 7 _ _ rfl (.inl rfl) rfl rfl) (@Jc _) rfl) rfl) rfl) rfl) rfl) rfl (by decide) rfl rfl) (@Ja _ _ _ _ _ (@pv _ 4 _ _ rfl (.inl rfl) rfl rfl) (@Jc _) rfl) rfl) rfl) rfl) rfl rfl rfl) (by intro _; rfl)) (@Jh _ _ _ (@JA _ _ _ _ (@pv _ 7 _ _ rfl (.inl rfl) rfl rfl))) (@Jw _))) (@Jw _))) (by intro _; rfl)) (@Jh _ _ _ (@JA _ _ _ _ (@JcJ _ _ _)))))))),?_⟩
  try dsimp only [cxK,Jeo]
  obtain ⟨dx,l,rs,h1,h2,h3,h4⟩:=B.at_;refine ⟨_,rfl,k,dx,_,rfl,h1,rfl,_,rfl,_,rfl,_,rfl,_,rfl,k,b,z,x,m,north,ps,zs,gs,c,t,rfl,tz,tx,B,qe,fun hok=>?_⟩;obtain ⟨hz,hm,hn,hx⟩:=hok;obtain ⟨r,rfl⟩:=Jcq hx;obtain ⟨j,rfl⟩:∃ j:Nat,m=(j:Int):=⟨m.toNat,by omega⟩
  have qb:=qb hz hm hn r rfl;have q:=fun hb H' e=>q hz hm hn r rfl hb H' e
  simp only [Int.toNat_natCast] at q;have t1:=B.t1;have c1:=B.c1;have ev:=Jfm (z:=z) (m:=j) (zs:=zs.map (·.2)) (gs:=gs);have eo:∀ r:Bool,(if r then north else c - north)=own c north r:=fun r=>rfl
  refine ⟨_,rfl,k,_,dx,_,.int c,rfl,h1,T.JD,T.Y6,rfl,_,rfl,_,_,rfl,rfl,?_⟩;refine ⟨_,rfl,_,rfl,hs r,rfl,Zc r,fun r' hr'=>?_,fun h=>by rw [YD] at h; cases h⟩;obtain rfl:=YE hr';refine ⟨_,rfl,_,rfl,!r,north,c - north,rfl,bid,_,rfl,fun hb=>?_,qb⟩;have q:=q hb;have hb:0≤bid∧bid≤own c north (!r):=hb;refine ⟨_,rfl,k,_,dx,_,.ref b,rfl,h1,T.JD,T.Yb,rfl,_,rfl,_,rfl,b,z,j,ps,zs,gs,rfl,tz,B.B.zl,B.B.B,fun h=>absurd hz h,fun _ h=>absurd (by omega) h,fun _ _ H1 e1=>?_⟩;by_cases he:YL (zs.map (·.2)) gs j z
  ·obtain ⟨y,hy⟩:=ev.1 he;rw [hy];have e:ansV (zs.map (·.2)) gs c j z north r bid=.non:=by unfold ansV; rw [if_pos he]
   rw [e] at q;exact ⟨_,rfl,Y7 (q H1 e1)⟩
  ·rw [ev.2 he];refine ⟨_,rfl,ZG ?_⟩;obtain ⟨i,rfl⟩:∃ i,j=i + 1:=⟨j - 1,by have:j≠0:=fun h=>he (.inr (.inl h)); omega⟩
   have e:ansV (zs.map (·.2)) gs c (i + 1) z north r bid=JnS (JcX (Js (zs.map (·.2))) (gB gs) c i z north r bid):=by unfold ansV; rw [if_neg he]; rfl
   rw [e] at q;have hon:0≤own c north r:=by unfold own; split <;> omega
   refine ⟨_,rfl,by show 2≤sizeLine; decide,fun tp ntp=>⟨tp,rfl,⟨_,J0.of Jf⟩,?_⟩⟩;have ht:upd H1 tp (.tup [.int 0,.int bid]) tp=some (.tup [.int 0,.int bid]):=Jf;have e2:=e1.trans (Jg.upd (o:=.tup [.int 0,.int bid]) ntp);generalize upd H1 tp (.tup [.int 0,.int bid])=H2 at ht e2;refine JeJ (xs:=[.int 0,.int bid]) (fun n σ H3=>Jg H H3∧H3 tp=some (.tup [.int 0,.int bid])∧(0 < n→¬ Ja4 (Js (zs.map (·.2))) (gB gs) c i z north r bid 0=true)∧(1 < n→¬ (bid≤own c north r∧Ja4 (Js (zs.map (·.2))) (gB gs) c i z north r bid bid=true))∧∃ v,σ=[some (.ref k),some (.str z),some (.int ((i:Int) + 1)),some (.int north),some (.str (hs r)),some (.int bid),some (.int (c - north)),v])
    ⟨e2,ht,fun h=>absurd h (by decide),fun h=>absurd h (by decide),none,rfl⟩ (fun n σ H3 _ p=>J0.of p.2.1) ?_ ?_
   ·rintro n x σ H3 hx ⟨e3,ht3,hf0,hf1,v,rfl⟩;obtain ⟨an,rfl,han⟩:∃ an:Int,x=.int an∧((n=0∧an=0)∨(n=1∧an=bid)):=by
     match n,hx with
     | 0,h=>exact ⟨0,(Option.some.inj h).symm,.inl ⟨rfl,rfl⟩⟩
     | 1,h=>exact ⟨bid,(Option.some.inj h).symm,.inr ⟨rfl,rfl⟩⟩
     | n + 2,h=>cases h
    have ha0:0≤an:=by rcases han with h | h <;> omega
    refine ⟨_,rfl,_,rfl,_,rfl,_,rfl,r,north,c - north,rfl,_,_,rfl,rfl,_,rfl,Yr (fun hc=>?_) (fun hc=>?_)⟩
    ·have hc:an≤own c north r:=of_decide_eq_true hc;refine ⟨_,rfl,k,dx,_,rfl,e3 _ _ h1,rfl,_,rfl,_,rfl,_,rfl,_,rfl,_,rfl,_,rfl,_,rfl,north,c - north,hs r,bid,an,rfl,Zc r,?_,?_,?_,?_⟩
     ·exact fun h=>absurd ⟨hn.1,by omega,by omega⟩ h
     ·exact fun _ h=>(by rw [YD] at h; cases h)
     ·intro r' hr' _ h;obtain rfl:=YE hr';refine absurd ⟨⟨hb.1,?_⟩,ha0,hc⟩ h;have:=hb.2; unfold own at this; cases r <;> simpa using this
     ·intro r' hr' _ _ p H4 e4 hp;obtain rfl:=YE hr';obtain ⟨s',hs'⟩:=Jjr north (c - north) r bid an;rw [hs'] at hp;have ab:=Jmk (r:=r) hn hb.1 hb.2 ha0 hc;refine ⟨_,rfl,k,b,p,z,i,_,_,r,_,s',ps,zs,gs,c,t,rfl,hp,B.same (e3.trans e4),hz,by omega,ab,he,fun H5 e5=>?_⟩;have e35:=(e3.trans e4).trans e5;cases hwin:Ja4 (Js (zs.map (·.2))) (gB gs) c i z north r bid an with
      | true =>
       have hwin':=hwin;unfold Ja4 at hwin';rw [hwin'];refine ⟨_,rfl,Y7 ⟨_,rfl,?_⟩⟩;have ea:JcX (Js (zs.map (·.2))) (gB gs) c i z north r bid=some an:=by
        unfold JcX;rcases han with ⟨rfl,rfl⟩ | ⟨rfl,rfl⟩
        ·rw [if_pos hwin]
        ·rw [if_neg (hf0 (by decide)),if_pos ⟨hc,hwin⟩]
       rw [ea] at q;exact q H5 e35
      | false =>
       have hwin':=hwin;unfold Ja4 at hwin';rw [hwin'];refine ⟨_,rfl,ZG ⟨e35,e5 _ _ (e4 _ _ ht3),fun h=>?_,fun h=>?_,_,rfl⟩⟩
       ·rcases han with ⟨rfl,rfl⟩ | ⟨rfl,rfl⟩
        ·rw [hwin]; exact Bool.false_ne_true
        ·exact hf0 (by decide)
       ·rcases han with ⟨rfl,rfl⟩ | ⟨rfl,rfl⟩
        ·exact absurd h (by decide)
        ·rw [hwin]; exact fun h=>Bool.false_ne_true h.2
    ·have hc:¬ an≤own c north r:=fun h=>hc (decide_eq_true h)
     refine ⟨e3,ht3,fun h=>?_,fun h=>?_,_,rfl⟩
     ·rcases han with ⟨rfl,rfl⟩ | ⟨rfl,rfl⟩
      ·exact absurd hon hc
      ·exact hf0 (by decide)
     ·rcases han with ⟨rfl,rfl⟩ | ⟨rfl,rfl⟩
      ·exact absurd h (by decide)
      ·exact fun h=>hc h.1
   ·rintro σ H3 ⟨e3,ht3,hf0,hf1,v,rfl⟩;have ea:JcX (Js (zs.map (·.2))) (gB gs) c i z north r bid=none:=by
     rw [Jk5];exact ⟨hf0 (by show 0 < 2; decide),hf1 (by show 1 < 2; decide)⟩
    rw [ea] at q;exact q H3 e3
end
def Jlg:Sp:=fun vs H Q _=>∃ c:Int,vs=[.int c]∧∀ (n:Int) (H':Hp),0≤n→n≤20→Jg H H'→Q (.int n) H'
def JmS:Sp:=fun vs H Q _=>∃ c:Int,vs=[.int c]∧∀ (n:Int) (H':Hp),0≤n→n≤30→Jg H H'→Q (.int n) H'
theorem JmD {xs:List Int} (hl:xs.length=8) (hb:∀ x∈xs,0≤x∧x≤20) (c:Int):∃ y:Int,atI (xs.map V.int) (c % 8)=some (.int y)∧0≤y∧y≤20:=by
 obtain ⟨j,hj⟩:∃ j:Nat,c % 8=(j:Int):=⟨(c % 8).toNat,by omega⟩
 have hj8:j < xs.length:=by omega
 refine ⟨xs[j],?_,hb _ (List.getElem_mem hj8)⟩;rw [hj];refine ZU ?_;rw [List.getElem?_map,List.getElem?_eq_getElem hj8];rfl
section
variable {K:PySem.W.Frag} {C CB:Addr} {H:Hp} {σ:St} {i j l:Nat} {E:XK} {Q:VK}
theorem JfK {H4:Hp} {l1 l2 l3 x dx:Addr} {ps:List Str} {zs:List (V×(Str×Str))} {gs:List Str} (e4:Jg H H4) (k1:H4 l1=some (.lst (ps.map V.str))) (k2:H4 l2=some (.lst (zs.map (·.1)))) (k3:H4 l3=some (.lst (gs.map V.str))) (hP:Yd K H4 zs) (G:Ja1 ps (zs.map (·.2)) gs)
  (nx:H4 x=none) (ndx:H4 dx=none) (q:∀ ps' zs' gs' H',Jg H H'→Bd K C H' x ps' zs' gs'→ps'.Perm ps→ps'.Pairwise sle→zs'.Perm zs→(zs'.map (·.2)).Pairwise ple→gs'.Perm gs→gs'.Pairwise sle→Q .non H') :
  JiK K C (.ref x :: ([.ref l1,.ref l2,.ref l3] ++ [])) (upd (upd H4 dx (.own x)) x (.ins C dx [])) Q E:=by
 have e5:Jg H4 (upd (upd H4 dx (.own x)) x (.ins C dx [])):=fun b u e=>by
  rw [Jl (Jn e nx),Jl (Jn e ndx)]; exact e
 refine ⟨x,l1,l2,l3,dx,ps,zs,gs,rfl,Jf,Jq.of (e5 _ _ k1),Jq.of (e5 _ _ k2),Yh hP e5,Jq.of (e5 _ _ k3),G,fun H' ps' zs' gs' bt pp ps zp zs gp gs B=>q ps' zs' gs' H' (fun b u e=>?_) ⟨B,G.perm pp (zp.map _) gp⟩ pp ps zp zs gp gs⟩;have e6:=e4 b u e;exact bt b u (Jn e6 nx) (e5 b u e6)
theorem Jg4 {x0 x dx:Addr} {b:Addr} {ps:List Str} {zs:List (V×(Str×Str))} {gs:List Str} {c t:Int} (B:Bd K C H b ps zs gs) (hc:0≤c∧c≤20) (ht:0≤t∧t≤30)
  (nx:H x=none) (ndx:H dx=none) (q:∀ H',Jg H H'→Bk K C CB H' x b ps zs gs c t.toNat (t.toNat + 1)→Q .non H') :
  JhI K C CB x0 (.ref x :: ([.ref b,.int c,.int t] ++ [])) (upd (upd H dx (.own x)) x (.ins CB dx [])) Q E:=by
 have e5:Jg H (upd (upd H dx (.own x)) x (.ins CB dx [])):=fun b u e=>by
  rw [Jl (Jn e nx),Jl (Jn e ndx)]; exact e
 obtain ⟨bdx,_,_,_,hb,_⟩:=id B.B;refine ⟨x,b,dx,c,t,ps,zs,gs,rfl,Jf,(fun e=>by rw [← e,nx] at hb; cases hb),B.same e5,fun h=>absurd hc h,fun _ h=>absurd ht h,fun _ _ H' bt Bk'=>q H' (fun b u e=>?_) Bk'⟩;exact bt b u (Jn e nx) (e5 b u e)
theorem Bk.ins {k b:Addr} {ps:List Str} {zs:List (V×(Str×Str))} {gs:List Str} {c:Int} {t n:Nat} (h:Bk K C CB H k b ps zs gs c t n):∃ dx l,H k=some (.ins CB dx [("board",.ref b),("coins",.int c),("turns",.int t),("needs",.ref l)]):=let ⟨dx,l,_,h1,_⟩:=h.at_; ⟨dx,l,h1⟩
end
theorem JdC {zs zs':List (Str×Str)} (h:zs'.Perm zs) (p:Str):(Js zs' p).Perm (Js zs p):=(h.filter _).map _
theorem JcN {x n:Int} (h:0 < n):0≤x % n∧x % n < n:=⟨Int.emod_nonneg _ (by omega),Int.emod_lt_of_pos _ h⟩
theorem Joe {ps:List Str} (h:1≤ps.length) (x:Int):∃ p,atI (ps.map V.str) (x % ((ps.map V.str).length:Int))=some (.str p)∧p∈ps:=by
 rw [List.length_map];have hb:=JcN (x:=x) (n:=(ps.length:Int)) (by omega);exact ⟨_,JfJ hb.1 hb.2,Jea hb.1 hb.2⟩
theorem JdX {zs:List (Str×Str)} (h:zs.Pairwise ple) (p:Str):(Js zs p).Pairwise sle:=by
 unfold Js;rw [List.pairwise_map];refine List.Pairwise.imp_of_mem ?_ (h.filter _);intro x y hx hy hxy;have e1:x.1=p:=of_decide_eq_true (List.mem_filter.mp hx).2;have e2:y.1=p:=of_decide_eq_true (List.mem_filter.mp hy).2;have z:(if y.1.cps.toList=x.1.cps.toList then decide (y.2.cps.toList < x.2.cps.toList) else decide (y.1.cps.toList < x.1.cps.toList))=false:=hxy;rw [if_pos (by rw [e1,e2])] at z;exact z
theorem Jng (r:Bool):inV (.str (hs r)) [.str "north",.str "south"]=true:=by cases r <;> decide +kernel
theorem Jnr {i:Nat} {y:V} (h:[V.str "north",V.str "south"][i]?=some y):∃ b:Bool,y=.str (hs b):=by
 match i,h with
 | 0,h=>exact ⟨true,(Option.some.inj h).symm⟩
 | 1,h=>exact ⟨false,(Option.some.inj h).symm⟩
 | i + 2,h=>cases h
def JeL:V→Bool
 | .non=>true
 | .int _=>true
 | .str _=>true
 | _=>false
def Jlf:Sp:=fun vs H Q _=>∃ i:Int,vs=[.int i]∧Q (.bl true) H
def Jln:Sp:=fun vs H Q _=>∃ x:V,vs=[x,x]∧JeL x=true∧Q (.bl true) H
section
variable {P:Program} {w:World} {K:PySem.W.Frag} {mg:Str→Option Value} {base:Heap}
theorem JlS (T:Txt K mg):JM P w K mg base Zk 1 T.Jgx T.Jfb ["_law_found"] Jlf:=by
 refine T.JgK.F.ok JlC (fun vs H Q E h=>?_) (fun cdv A outer s H vs Q E hr h=>?_)
 ·obtain ⟨i,rfl,_⟩:=h;rfl
 ·obtain ⟨i,rfl,q⟩:=h;refine ⟨_,(@Jh _ _ _ (@JA _ _ _ _ (@Jh2 _ _ _ _ _ _ _ (@JO _ _ _ _ _ _ _ _ _ (@JbK _) rfl T.Jal PyProof.Rows.boot_isinstance (@Ja _ _ _ _ _ (@pv _ 0 _ _ rfl (.inl rfl) rfl rfl) (@Ja _ _ _ _ _ (@JfC _ _ _ _ rfl T.Jjx PyProof.Rows.boot_int (by decide) (by decide)) (@Jc _) rfl) rfl) (by decide) (by decide) rfl rfl) (@Jh0 _ _ _ _ _ (@JnR _ _ _ _ (@JO _ _ _ _ _ _ _ _ _ (@JbK _) rfl T.Jal PyProof.Rows.boot_isinstance (@Ja _ _ _ _ _ (@pv _ 0 _ _ rfl (.inl rfl) rfl rfl) (@Ja _ _ _ _ _ (@JfC _ _ _ _ rfl T.Jkt PyProof.Rows.boot_bool (by decide) (by decide)) (@Jc _) rfl) rfl) (by decide) (by decide) rfl rfl)))))),?_⟩;refine ⟨_,rfl,_,_,_,_,rfl,⟨_,.inl rfl⟩,.int i,Jn2,_,rfl,Y7 ?_⟩;exact ⟨_,rfl,_,_,_,_,rfl,⟨_,.inl rfl⟩,.int i,Jn3,_,rfl,q⟩
theorem Jh8 (T:Txt K mg):JM P w K mg base Zk 2 T.JgC T.Jfg ["_law_found", "_law_due"] Jln:=by
 refine T.JeQ.F.ok JlF (fun vs H Q E h=>?_) (fun cdv A outer s H vs Q E hr h=>?_)
 ·obtain ⟨_,rfl,_⟩:=h;rfl
 ·obtain ⟨x,rfl,hx,q⟩:=h;refine ⟨_,(@Jd _ _ _ _ _ (@JN _ _ _ _ _ _ _ _ (@Jd2 _ _ _ _ _ _ (@Jh3 _ _ _ _ _ (@pv _ 1 _ _ rfl (.inl rfl) rfl rfl)) (by first | exact ZA _ (by decide) (by decide) | rfl)) (@Jh _ _ _ (@JA _ _ _ _ (@Jh1 _ _ _ _ _ _ (@Jh3 _ _ _ _ _ (@pv _ 0 _ _ rfl (.inl rfl) rfl rfl)) (by first | exact ZA _ (by decide) (by decide) | rfl)))) (@Jw _)) (@Jd _ _ _ _ _ (@JN _ _ _ _ _ _ _ _ (@JcF _ _ _ (@JO _ _ _ _ _ _ _ _ _ (@JbK _) rfl T.Jal PyProof.Rows.boot_isinstance (@Ja _ _ _ _ _ (@pv _ 1 _ _ rfl (.inl rfl) rfl rfl) (@Ja _ _ _ _ _ (@JfC _ _ _ _ rfl T.Jjv PyProof.Rows.boot_str (by decide) (by decide)) (@Jc _) rfl) rfl) (by decide) (by decide) rfl rfl) (by intro _; rfl)) (@Jh _ _ _ (@JA _ _ _ _ (@Jh2 _ _ _ _ _ _ _ (@JO _ _ _ _ _ _ _ _ _ (@JbK _) rfl T.Jal PyProof.Rows.boot_isinstance (@Ja _ _ _ _ _ (@pv _ 0 _ _ rfl (.inl rfl) rfl rfl) (@Ja _ _ _ _ _ (@JfC _ _ _ _ rfl T.Jjv PyProof.Rows.boot_str (by decide) (by decide)) (@Jc _) rfl) rfl) (by decide) (by decide) rfl rfl) (@Jh0 _ _ _ _ _ (@JeE _ _ _ _ _ _ _ _ (@Yi _) (@pv _ 0 _ _ rfl (.inl rfl) rfl rfl) (@pv _ 1 _ _ rfl (.inl rfl) rfl rfl) (JB _)))))) (@Jw _)) (@Jh _ _ _ (@JA _ _ _ _ (@Jh2 _ _ _ _ _ _ _ (@Jp _ _ _ _ _ _ _ _ _ _ _ _ _ _ _ T.JgK (JlS T) (hr.mono (by decide)) JK (@Ja _ _ _ _ _ (@pv _ 0 _ _ rfl (.inl rfl) rfl rfl) (@Jc _) rfl) rfl (by decide) rfl rfl) (@Jh0 _ _ _ _ _ (@JeE _ _ _ _ _ _ _ _ (@Yi _) (@pv _ 0 _ _ rfl (.inl rfl) rfl rfl) (@pv _ 1 _ _ rfl (.inl rfl) rfl rfl) (JB _)))))))),?_⟩;refine ⟨_,rfl,_,rfl,?_⟩;cases x with
  | non =>
   refine Z7 (by rfl) ⟨_,rfl,?_⟩;exact q
  | int i =>
   refine Y0 (by rfl) ⟨_,rfl,_,_,_,_,rfl,⟨_,.inl rfl⟩,.int i,Jn1,_,rfl,ZG ?_⟩;refine ⟨_,rfl,i,rfl,_,rfl,Y7 ⟨_,rfl,_,rfl,rfl,?_⟩⟩;rw [decide_eq_true rfl];exact q
  | str z =>
   refine Y0 (by rfl) ⟨_,rfl,_,_,_,_,rfl,⟨_,.inl rfl⟩,.str z,Jkz,_,rfl,Y7 ?_⟩;refine ⟨_,rfl,_,_,_,_,rfl,⟨_,.inl rfl⟩,.str z,Jkz,_,rfl,Y7 ⟨_,rfl,_,rfl,rfl,?_⟩⟩;rw [decide_eq_true rfl];exact q
  | _=>exact absurd hx Bool.false_ne_true
theorem JlT (T:Txt K mg):JM P w K mg base Zk 1 T.Jgy T.Jfc ["_law_cell"] Jlg:=by
 refine T.JgL.F.ok JlD (fun vs H Q E h=>?_) (fun cdv A outer s H vs Q E hr h=>?_)
 ·obtain ⟨_,rfl,_⟩:=h;rfl
 ·obtain ⟨c,rfl,q⟩:=h;refine ⟨_,(@Jd _ _ _ _ _ (@JN _ _ _ _ _ _ _ _ (@Jr _ _ _ _ _ _ _ _ (@Yi _) (@Ji _ _ _ _ _ _ _ _ (@JL _) (@Ji _ _ _ _ _ _ _ _ (@Yq _) (@pv _ 0 _ _ rfl (.inl rfl) rfl rfl) (@Jb _ _ _ _)) (@Jb _ _ _ _)) (@Jb _ _ _ _) (JB _)) (@Jh _ _ _ (@JA _ _ _ _ (@Ji _ _ _ _ _ _ _ _ (@JL _) (@Ji _ _ _ _ _ _ _ _ (@Yq _) (@pv _ 0 _ _ rfl (.inl rfl) rfl rfl) (@Jb _ _ _ _)) (@Jb _ _ _ _)))) (@Jw _)) (@Jh _ _ _ (@JA _ _ _ _ (@JG _ _ _ _ _ _ _ (@JH _) (@YC _ _ _ _ (@Ja _ _ _ _ _ (@Jb _ _ _ _) (@Ja _ _ _ _ _ (@Jb _ _ _ _) (@Ja _ _ _ _ _ (@Jb _ _ _ _) (@Ja _ _ _ _ _ (@Jb _ _ _ _) (@Ja _ _ _ _ _ (@Jb _ _ _ _) (@Ja _ _ _ _ _ (@Jb _ _ _ _) (@Ja _ _ _ _ _ (@Jb _ _ _ _) (@Ja _ _ _ _ _ (@Jb _ _ _ _) (@Jc _) rfl) rfl) rfl) rfl) rfl) rfl) rfl) rfl)) (@Ji _ _ _ _ _ _ _ _ (@JL _) (@pv _ 0 _ _ rfl (.inl rfl) rfl rfl) (@Jb _ _ _ _)) (fun _ _=>rfl))))),?_⟩;refine ⟨_,rfl,_,_,rfl,rfl,⟨by decide,by decide⟩,_,_,rfl,rfl,(by show (0:Int) < 6; decide),rfl,_,rfl,Yr (fun _=>?_) (fun _=>?_)⟩
  ·exact ⟨_,rfl,_,_,rfl,rfl,⟨by decide,by decide⟩,_,_,rfl,rfl,(by show (0:Int) < 21; decide),q _ _ (by omega) (by omega) (Jg.refl _)⟩
  ·refine ⟨by show 8≤sizeLine; decide,fun l hl=>?_⟩;obtain ⟨y,hy,y0,y1⟩:=JmD (xs:=[5,3,4,6,2,1,0,7]) rfl (by decide) c;exact ⟨_,rfl,_,_,rfl,rfl,(by show (0:Int) < 8; decide),l,_,_,.int y,rfl,rfl,Jq.of Jf,hy,q _ _ y0 y1 (Jg.upd hl)⟩
theorem Jm5 (T:Txt K mg):JM P w K mg base Zk 1 T.Jip T.Jgv ["_law_cell"] JmS:=by
 refine T.Jiz.F.ok JmX (fun vs H Q E h=>?_) (fun cdv A outer s H vs Q E hr h=>?_)
 ·obtain ⟨_,rfl,_⟩:=h;rfl
 ·obtain ⟨c,rfl,q⟩:=h;refine ⟨_,(@Jd _ _ _ _ _ (@JN _ _ _ _ _ _ _ _ (@Jr _ _ _ _ _ _ _ _ (@Yi _) (@Ji _ _ _ _ _ _ _ _ (@JL _) (@Ji _ _ _ _ _ _ _ _ (@Yq _) (@pv _ 0 _ _ rfl (.inl rfl) rfl rfl) (@Jb _ _ _ _)) (@Jb _ _ _ _)) (@Jb _ _ _ _) (JB _)) (@Jh _ _ _ (@JA _ _ _ _ (@Ji _ _ _ _ _ _ _ _ (@JL _) (@Ji _ _ _ _ _ _ _ _ (@Yq _) (@pv _ 0 _ _ rfl (.inl rfl) rfl rfl) (@Jb _ _ _ _)) (@Jb _ _ _ _)))) (@Jw _)) (@Jh _ _ _ (@JA _ _ _ _ (@JG _ _ _ _ _ _ _ (@JH _) (@YC _ _ _ _ (@Ja _ _ _ _ _ (@Jb _ _ _ _) (@Ja _ _ _ _ _ (@Jb _ _ _ _) (@Ja _ _ _ _ _ (@Jb _ _ _ _) (@Ja _ _ _ _ _ (@Jb _ _ _ _) (@Ja _ _ _ _ _ (@Jb _ _ _ _) (@Ja _ _ _ _ _ (@Jb _ _ _ _) (@Ja _ _ _ _ _ (@Jb _ _ _ _) (@Ja _ _ _ _ _ (@Jb _ _ _ _) (@Jc _) rfl) rfl) rfl) rfl) rfl) rfl) rfl) rfl)) (@Ji _ _ _ _ _ _ _ _ (@JL _) (@pv _ 0 _ _ rfl (.inl rfl) rfl rfl) (@Jb _ _ _ _)) (fun _ _=>rfl))))),?_⟩;refine ⟨_,rfl,_,_,rfl,rfl,⟨by decide,by decide⟩,_,_,rfl,rfl,(by show (0:Int) < 6; decide),rfl,_,rfl,Yr (fun _=>?_) (fun _=>?_)⟩
  ·exact ⟨_,rfl,_,_,rfl,rfl,⟨by decide,by decide⟩,_,_,rfl,rfl,(by show (0:Int) < 31; decide),q _ _ (by omega) (by omega) (Jg.refl _)⟩
  ·refine ⟨by show 8≤sizeLine; decide,fun l hl=>?_⟩;obtain ⟨y,hy,y0,y1⟩:=JmD (xs:=[4,5,3,6,2,1,0,7]) rfl (by decide) c;exact ⟨_,rfl,_,_,rfl,rfl,(by show (0:Int) < 8; decide),l,_,_,.int y,rfl,rfl,Jq.of Jf,hy,q _ _ y0 (by omega) (Jg.upd hl)⟩
end
section
variable {P:Program} {w:World} {K:PySem.W.Frag} {mg:Str→Option Value} {base:Heap}
structure Wid (ps:List Str) (zs:List (Str×Str)) (gs ps2:List Str) (zs2:List (Str×Str)) (gs2:List Str):Prop where
 p:∀ y∈ps,y∈ps2
 w:∀ y∈ps,(Js zs2 y).Perm (Js zs y)
 g:∀ y∈ps,y∈gs2↔y∈gs
def Z6 (f0:Str):List Str:=f0 :: (Str.ofString "bcdefghijklm").cps.toList.map fun c=>Txt.slice f0 none (some 5) ++ ⟨#[c]⟩
theorem Jn0 {f0:Str} (h:f0∈(["aaaaaa", "zzzzzz", "mmmmm"]:List Str)):(∀ y∈Z6 f0,YV y=true)∧(Z6 f0).Nodup∧(Z6 f0).length=13:=by
 have k:(["aaaaaa", "zzzzzz", "mmmmm"]:List Str).all (fun f0=>(Z6 f0).all YV && decide (Z6 f0).Nodup && decide ((Z6 f0).length=13))=true:=by decide +kernel
 have k:=List.all_eq_true.mp k f0 h;rw [Bool.and_eq_true,Bool.and_eq_true,decide_eq_true_eq,decide_eq_true_eq] at k;exact ⟨fun y hy=>List.all_eq_true.mp k.1.1 y hy,k.1.2,k.2⟩
theorem Jak:∀ {l r:List Str},l.Nodup→(∀ x∈l,x∈r)→l.length≤r.length
 | [],r,_,_=>Nat.zero_le _
 | a :: l,r,h,hs=>by
  have ha:=hs a (List.mem_cons_self ..);have ih:=Jak (l:=l) (r:=r.erase a) (List.nodup_cons.mp h).2 fun x hx=>(List.mem_erase_of_ne (fun e=>(List.nodup_cons.mp h).1 (by rw [← e]; exact hx))).mpr (hs x (List.mem_cons_of_mem _ hx))
  rw [List.length_erase_of_mem ha] at ih;have:1≤r.length:=List.length_pos_of_mem ha;rw [List.length_cons];omega
theorem Jd5 {K:PySem.W.Frag} {H:Hp} {a:Addr} {xs ys:List V} {ls:List (V×(Str×Str))} (h:Yd K H ls) (ha:H a=some (.lst xs)):Yd K (upd H a (.lst ys)) ls:=fun z hz=>by
 obtain ⟨b,h1,h2⟩:=h z hz;refine ⟨b,h1,?_⟩;rcases h2 with (h | ⟨o,h⟩) | h
 ·exact .inl (.inl (by rw [Jl (ZC h ha (fun z=>nomatch z))]; exact h))
 ·exact .inl (.inr ⟨o,by rw [Jl (ZC h ha (fun z=>nomatch z))]; exact h⟩)
 ·exact .inr h
theorem Jik {α:Type} (xs:List α) (i:Nat) (y:α):(xs.take i ++ y :: xs.drop i).Perm (y :: xs):=by
 have:=List.perm_middle (a:=y) (l₁:=xs.take i) (l₂:=xs.drop i);rw [List.take_append_drop] at this;exact this
theorem JiU {α β:Type} (f:α→β) (xs:List α) (i:Nat) (y:α):(xs.map f).take i ++ f y :: (xs.map f).drop i=(xs.take i ++ y :: xs.drop i).map f:=by
 rw [List.map_append,List.map_cons,List.map_take,List.map_drop]
structure JgI (y:Str) (ps2:List Str) (zs zs2:List (Str×Str)):Prop where
 n:zs2.Nodup
 l:zs2.length≤40
 e:∃ ex,zs2.Perm (ex ++ zs)∧∀ z∈ex,z.1=y∧z.2∈ps2
theorem JgI.ins {y:Str} {ps2:List Str} {zs zs2 zs3:List (Str×Str)} {z:Str×Str} (M:JgI y ps2 zs zs2) (hn:z∉zs2) (hl:zs2.length < 40) (h1:z.1=y) (h2:z.2∈ps2) (h3:zs3.Perm (z :: zs2)):JgI y ps2 zs zs3:=by
 obtain ⟨ex,e1,e2⟩:=M.e;refine ⟨h3.nodup_iff.mpr (List.nodup_cons.mpr ⟨hn,M.n⟩),by rw [h3.length_eq,List.length_cons]; omega,z :: ex,h3.trans (e1.cons z),fun u hu=>?_⟩;rcases List.mem_cons.mp hu with rfl | hu
 ·exact ⟨h1,h2⟩
 ·exact e2 u hu
theorem JgI.good {y:Str} {ps ps2 gs gs2:List Str} {zs zs2:List (Str×Str)} (M:JgI y ps2 zs zs2) (G:Ja1 ps zs gs) (gy:YV y=true) (hy:y∉ps) (h12:ps.length < 12) (hp:ps2.Perm (y :: ps)) (hg:gs2=gs∨gs2=gs ++ [y]):Ja1 ps2 zs2 gs2∧Wid ps zs gs ps2 zs2 gs2:=by
 obtain ⟨ex,e1,e2⟩:=M.e;have hm:∀ p∈ps,p∈ps2:=fun p h=>hp.mem_iff.mpr (List.mem_cons_of_mem _ h)
 have hyp:y∈ps2:=hp.mem_iff.mpr (List.mem_cons_self ..);refine ⟨⟨?_,?_,?_,?_,M.l,?_,M.n,?_,?_⟩,hm,?_,?_⟩
 ·rw [hp.length_eq,List.length_cons]; omega
 ·rw [hp.length_eq,List.length_cons]; omega
 ·intro p h;rcases List.mem_cons.mp (hp.mem_iff.mp h) with rfl | h
  ·exact gy
  ·exact G.p3 p h
 ·exact hp.nodup_iff.mpr (List.nodup_cons.mpr ⟨hy,G.p4⟩)
 ·intro z h;rcases List.mem_append.mp (e1.mem_iff.mp h) with h | h
  ·exact ⟨by rw [(e2 z h).1]; exact hyp,(e2 z h).2⟩
  ·exact ⟨hm _ (G.l2 z h).1,hm _ (G.l2 z h).2⟩
 ·intro g h;rcases hg with rfl | rfl
  ·exact hm _ (G.g1 g h)
  ·rcases List.mem_append.mp h with h | h
   ·exact hm _ (G.g1 g h)
   ·rw [List.mem_singleton.mp h]; exact hyp
 ·rcases hg with rfl | rfl
  ·exact G.g2
  ·refine List.nodup_append.mpr ⟨G.g2,List.nodup_cons.mpr ⟨List.not_mem_nil,List.nodup_nil⟩,fun a ha b hb=>?_⟩;rw [List.mem_singleton.mp hb];exact fun e=>hy (e ▸ G.g1 a ha)
 ·intro u hu;have hf:ex.filter (fun z=>decide (z.1=u))=[]:=List.filter_eq_nil_iff.mpr fun z hz=>by
   rw [decide_eq_true_eq,(e2 z hz).1];exact fun e=>hy (e ▸ hu)
  have:=(e1.filter (fun z=>decide (z.1=u))).map (·.2);rw [List.filter_append,hf,List.nil_append] at this;exact this
 ·intro u hu;rcases hg with rfl | rfl
  ·exact Iff.rfl
  ·refine ⟨fun h=>?_,fun h=>List.mem_append_left _ h⟩;rcases List.mem_append.mp h with h | h
   ·exact h
   ·exact absurd hu (by rw [List.mem_singleton.mp h]; exact hy)
def Jle (K:PySem.W.Frag):Sp:=fun vs H Q _=>∃ (t lc:Addr) (c0 c1 c2 c3:Int) (ps:List Str) (zs:List (V×(Str×Str))) (gs:List Str),vs=[.ref t,.ref lc]∧Ground K H t ps zs gs∧H lc=some (.lst [.int c0,.int c1,.int c2,.int c3])∧∀ (tw:Addr) (ps2:List Str) (ls:List (V×(Str×Str))) (gs2:List Str) (H':Hp),Jg H H'→Ground K H' tw ps2 ls gs2→Wid ps (zs.map (·.2)) gs ps2 (ls.map (·.2)) gs2→Q (.ref tw) H'
theorem JlR (T:Txt K mg):JM P w K mg base Zk 3 T.Jgw T.Jfa ["_law_ground_here", "_law_cells"] (Jle K):=by
 refine T.JgJ.F.ok Jad (fun vs H Q E h=>?_) (fun cdv A outer s H vs Q E hr h=>?_)
 ·obtain ⟨_,_,_,_,_,_,_,_,_,rfl,_⟩:=h;rfl
 ·obtain ⟨t,lc,c0,c1,c2,c3,ps,zs,gs,rfl,G,hlc,q⟩:=h;have hu:=Jck hr;have szl:sizeLine=16777216:=sizeLine_eq;refine ⟨_,(@Jd _ _ _ _ _ (@Ju _ _ 2 _ _ _ _ Jad.nd rfl (Or.inr rfl) (@YO _ _ _ _ _ _ _ _ _ (@ZI _) rfl T.JcM PyProof.Rows.boot_list (@Ja _ _ _ _ _ (@JG _ _ _ _ _ _ _ (@Zy _) (@pv _ 0 _ _ rfl (.inl rfl) rfl rfl) (@Jb _ _ _ _) (fun _ _=>rfl)) (@Jc _) rfl) (by decide) (by decide) rfl rfl) rfl (by first | exact .inl rfl | exact .inr rfl | assumption)) (@Jd _ _ _ _ _ (@Ju _ _ 3 _ _ _ _ Jad.nd rfl (Or.inl rfl) (@YO _ _ _ _ _ _ _ _ _ (@ZI _) rfl T.JcM PyProof.Rows.boot_list (@Ja _ _ _ _ _ (@JG _ _ _ _ _ _ _ (@Zy _) (@pv _ 0 _ _ rfl (.inl rfl) rfl rfl) (@Jb _ _ _ _) (fun _ _=>rfl)) (@Jc _) rfl) (by decide) (by decide) rfl rfl) rfl (.inl rfl)) (@Jd _ _ _ _ _ (@Ju _ _ 4 _ _ _ _ Jad.nd rfl (Or.inl rfl) (@YO _ _ _ _ _ _ _ _ _ (@ZI _) rfl T.JcM PyProof.Rows.boot_list (@Ja _ _ _ _ _ (@JG _ _ _ _ _ _ _ (@Zy _) (@pv _ 0 _ _ rfl (.inl rfl) rfl rfl) (@Jb _ _ _ _) (fun _ _=>rfl)) (@Jc _) rfl) (by decide) (by decide) rfl rfl) rfl (.inl rfl)) (@Jd _ _ _ _ _ (@J2 _ _ _ (@JN _ _ _ _ _ _ _ _ (@Jr _ _ _ _ _ _ _ _ (@Ja9 _) (@JO _ _ _ _ _ _ _ _ _ (@Yp _) rfl T.ZM PySem.boot_len (@Ja _ _ _ _ _ (@pv _ 2 _ _ rfl (.inr (.inl rfl)) rfl rfl) (@Jc _) rfl) (by decide) (by decide) rfl rfl) (@Jb _ _ _ _) (JB _)) (@Jd _ _ _ _ _ (@J2 _ _ _ (@Ju _ _ 5 _ _ _ _ Jad.nd rfl (Or.inr rfl) (@JG _ _ _ _ _ _ _ (@JH _) (@YC _ _ _ _ (@Ja _ _ _ _ _ (@JR _ _ _ _) (@Ja _ _ _ _ _ (@JR _ _ _ _) (@Ja _ _ _ _ _ (@JR _ _ _ _) (@Jc _) rfl) rfl) rfl)) (@Ji _ _ _ _ _ _ _ _ (@JL _) (@JG _ _ _ _ _ _ _ (@JH _) (@pv _ 1 _ _ rfl (.inl rfl) rfl rfl) (@Jb _ _ _ _) (fun _ _=>rfl)) (@Jb _ _ _ _)) (fun _ _=>rfl)) rfl (by first | exact .inl rfl | exact .inr rfl | assumption))) (@Jd _ _ _ _ _ (@J2 _ _ _ (@Ju _ _ 6 _ _ _ _ Jad.nd rfl (Or.inl rfl) (@Ji _ _ _ _ _ _ _ _ (@JnU _) (@YC _ _ _ _ (@Ja _ _ _ _ _ (@pv _ 5 _ _ rfl (.inr (.inl rfl)) rfl rfl) (@Jc _) rfl)) (@Jaz _ _ _ _ _ _ _ 1 ["_law_sign", "_law_fresh"] [5] _ _ _ _ ["_law_ground_here", "_law_cells", "_law_names_here", "_law_lanes", "_law_goals_here", "_law_fresh", "_law_lot", "_law_end"] ((Jm Jdp).names) (by decide +kernel) (@Jkg _ _ _ _ (@JR _ _ _ _)) (fun _ _ _ _=>(@Y2 _ _ _ _ _ _ _ _ _ 0 (by decide +kernel) rfl rfl)) (fun _ _ _ _=>(@Zd _)) (fun _ _ _ _=>(@Ji _ _ _ _ _ _ _ _ (@JfE _) (@JdK _ _ _ _ _ _ _ _ _ _ (@JnB _) (@JT _ _ _ _ _ _ _ _ _ 1 rfl rfl (by decide) (by decide)) (@Jgm _) (@Jdr _ _ _ (@Jb _ _ _ _))) (@YB _ _ _ _ _ _ _ _ _ 0 rfl rfl (by decide) (by decide)))) rfl rfl rfl (by intro _; rfl))) rfl (.inl rfl))) (@Jd _ _ _ _ _ (@J2 _ _ _ (@Ju _ _ 5 _ _ _ _ Jad.nd rfl (Or.inr rfl) (@JG _ _ _ _ _ _ _ (@JH _) (@Jaz _ _ _ _ _ _ _ 1 ["_law_name", "_law_names_here"] [2] _ _ _ _ ["_law_ground_here", "_law_cells", "_law_names_here", "_law_lanes", "_law_goals_here", "_law_fresh", "_law_lot", "_law_end"] ((Jm Jdp).names) (by decide +kernel) (@Yv _ _ _ _ (@pv _ 6 _ _ rfl (.inl rfl) rfl rfl)) (fun _ _ _ _=>(@Y2 _ _ _ _ _ _ _ _ _ 0 (by decide +kernel) rfl rfl)) (fun _ _ _ _=>(@Jgn _ _ _ (@Jr _ _ _ _ _ _ _ _ (show ZB _ _ (rIn K true) from (@Jai _)) (@YB _ _ _ _ _ _ _ _ _ 0 rfl rfl (by decide) (by decide)) (@JT _ _ _ _ _ _ _ _ _ 1 rfl rfl (by decide) (by decide)) (by with_unfolding_all rfl)))) (fun _ _ _ _=>(@YB _ _ _ _ _ _ _ _ _ 0 rfl rfl (by decide) (by decide))) rfl rfl rfl (by intro _; rfl)) (@Jb _ _ _ _) (fun _ _=>rfl)) rfl (by first | exact .inl rfl | exact .inr rfl | assumption))) (@Jd _ _ _ _ _ (@Jy _ _ _ _ (@Zm _ _ _ _ _ _ _ _ _ _ _ _ PySem.F.plainAttrs_list PySem.F.slot_list_insert PySem.F.type_list_insert (@Jg2 _) (@pv _ 2 _ _ rfl (.inr (.inl rfl)) rfl rfl) (@Ja _ _ _ _ _ (@Ji _ _ _ _ _ _ _ _ (@JL _) (@Ji _ _ _ _ _ _ _ _ (@Yq _) (@JG _ _ _ _ _ _ _ (@JH _) (@pv _ 1 _ _ rfl (.inl rfl) rfl rfl) (@Jb _ _ _ _) (fun _ _=>rfl)) (@Jb _ _ _ _)) (@Ji _ _ _ _ _ _ _ _ (@JQ _) (@JO _ _ _ _ _ _ _ _ _ (@Yp _) rfl T.ZM PySem.boot_len (@Ja _ _ _ _ _ (@pv _ 2 _ _ rfl (.inr (.inl rfl)) rfl rfl) (@Jc _) rfl) (by decide) (by decide) rfl rfl) (@Jb _ _ _ _))) (@Ja _ _ _ _ _ (@pv _ 5 _ _ rfl (.inr (.inl rfl)) rfl rfl) (@Jc _) rfl) rfl) rfl rfl rfl rfl rfl) rfl) (@Jd _ _ _ _ _ (@YH _ _ _ _ _ _ _ _ PassesOwn.never rfl (@Yv _ _ _ _ (@Jp _ _ _ _ _ _ _ _ _ _ _ _ _ _ _ T.JeO (JfF T) (hr.mono (by decide)) JK (@Ja _ _ _ _ _ (@JG _ _ _ _ _ _ _ (@JH _) (@pv _ 1 _ _ rfl (.inl rfl) rfl rfl) (@Jb _ _ _ _) (fun _ _=>rfl)) (@Ja _ _ _ _ _ (@Ji _ _ _ _ _ _ _ _ (@JL _) (@JG _ _ _ _ _ _ _ (@JH _) (@pv _ 1 _ _ rfl (.inl rfl) rfl rfl) (@Jb _ _ _ _) (fun _ _=>rfl)) (@Jb _ _ _ _)) (@Ja _ _ _ _ _ (@JO _ _ _ _ _ _ _ _ _ (@Yp _) rfl T.ZM PySem.boot_len (@Ja _ _ _ _ _ (@pv _ 2 _ _ rfl (.inr (.inl rfl)) rfl rfl) (@Jc _) rfl) (by decide) (by decide) rfl rfl) (@Jc _) rfl) rfl) rfl) rfl (by decide) rfl rfl)) (@Yj _ _ 7 _ Jad.nd rfl (Or.inl rfl) (.inl rfl)) (@Jh _ _ _ (@J2 _ _ _ (@JN _ _ _ _ _ _ _ _ (@PW.pt _ _ _ (@JhV _ _ _ _ _ _ _ (@Jr _ _ _ _ _ _ _ _ (@JdT _ hu) (@YI _ _ _ _ _ (@Ja _ _ _ _ _ (@pv _ 5 _ _ rfl (.inr (.inl rfl)) rfl rfl) (@Ja _ _ _ _ _ (@JG _ _ _ _ _ _ _ (@JH _) (@pv _ 2 _ _ rfl (.inr (.inl rfl)) rfl rfl) (@pv _ 7 _ _ rfl (.inl rfl) rfl rfl) (fun _ _=>rfl)) (@Jc _) rfl) rfl)) (@pv _ 3 _ _ rfl (.inl rfl) rfl rfl) (by with_unfolding_all rfl)) (@Jgl _ _ _ _ (@Jr _ _ _ _ _ _ _ _ (@Ja9 _) (@JO _ _ _ _ _ _ _ _ _ (@Yp _) rfl T.ZM PySem.boot_len (@Ja _ _ _ _ _ (@pv _ 3 _ _ rfl (.inl rfl) rfl rfl) (@Jc _) rfl) (by decide) (by decide) rfl rfl) (@Jb _ _ _ _) (JB _))))) (@Jh _ _ _ (@Jy _ _ _ _ (@Zm _ _ _ _ _ _ _ _ _ _ _ _ PySem.F.plainAttrs_list PySem.F.slot_list_insert PySem.F.type_list_insert (@Jg2 _) (@pv _ 3 _ _ rfl (.inl rfl) rfl rfl) (@Ja _ _ _ _ _ (@Ji _ _ _ _ _ _ _ _ (@JL _) (@Ji _ _ _ _ _ _ _ _ (@Yq _) (@JG _ _ _ _ _ _ _ (@JH _) (@pv _ 1 _ _ rfl (.inl rfl) rfl rfl) (@Jb _ _ _ _) (fun _ _=>rfl)) (@Jb _ _ _ _)) (@Ji _ _ _ _ _ _ _ _ (@JQ _) (@JO _ _ _ _ _ _ _ _ _ (@Yp _) rfl T.ZM PySem.boot_len (@Ja _ _ _ _ _ (@pv _ 3 _ _ rfl (.inl rfl) rfl rfl) (@Jc _) rfl) (by decide) (by decide) rfl rfl) (@Jb _ _ _ _))) (@Ja _ _ _ _ _ (@YI _ _ _ _ _ (@Ja _ _ _ _ _ (@pv _ 5 _ _ rfl (.inr (.inl rfl)) rfl rfl) (@Ja _ _ _ _ _ (@JG _ _ _ _ _ _ _ (@JH _) (@pv _ 2 _ _ rfl (.inr (.inl rfl)) rfl rfl) (@pv _ 7 _ _ rfl (.inl rfl) rfl rfl) (fun _ _=>rfl)) (@Jc _) rfl) rfl)) (@Jc _) rfl) rfl) rfl rfl rfl rfl rfl) rfl)) (@Jw _)))) (by intro _; rfl)) (@Jh _ _ _ (@J2 _ _ _ (@JN _ _ _ _ _ _ _ _ (@Jr _ _ _ _ _ _ _ _ (@Yi _) (@Ji _ _ _ _ _ _ _ _ (@JL _) (@JG _ _ _ _ _ _ _ (@JH _) (@pv _ 1 _ _ rfl (.inl rfl) rfl rfl) (@Jb _ _ _ _) (fun _ _=>rfl)) (@Jb _ _ _ _)) (@Jb _ _ _ _) (JB _)) (@Jh _ _ _ (@Jy _ _ _ _ (@Zm _ _ _ _ _ _ _ _ _ _ _ _ PySem.F.plainAttrs_list PySem.F.slot_list_append PySem.F.type_list_append (@Yc _) (@pv _ 4 _ _ rfl (.inl rfl) rfl rfl) (@Ja _ _ _ _ _ (@pv _ 5 _ _ rfl (.inr (.inl rfl)) rfl rfl) (@Jc _) rfl) rfl rfl rfl rfl rfl) rfl)) (@Jw _))))))))) (@Jw _))) (@Jh _ _ _ (@JA _ _ _ _ (@YI _ _ _ _ _ (@Ja _ _ _ _ _ (@pv _ 2 _ _ rfl (.inr (.inl rfl)) rfl rfl) (@Ja _ _ _ _ _ (@pv _ 3 _ _ rfl (.inl rfl) rfl rfl) (@Ja _ _ _ _ _ (@pv _ 4 _ _ rfl (.inl rfl) rfl rfl) (@Jc _) rfl) rfl) rfl)))))))),?_⟩
  try dsimp only [cxK,Jeo]
  obtain ⟨pn0,pl0,pg0,h1,h2,h3,h4,h5⟩:=G.at_;refine ⟨_,rfl,t,_,_,.ref pn0,rfl,rfl,J0.of h1,rfl,pn0,_,rfl,.inl (Jq.of h2),fun a1 n1=>?_⟩;have f1:=Jg.upd (o:=.lst (ps.map V.str)) n1;have k1:upd H a1 (.lst (ps.map V.str)) a1=some (.lst (ps.map V.str)):=Jf;generalize upd H a1 (.lst (ps.map V.str))=H1 at f1 k1;refine ⟨_,rfl,t,_,_,.ref pl0,rfl,rfl,J0.of (f1 _ _ h1),rfl,pl0,_,rfl,.inl (Jq.of (f1 _ _ h3)),fun a2 n2=>?_⟩;have f2:=Jg.upd (o:=.lst (zs.map (·.1))) n2;have k2:upd H1 a2 (.lst (zs.map (·.1))) a2=some (.lst (zs.map (·.1))):=Jf;have k12:=f2 _ _ k1;generalize upd H1 a2 (.lst (zs.map (·.1)))=H2 at f2 k2 k12;have f02:=f1.trans f2;refine ⟨_,rfl,t,_,_,.ref pg0,rfl,rfl,J0.of (f02 _ _ h1),rfl,pg0,_,rfl,.inl (Jq.of (f02 _ _ h5)),fun a3 n3=>?_⟩;have f3:=Jg.upd (o:=.lst (gs.map V.str)) n3;have k3:upd H2 a3 (.lst (gs.map V.str)) a3=some (.lst (gs.map V.str)):=Jf;have k13:=f3 _ _ k12;have k23:=f3 _ _ k2;have d12:a1≠a2:=Jn k1 n2;have d13:a1≠a3:=Jn k12 n3;have d23:a2≠a3:=Jn k2 n3;have z1:H a1=none:=n1;have z2:H a2=none:=f1.free n2;have z3:H a3=none:=f02.free n3;have f03:=f02.trans f3;generalize upd H2 a3 (.lst (gs.map V.str))=H3 at f3 k3 k13 k23 f03;refine ⟨fun σ1 H4=>∃ (ps2:List Str) (ls:List (V×(Str×Str))) (gs2:List Str) (v5 v6 v7:Option V),Jg H H4∧H4 a1=some (.lst (ps2.map V.str))∧H4 a2=some (.lst (ls.map (·.1)))∧Yd K H4 ls∧H4 a3=some (.lst (gs2.map V.str))∧Ja1 ps2 (ls.map (·.2)) gs2∧Wid ps (zs.map (·.2)) gs ps2 (ls.map (·.2)) gs2∧σ1=[some (.ref t),some (.ref lc),some (.ref a1),some (.ref a2),some (.ref a3),v5,v6,v7],?_,?_⟩
  ·have same:Wid ps (zs.map (·.2)) gs ps (zs.map (·.2)) gs:=⟨fun y hy=>hy,fun y _=>List.Perm.refl _,fun y _=>Iff.rfl⟩
   refine ⟨_,rfl,a1,_,rfl,.inl (Jq.of k13),_,_,rfl,rfl,_,rfl,Yr (fun h12=>?_) (fun _=>⟨ps,zs,gs,none,none,none,f03,k13,k23,Yh h4 f03,k3,G.good,same,rfl⟩)⟩;have h12:=of_decide_eq_true h12;rw [List.length_map] at h12;refine ⟨fun σ1 H4=>∃ f0∈(["aaaaaa", "zzzzzz", "mmmmm"]:List Str),Jg H3 H4∧σ1=[some (.ref t),some (.ref lc),some (.ref a1),some (.ref a2),some (.ref a3),some (.str f0),none,none],?_,?_⟩
   ·refine ⟨by show 3≤sizeLine; decide,fun l nl=>?_⟩;obtain ⟨f0,hf0,hm⟩:=Joe (ps:=["aaaaaa", "zzzzzz", "mmmmm"]) (by decide) c0;exact ⟨_,rfl,lc,_,_,.int c0,rfl,rfl,Jq.of ((f03.trans (Jg.upd nl)) _ _ hlc),rfl,_,_,rfl,rfl,(by show (0:Int) < 3; decide),l,_,_,.str f0,rfl,rfl,Jq.of Jf,hf0,f0,hm,Jg.upd nl,rfl⟩
   rintro σ1 H4 ⟨f0,hf0,e4,rfl⟩;obtain ⟨lo1,lo2,lo3⟩:=Jn0 hf0;have gf:=lo1 f0 (List.mem_cons_self ..);have t6:=Je9 gf;have l6:f0.length≤6:=t6.1;refine ⟨fun σ1 H5=>∃ l6,Jg H3 H5∧H5 l6=some (.lst ((Z6 f0).map V.str))∧σ1=[some (.ref t),some (.ref lc),some (.ref a1),some (.ref a2),some (.ref a3),some (.str f0),some (.ref l6),none],?_,?_⟩
   ·refine ⟨_,rfl,by show 1≤sizeLine; decide,fun l1 nl1=>?_⟩;have s5:=Jg.upd (o:=.lst [.str f0]) nl1;have hl1:upd H4 l1 (.lst [.str f0]) l1=some (.lst [.str f0]):=Jf;generalize upd H4 l1 (.lst [.str f0])=H5 at s5 hl1;refine ⟨_,rfl,fun D hD=>?_⟩;refine Jmf (fun i ys H6=>Jg H5 H6∧H6 D=some (.lst ys)∧ys=((((Str.ofString "bcdefghijklm").cps.toList.take i).map fun c=>Txt.slice f0 none (some 5) ++ (⟨#[c]⟩:Str)).map V.str)) rfl ⟨Jg.upd hD,Jf,rfl⟩ (fun i ys H6 z=>z.2.1) ?_ ?_
    ·rintro i cc ys H6 hc ⟨e6,hy,rfl⟩;have hsl:=(Jlb none (some 5) t6).1;refine tcT ⟨_,rfl,_,rfl,_,rfl,by omega,_,rfl,_,_,rfl,rfl,by show (Txt.slice f0 none (some 5)).length + 1≤sizeLine; omega,hy,?_,fun x u qq=>?_,Jf,?_⟩
     ·rw [List.length_map,List.length_map,List.length_take];have:(Str.ofString "bcdefghijklm").cps.toList.length=12:=by decide +kernel
      omega
     ·rw [Jl (Jn qq hD)]; exact e6 _ _ qq
     ·have hc':(Str.ofString "bcdefghijklm").cps.toList[i]?=some cc:=by rw [Array.getElem?_toList]; exact hc
      rw [List.take_succ,hc',List.map_append,List.map_append]; rfl
    ·rintro ys H6 ⟨e6,hy,rfl⟩;have hlen:(Str.ofString "bcdefghijklm").cps.toList.length=12:=by decide +kernel
     rw [List.take_of_length_le (by rw [hlen]; decide +kernel)] at hy;refine ⟨l1,D,_,_,rfl,rfl,e6 _ _ hl1,hy,by rw [List.length_map,List.length_map,hlen]; show 1 + 12≤_; omega,fun l6 n6=>⟨l6,((e4.trans s5).trans e6).trans (Jg.upd n6),Jf,rfl⟩⟩
   rintro σ1 H5 ⟨l6',e5,hl6,rfl⟩;refine ⟨fun σ1 H6=>∃ y,YV y=true∧y∉ps∧Jg H3 H6∧σ1=[some (.ref t),some (.ref lc),some (.ref a1),some (.ref a2),some (.ref a3),some (.str y),some (.ref l6'),none],?_,?_⟩
   ·refine ⟨_,rfl,l6',rfl,⟨_,Jq.of hl6⟩,fun D hD=>?_⟩;refine Jav (xs:=(Z6 f0).map V.str) (fun i ys H6=>Jg H5 H6∧H6 D=some (.lst ys)∧ys=((((Z6 f0).take i).filter fun y=>decide (y∉ps)).map V.str)) rfl (fun i ys H6 z=>Jq.of (z.1 _ _ hl6)) ⟨Jg.upd hD,Jf,rfl⟩ (fun i ys H6 z=>z.2.1) ?_ ?_
    ·rintro i xv ys H6 hx ⟨e6,hy,rfl⟩;rw [List.getElem?_map] at hx;obtain ⟨y,hy0,rfl⟩:=Option.map_eq_some_iff.mp hx;refine ⟨_,rfl,_,rfl,a1,_,rfl,.inl (Jq.of ((e5.trans e6) _ _ k13)),rfl,Jc6 _,?_⟩;rw [if_pos rfl,JdO];by_cases hin:y∈ps
     ·rw [decide_eq_true hin];refine ⟨_,rfl,ZG ⟨e6,hy,?_⟩⟩;rw [List.take_succ,hy0,List.filter_append,List.map_append];simp [hin]
     ·rw [decide_eq_false hin];refine ⟨_,rfl,Y7 ⟨_,rfl,hy,?_,fun x u qq=>?_,Jf,?_⟩⟩
      ·rw [List.length_map];have h1:=List.length_filter_le (fun y=>decide (y∉ps)) ((Z6 f0).take i);rw [List.length_take] at h1;omega
      ·rw [Jl (Jn qq hD)]; exact e6 _ _ qq
      ·rw [List.take_succ,hy0,List.filter_append,List.map_append];simp [hin]
    ·rintro ys H6 ⟨e6,hy,rfl⟩;rw [List.length_map,List.take_length] at hy;obtain ⟨y,r,hyr⟩:∃ y r,(Z6 f0).filter (fun y=>decide (y∉ps))=y :: r:=by
      cases hf:(Z6 f0).filter (fun y=>decide (y∉ps)) with
      | cons y r=>exact ⟨y,r,rfl⟩
      | nil =>
       exfalso;have hall:∀ x∈Z6 f0,x∈ps:=fun x hx=>by
        have:=(List.filter_eq_nil_iff.mp hf) x hx;rw [decide_eq_true_eq] at this;exact Classical.not_not.mp this
       have:=Jak lo2 hall;omega
     have hym:y∈(Z6 f0).filter (fun y=>decide (y∉ps)):=by rw [hyr]; exact List.mem_cons_self ..
     obtain ⟨hy1,hy2⟩:=List.mem_filter.mp hym;exact ⟨D,_,_,.str y,rfl,rfl,Jq.of hy,by rw [hyr]; exact ZU (j:=0) rfl,y,lo1 y hy1,of_decide_eq_true hy2,e5.trans e6,rfl⟩
   rintro σ1 H6 ⟨y,gy,hyn,e6,rfl⟩;have hb1:=JcN (x:=c0 / 3) (n:=((ps.map V.str).length:Int) + 1) (by omega);have hb2:=JcN (x:=c2) (n:=5) (by decide);obtain ⟨i1,hi1⟩:∃ i:Nat,(i:Int)=c0 / 3 % (((ps.map V.str).length:Int) + 1):=⟨(c0 / 3 % (((ps.map V.str).length:Int) + 1)).toNat,Int.toNat_of_nonneg hb1.1⟩
   have q13:=e6 _ _ k13;have q23:=e6 _ _ k23;have q33:=e6 _ _ k3;refine ⟨_,rfl,.inl ⟨rfl,_,Jq.of q13⟩,_,rfl,lc,_,_,.int c0,rfl,rfl,Jq.of ((f03.trans e6) _ _ hlc),rfl,_,_,rfl,rfl,(by unfold Jmq; decide),_,rfl,a1,_,rfl,.inl (Jq.of q13),_,_,rfl,rfl,_,_,rfl,rfl,(by omega),_,rfl,a1,_,i1,.str y,rfl,by rw [hi1],q13,by omega,by rw [List.length_map]; omega,?_⟩;rw [JiU];have hpp:=Jik ps i1 y;generalize ps.take i1 ++ y :: ps.drop i1=ps2 at hpp;have l2:ps2.length=ps.length + 1:=by rw [hpp.length_eq,List.length_cons]
   have g0:Jg H (upd H6 a1 (.lst (ps2.map V.str))):=fun x u qq=>by rw [Jl (Jn qq z1)]; exact (f03.trans e6) _ _ qq
   have g1:upd H6 a1 (.lst (ps2.map V.str)) a1=some (.lst (ps2.map V.str)):=Jf;have g2:upd H6 a1 (.lst (ps2.map V.str)) a2=some (.lst (zs.map (·.1))):=by rw [Jl d12.symm]; exact q23
   have g3:upd H6 a1 (.lst (ps2.map V.str)) a3=some (.lst (gs.map V.str)):=by rw [Jl d13.symm]; exact q33
   have g4:Yd K (upd H6 a1 (.lst (ps2.map V.str))) zs:=Jd5 (Yh h4 (f03.trans e6)) q13;generalize upd H6 a1 (.lst (ps2.map V.str))=H7 at g0 g1 g2 g3 g4;refine ⟨_,rfl,lc,_,_,.int c1,rfl,rfl,Jq.of (g0 _ _ hlc),rfl,_,rfl,lc,_,_,.int c2,rfl,rfl,Jq.of (g0 _ _ hlc),rfl,_,_,rfl,rfl,(by show (0:Int) < 5; decide),_,rfl,a1,_,rfl,.inl (Jq.of g1),c1,(c2 % 5).toNat,((ps2.map V.str).length:Int),(by rw [Int.toNat_of_nonneg hb2.1]; rfl),(by omega),(by rw [List.length_map]; omega),(by rw [List.length_map]; omega),fun l xs H8 nl e8 hl hxl hxb=>⟨l,rfl,⟨_,Jq.of hl⟩,?_⟩⟩;have nl2:l≠a2:=fun e=>by rw [e,g2] at nl; cases nl
   refine Jaq (xs:=xs.map V.int) (fun i σ H9=>∃ (ls:List (V×(Str×Str))) (v7:Option V),Jg H H9∧H9 l=some (.lst (xs.map V.int))∧H9 a1=some (.lst (ps2.map V.str))∧H9 a2=some (.lst (ls.map (·.1)))∧Yd K H9 ls∧H9 a3=some (.lst (gs.map V.str))∧JgI y ps2 (zs.map (·.2)) (ls.map (·.2))∧σ=[some (.ref t),some (.ref lc),some (.ref a1),some (.ref a2),some (.ref a3),some (.str y),some (.ref l6'),v7]) ⟨zs,none,g0.trans e8,hl,e8 _ _ g1,e8 _ _ g2,Yh g4 e8,e8 _ _ g3,⟨G.good.l3,G.good.l1,[],List.Perm.refl _,fun z hz=>nomatch hz⟩,rfl⟩ (fun i σ H9 _ z=>by obtain ⟨ls,v7,j0,j,_⟩:=z; exact Jq.of j) ?_ ?_
   ·rintro i xv σ H9 hx ⟨ls,v7,e9,j0,j1,j2,j4,j3,M,rfl⟩;rw [List.getElem?_map] at hx;obtain ⟨e,he,rfl⟩:=Option.map_eq_some_iff.mp hx;have hb:=hxb e (List.mem_of_getElem? he);rw [List.length_map] at hb;obtain ⟨pe,hpe,hpm⟩:∃ p,atI (ps2.map V.str) e=some (.str p)∧p∈ps2:=⟨_,JfJ hb.1 hb.2,Jea hb.1 hb.2⟩
    refine ⟨_,?_,fun _ _ h=>h⟩;refine ⟨_,rfl,_,rfl,_,rfl,a1,_,_,.str pe,rfl,rfl,Jq.of j1,hpe,by show 2≤sizeLine; decide,fun tt ntt=>?_⟩;have s1:=Jg.upd (o:=.tup [.str y,.str pe]) ntt;have htt:upd H9 tt (.tup [.str y,.str pe]) tt=some (.tup [.str y,.str pe]):=Jf;generalize upd H9 tt (.tup [.str y,.str pe])=H10 at s1 htt;have e10:=e9.trans s1;have i0:=s1 _ _ j0;have i1':=s1 _ _ j1;have i2:=s1 _ _ j2;have i3:=s1 _ _ j3;have i4:=Yh j4 s1;refine ⟨_,rfl,tt,a2,_,JdJ (y,pe),_,rfl,rfl,J0.of htt,Jq.of i2,JfD i4,?_⟩;rw [if_pos rfl]
    classical
    by_cases hin:JdJ (y,pe)∈(ls.map (·.2)).map JdJ
    ·rw [decide_eq_true hin];exact ⟨_,rfl,ZG ⟨ls,_,e10,i0,i1',i2,i4,i3,M,rfl⟩⟩
    rw [decide_eq_false hin];have hin':(y,pe)∉ls.map (·.2):=fun h=>hin (List.mem_map_of_mem h)
    refine ⟨_,rfl,Y7 ⟨_,rfl,a2,_,rfl,.inl (Jq.of i2),_,_,rfl,rfl,_,rfl,Yr (fun h40=>?_) (fun _=>⟨ls,_,e10,i0,i1',i2,i4,i3,M,rfl⟩)⟩⟩;have h40:=of_decide_eq_true h40;rw [List.length_map] at h40;have hb3:=JcN (x:=c2 / 5) (n:=((ls.map (·.1)).length:Int) + 1) (by omega);obtain ⟨k2,hk2⟩:∃ i:Nat,(i:Int)=c2 / 5 % (((ls.map (·.1)).length:Int) + 1):=⟨(c2 / 5 % (((ls.map (·.1)).length:Int) + 1)).toNat,Int.toNat_of_nonneg hb3.1⟩
    refine ⟨_,rfl,.inl ⟨rfl,_,Jq.of i2⟩,_,rfl,lc,_,_,.int c2,rfl,rfl,Jq.of (e10 _ _ hlc),rfl,_,_,rfl,rfl,(by unfold Jmq; decide),_,rfl,a2,_,rfl,.inl (Jq.of i2),_,_,rfl,rfl,_,_,rfl,rfl,(by omega),_,rfl,_,rfl,_,rfl,a1,_,_,.str pe,rfl,rfl,Jq.of i1',hpe,(by show 2≤sizeLine; decide),fun t2 nt2=>?_⟩;have s2:=Jg.upd (o:=.tup [.str y,.str pe]) nt2;have ht2:upd H10 t2 (.tup [.str y,.str pe]) t2=some (.tup [.str y,.str pe]):=Jf;generalize upd H10 t2 (.tup [.str y,.str pe])=H11 at s2 ht2;refine ⟨a2,_,k2,.ref t2,rfl,by rw [hk2],s2 _ _ i2,by omega,by rw [List.length_map]; omega,?_⟩;have em:(ls.map (·.1)).take k2 ++ V.ref t2 :: (ls.map (·.1)).drop k2=(ls.take k2 ++ (V.ref t2,(y,pe)) :: ls.drop k2).map (·.1):=JiU (fun z:V×(Str×Str)=>z.1) ls k2 (.ref t2,(y,pe));rw [em];have hp3:=Jik ls k2 (V.ref t2,(y,pe));generalize ls.take k2 ++ (V.ref t2,(y,pe)) :: ls.drop k2=ls3 at hp3;have nl3:a1≠a2:=d12;refine ⟨ls3,_,fun x u qq=>?_,?_,?_,Jf,?_,?_,M.ins hin' (by rw [List.length_map]; omega) rfl hpm (hp3.map (·.2)),rfl⟩
    ·rw [Jl (Jn qq z2)]; exact (e10.trans s2) _ _ qq
    ·rw [Jl nl2]; exact s2 _ _ i0
    ·rw [Jl d12]; exact s2 _ _ i1'
    ·refine Jd5 (fun z hz=>?_) (s2 _ _ i2);rcases List.mem_cons.mp (hp3.mem_iff.mp hz) with rfl | hz
     ·exact ⟨t2,rfl,J0.of ht2⟩
     ·exact Yh i4 s2 z hz
    ·rw [Jl d23.symm]; exact s2 _ _ i3
   rintro σ H9 ⟨ls,v7,e9,j0,j1,j2,j4,j3,M,rfl⟩;refine ⟨_,?_,fun _ _ h=>h⟩;refine ⟨_,rfl,lc,_,_,.int c3,rfl,rfl,Jq.of (e9 _ _ hlc),rfl,_,_,rfl,rfl,(by show (0:Int) < 2; decide),rfl,_,rfl,Yr (fun _=>?_) (fun _=>?_)⟩
   ·refine ⟨_,rfl,.inl ⟨rfl,_,Jq.of j3⟩,_,rfl,a3,_,.str y,rfl,rfl,j3,by rw [List.length_map]; have:=G.good.glen; omega,?_⟩;have em:gs.map V.str ++ [V.str y]=(gs ++ [y]).map V.str:=by rw [List.map_append]; rfl
    rw [em];obtain ⟨G3,W3⟩:=M.good G.good gy hyn (by omega) hpp (.inr rfl);refine ⟨ps2,ls,gs ++ [y],_,_,_,fun x u qq=>?_,?_,?_,Jd5 j4 j3,Jf,G3,W3,rfl⟩
    ·rw [Jl (Jn qq z3)]; exact e9 _ _ qq
    ·rw [Jl d13]; exact j1
    ·rw [Jl d23]; exact j2
   ·obtain ⟨G3,W3⟩:=M.good G.good gy hyn (by omega) hpp (.inl rfl);exact ⟨ps2,ls,gs,_,_,_,e9,j1,j2,j4,j3,G3,W3,rfl⟩
  rintro σ1 H4 ⟨ps2,ls,gs2,v5,v6,v7,e4,g1,g2,g3,g4,G2,W,rfl⟩;refine ⟨_,rfl,_,rfl,_,rfl,by show 3≤sizeLine; decide,fun tw ntw=>?_⟩;have s5:=Jg.upd (o:=.tup [.ref a1,.ref a2,.ref a3]) ntw;exact q tw ps2 ls gs2 _ (e4.trans s5) ⟨G2,a1,a2,a3,Jf,s5 _ _ g1,s5 _ _ g2,Yh g3 s5,s5 _ _ g4⟩ W
end
section
variable {α:Type} {W W':α→List α} {g g':α→Bool} {c:Int} {f:α→α} {S:α→Prop}
structure Rn (W W':α→List α) (g g':α→Bool) (f:α→α) (S:α→Prop):Prop where
 w:∀ p,S p→W' (f p)=(W p).map f
 s:∀ p,S p→∀ w∈W p,S w
 g:∀ p,S p→g' (f p)=g p
theorem Rn.need (h:Rn W W' g g' f S):∀ (t:Nat) (p:α) (r:Bool),S p→L2.need W' g' c t (f p) r=L2.need W g c t p r
 | 0,p,r,hp=>by unfold L2.need; rw [h.g p hp]
 | t + 1,p,r,hp=>by
  have e:∀ r,(W' (f p)).map (fun w=>L2.need W' g' c t w r)=(W p).map fun w=>L2.need W g c t w r:=fun r=>by
   rw [h.w p hp,List.map_map];exact List.map_congr_left fun w hw=>h.need t w r (h.s p hp w hw)
  have e2:(W' (f p)).isEmpty=(W p).isEmpty:=by rw [h.w p hp]; cases W p <;> rfl
  unfold L2.need;rw [h.g p hp,e,e,e2]
theorem Rn.rows (h:Rn W W' g g' f S) (t:Nat) (p:α) (r:Bool) (hp:S p):(W' (f p)).map (fun w=>L2.need W' g' c t w r)=(W p).map fun w=>L2.need W g c t w r:=by
 rw [h.w p hp,List.map_map];exact List.map_congr_left fun w hw=>h.need t w r (h.s p hp w hw)
theorem Rn.lo (h:Rn W W' g g' f S) {t:Nat} {p:α} {r:Bool} (hp:S p):loA W' g' c t (f p) r=loA W g c t p r:=by unfold loA; rw [h.rows t p r hp]
theorem Rn.hi (h:Rn W W' g g' f S) {t:Nat} {p:α} {r:Bool} (hp:S p):hiB W' g' c t (f p) r=hiB W g c t p r:=by unfold hiB; rw [h.rows t p r hp]
theorem Jil {f:α→α} {p q:α→Bool}:∀ {l:List α},(∀ x∈l,p (f x)=q x)→(l.map f).find? p=(l.find? q).map f
 | [],_=>rfl
 | a :: l,h=>by
  rw [List.map_cons,List.find?_cons,List.find?_cons,h a (List.mem_cons_self ..)];cases q a with
  | true=>rfl
  | false=>exact Jil fun x hx=>h x (List.mem_cons_of_mem _ hx)
theorem Rn.step (h:Rn W W' g g' f S) {t:Nat} {p:α} {k:Int} {r b:Bool} (hp:S p):Jax W' g' c t (f p) k r b=(Jax W g c t p k r b).map f:=by
 unfold Jax;rw [h.w p hp];exact Jil fun w hw=>by rw [h.need t w r (h.s p hp w hw)]
theorem Rn.win (h:Rn W W' g g' f S) {t:Nat} {p:α} {k:Int} {r:Bool} {b a:Int} (hp:S p):Ja4 W' g' c t (f p) k r b a=Ja4 W g c t p k r b a:=by
 unfold Ja4;rw [h.step hp,Option.isSome_map]
theorem Rn.ans (h:Rn W W' g g' f S) {t:Nat} {p:α} {k:Int} {r:Bool} {b:Int} (hp:S p):JcX W' g' c t (f p) k r b=JcX W g c t p k r b:=by
 unfold JcX;rw [h.win hp,h.win hp]
theorem Rn.bid (h:Rn W W' g g' f S) {t:Nat} {p:α} {k:Int} {r:Bool} (hp:S p):Jiu W' g' c t (f p) k r=Jiu W g c t p k r:=by
 unfold Jiu;rw [h.lo hp,h.hi hp]
end
section
variable {zs1 zs2:List (Str×Str)} {gs1 gs2 ps:List Str} {f:Str→Str} {c:Int} {m:Nat} {p:Str} {n:Int} {r:Bool}
abbrev RnB (zs1 zs2:List (Str×Str)) (gs1 gs2 ps:List Str) (f:Str→Str):Prop:=Rn (Js zs1) (Js zs2) (gB gs1) (gB gs2) f (·∈ps)
theorem RnB.end_ (h:RnB zs1 zs2 gs1 gs2 ps f) (hp:p∈ps):YL zs2 gs2 m (f p)↔YL zs1 gs1 m p:=by
 have hg:(f p∈gs2)↔p∈gs1:=by
  have:=h.g p hp;unfold gB at this;rw [Bool.eq_iff_iff,decide_eq_true_eq,decide_eq_true_eq] at this;exact this
 have hw:Js zs2 (f p)=[]↔Js zs1 p=[]:=by rw [h.w p hp,List.map_eq_nil_iff]
 unfold YL;rw [hg,hw]
theorem RnB.least (h:RnB zs1 zs2 gs1 gs2 ps f) (hp:p∈ps):Jbb zs2 gs2 c m (f p) r=Jbb zs1 gs1 c m p r:=by
 unfold Jbb J5;rw [h.need m p r hp]
theorem RnB.bidV (h:RnB zs1 zs2 gs1 gs2 ps f) (hp:p∈ps):Pf.bidV zs2 gs2 c m (f p) n r=Pf.bidV zs1 gs1 c m p n r:=by
 unfold Pf.bidV J5;rw [h.need m p r hp,h.bid hp];by_cases he:YL zs1 gs1 m p
 ·rw [if_pos ((h.end_ hp).mpr he),if_pos he]
 ·rw [if_neg (fun z=>he ((h.end_ hp).mp z)),if_neg he]
theorem RnB.ansV {b:Int} (h:RnB zs1 zs2 gs1 gs2 ps f) (hp:p∈ps):Pf.ansV zs2 gs2 c m (f p) n r b=Pf.ansV zs1 gs1 c m p n r b:=by
 unfold Pf.ansV;rw [h.ans hp];by_cases he:YL zs1 gs1 m p
 ·rw [if_pos ((h.end_ hp).mpr he),if_pos he]
 ·rw [if_neg (fun z=>he ((h.end_ hp).mp z)),if_neg he]
theorem RnB.stepV {b:Bool} (h:RnB zs1 zs2 gs1 gs2 ps f) (hp:p∈ps):(Pf.stepV zs1 gs1 c m p n r b=.non∧Pf.stepV zs2 gs2 c m (f p) n r b=.non)∨∃ w∈ps,Pf.stepV zs1 gs1 c m p n r b=.str w∧Pf.stepV zs2 gs2 c m (f p) n r b=.str (f w):=by
 unfold Pf.stepV;rw [h.step hp];by_cases he:YL zs1 gs1 m p
 ·rw [if_pos ((h.end_ hp).mpr he),if_pos he]; exact .inl ⟨rfl,rfl⟩
 ·rw [if_neg (fun z=>he ((h.end_ hp).mp z)),if_neg he];cases hs:Jax (Js zs1) (gB gs1) c (m - 1) p n r b with
  | none=>exact .inl ⟨rfl,rfl⟩
  | some w=>exact .inr ⟨w,h.s p hp w (List.mem_of_find?_eq_some hs),rfl,rfl⟩
end
section
variable {P:Program} {w:World} {K:PySem.W.Frag} {mg:Str→Option Value} {base:Heap}
def JjU (T:Txt K mg) (H:Hp) (k b:Addr) (q:Str) (c:Int) (m t:Nat) (n bid:Int) (r:Bool) (vw:Bool) (vl vb va vN vS:V):Prop:=∃ (ps:List Str) (zs:List (V×(Str×Str))) (gs:List Str),Bk K T.JC T.Jz H k b ps zs gs c t (t + 1)∧q∈ps∧decide (J5 (zs.map (·.2)) gs c m q r≤n)=vw∧Jbb (zs.map (·.2)) gs c m q r=vl∧bidV (zs.map (·.2)) gs c m q n r=vb∧ansV (zs.map (·.2)) gs c m q n r bid=va∧stepV (zs.map (·.2)) gs c m q n r true=vN∧stepV (zs.map (·.2)) gs c m q n r false=vS
theorem JjU.same {T:Txt K mg} {H H':Hp} {k b:Addr} {q:Str} {c:Int} {m t:Nat} {n bid:Int} {r vw:Bool} {vl vb va vN vS:V} (h:JjU T H k b q c m t n bid r vw vl vb va vN vS) (e:Jg H H'):JjU T H' k b q c m t n bid r vw vl vb va vN vS:=let ⟨ps,zs,gs,h1,h2⟩:=h; ⟨ps,zs,gs,h1.same e,h2⟩
def Jls (T:Txt K mg):Sp:=fun vs H Q _=>∃ (lb k1 k2 b1 b2:Addr) (p:Str) (c:Int) (m t:Nat) (n bid:Int) (r:Bool) (ps1:List Str) (zs1:List (V×(Str×Str))) (gs1 ps2:List Str) (zs2:List (V×(Str×Str))) (gs2:List Str),vs=[.ref lb,.str p,.int (m:Int),.int n,.str (hs r),.int bid]∧H lb=some (.lst [.ref k1,.ref k2])∧Bk K T.JC T.Jz H k1 b1 ps1 zs1 gs1 c t (t + 1)∧Bk K T.JC T.Jz H k2 b2 ps2 zs2 gs2 c t (t + 1)∧p∈ps1∧p∈ps2∧m≤t∧(0≤n∧n≤c)∧(0≤bid∧bid≤own c n (!r))∧RnB (zs1.map (·.2)) (zs2.map (·.2)) gs1 gs2 ps1 id∧∀ H',Jg H H'→Q (.bl true) H'
theorem JlX (T:Txt K mg):JM P w K mg base Zk 10 T.JgF T.Jfj ["_law_books", "_law_place", "_law_left_here", "_law_north", "_law_ribbon", "_law_bid"] (Jls T):=by
 refine T.JgP.F.ok JdE (fun vs H Q E h=>?_) (fun cdv A outer s H vs Q E hr h=>?_)
 ·obtain ⟨_,_,_,_,_,_,_,_,_,_,_,_,_,_,_,_,_,_,rfl,_⟩:=h;rfl
 ·obtain ⟨lb,k1,k2,b1,b2,p,c,m,t,n,bid,r,ps1,zs1,gs1,ps2,zs2,gs2,rfl,hlb,B1,B2,hp,hp2,hm,hn,hbid,R,q⟩:=h;have hu:=Jck hr;have szl:sizeLine=16777216:=sizeLine_eq;refine ⟨_,(@Jd _ _ _ _ _ (@Jjq _ _ _ _ _ _ _ _ _ _ 6 1 ["_law_book", "_law_place", "_law_left_here", "_law_north", "_law_ribbon"] [1,2,3,4] _ _ _ _ ["_law_books", "_law_place", "_law_left_here", "_law_north", "_law_ribbon", "_law_bid", "_law_sides", "_law_pairs_here", "_law_pair"] ((Jm Jay).names) (by decide +kernel) JdE.nd rfl (@Yv _ _ _ _ (@pv _ 0 _ _ rfl (.inl rfl) rfl rfl)) (fun _ _ _ _=>(@Y2 _ _ _ _ _ _ _ _ _ 0 (by decide +kernel) rfl rfl)) (fun _ _ _ _=>(@Zd _)) (fun _ _ _ _=>(@JS _ _ _ _ _ _ _ _ _ _ _ _ _ _ _ _ _ _ _ _ (@YB _ _ _ _ _ _ _ _ _ 0 rfl rfl (by decide) (by decide)) T.JD T.YR.m (Jbr T) (hr.mono (by decide)) T.YR.b .nil YY (@Ja _ _ _ _ _ (@JT _ _ _ _ _ _ _ _ _ 1 rfl rfl (by decide) (by decide)) (@Ja _ _ _ _ _ (@JT _ _ _ _ _ _ _ _ _ 2 rfl rfl (by decide) (by decide)) (@Ja _ _ _ _ _ (@JT _ _ _ _ _ _ _ _ _ 3 rfl rfl (by decide) (by decide)) (@Ja _ _ _ _ _ (@JT _ _ _ _ _ _ _ _ _ 4 rfl rfl (by decide) (by decide)) (@Jc _) rfl) rfl) rfl) rfl) rfl rfl rfl)) rfl rfl rfl rfl rfl (by intro _; rfl)) (@Jd _ _ _ _ _ (@JN _ _ _ _ _ _ _ _ (@PW.pt _ _ _ (@Jcg _ _ _ _ _ _ _ (@Jr _ _ _ _ _ _ _ _ (@Jai _) (@JG _ _ _ _ _ _ _ (@JH _) (@pv _ 6 _ _ rfl (.inl rfl) rfl rfl) (@Jb _ _ _ _) (fun _ _=>rfl)) (@YC _ _ _ _ (@Ja _ _ _ _ _ (@JR _ _ _ _) (@Ja _ _ _ _ _ (@JR _ _ _ _) (@Jc _) rfl) rfl)) (by with_unfolding_all rfl)) (@JbM _ _ _ _ (@JfB _ _ _ _ (@JcF _ _ _ (@Jp _ _ _ _ _ _ _ _ _ _ _ _ _ _ _ T.JeQ (Jh8 T) (hr.mono (by decide)) JK (@Ja _ _ _ _ _ (@JG _ _ _ _ _ _ _ (@JH _) (@pv _ 6 _ _ rfl (.inl rfl) rfl rfl) (@Jb _ _ _ _) (fun _ _=>rfl)) (@Ja _ _ _ _ _ (@JG _ _ _ _ _ _ _ (@JH _) (@pv _ 6 _ _ rfl (.inl rfl) rfl rfl) (@Jb _ _ _ _) (fun _ _=>rfl)) (@Jc _) rfl) rfl) rfl (by decide) rfl rfl) (by intro _; rfl)))))) (@Jh _ _ _ (@JA _ _ _ _ (@JeF _ _ _ _))) (@Jw _)) (@Jd _ _ _ _ _ (@Ju _ _ 7 _ _ _ _ JdE.nd rfl (Or.inl rfl) (@YC _ _ _ _ (@Ja _ _ _ _ _ (@Jaz _ _ _ _ _ _ _ 1 ["_law_book", "_law_place", "_law_left_here", "_law_ribbon"] [1,2,4] _ _ _ _ ["_law_books", "_law_place", "_law_left_here", "_law_north", "_law_ribbon", "_law_bid", "_law_sides", "_law_pairs_here", "_law_pair"] ((Jm Jay).names) (by decide +kernel) (@Yv _ _ _ _ (@pv _ 0 _ _ rfl (.inl rfl) rfl rfl)) (fun _ _ _ _=>(@Y2 _ _ _ _ _ _ _ _ _ 0 (by decide +kernel) rfl rfl)) (fun _ _ _ _=>(@Zd _)) (fun _ _ _ _=>(@JS _ _ _ _ _ _ _ _ _ _ _ _ _ _ _ _ _ _ _ _ (@YB _ _ _ _ _ _ _ _ _ 0 rfl rfl (by decide) (by decide)) T.JD T.Jbm.m (Jhv T) (hr.mono (by decide)) T.Jbm.b .nil YY (@Ja _ _ _ _ _ (@JT _ _ _ _ _ _ _ _ _ 1 rfl rfl (by decide) (by decide)) (@Ja _ _ _ _ _ (@JT _ _ _ _ _ _ _ _ _ 2 rfl rfl (by decide) (by decide)) (@Ja _ _ _ _ _ (@JT _ _ _ _ _ _ _ _ _ 3 rfl rfl (by decide) (by decide)) (@Jc _) rfl) rfl) rfl) rfl rfl rfl)) rfl rfl rfl (by intro _; rfl)) (@Jc _) rfl)) rfl (.inl rfl)) (@Jd _ _ _ _ _ (@Jy _ _ _ _ (@Zm _ _ _ _ _ _ _ _ _ _ _ _ PySem.F.plainAttrs_list PySem.F.slot_list_append PySem.F.type_list_append (@Yc _) (@pv _ 7 _ _ rfl (.inl rfl) rfl rfl) (@Ja _ _ _ _ _ (@Jaz _ _ _ _ _ _ _ 1 ["_law_book", "_law_place", "_law_left_here", "_law_north", "_law_ribbon"] [1,2,3,4] _ _ _ _ ["_law_books", "_law_place", "_law_left_here", "_law_north", "_law_ribbon", "_law_bid", "_law_sides", "_law_pairs_here", "_law_pair"] ((Jm Jay).names) (by decide +kernel) (@Yv _ _ _ _ (@pv _ 0 _ _ rfl (.inl rfl) rfl rfl)) (fun _ _ _ _=>(@Y2 _ _ _ _ _ _ _ _ _ 0 (by decide +kernel) rfl rfl)) (fun _ _ _ _=>(@Zd _)) (fun _ _ _ _=>(@JS _ _ _ _ _ _ _ _ _ _ _ _ _ _ _ _ _ _ _ _ (@YB _ _ _ _ _ _ _ _ _ 0 rfl rfl (by decide) (by decide)) T.JD T.JaW.m (Jgr T) (hr.mono (by decide)) T.JaW.b .nil YY (@Ja _ _ _ _ _ (@JT _ _ _ _ _ _ _ _ _ 1 rfl rfl (by decide) (by decide)) (@Ja _ _ _ _ _ (@JT _ _ _ _ _ _ _ _ _ 2 rfl rfl (by decide) (by decide)) (@Ja _ _ _ _ _ (@JT _ _ _ _ _ _ _ _ _ 3 rfl rfl (by decide) (by decide)) (@Ja _ _ _ _ _ (@JT _ _ _ _ _ _ _ _ _ 4 rfl rfl (by decide) (by decide)) (@Jc _) rfl) rfl) rfl) rfl) rfl rfl rfl)) rfl rfl rfl (by intro _; rfl)) (@Jc _) rfl) rfl rfl rfl rfl rfl) rfl) (@Jd _ _ _ _ _ (@Jy _ _ _ _ (@Zm _ _ _ _ _ _ _ _ _ _ _ _ PySem.F.plainAttrs_list PySem.F.slot_list_append PySem.F.type_list_append (@Yc _) (@pv _ 7 _ _ rfl (.inl rfl) rfl rfl) (@Ja _ _ _ _ _ (@Jaz _ _ _ _ _ _ _ 1 ["_law_book", "_law_place", "_law_left_here", "_law_north", "_law_ribbon", "_law_bid"] [1,2,3,4,5] _ _ _ _ ["_law_books", "_law_place", "_law_left_here", "_law_north", "_law_ribbon", "_law_bid", "_law_sides", "_law_pairs_here", "_law_pair"] ((Jm Jay).names) (by decide +kernel) (@Yv _ _ _ _ (@pv _ 0 _ _ rfl (.inl rfl) rfl rfl)) (fun _ _ _ _=>(@Y2 _ _ _ _ _ _ _ _ _ 0 (by decide +kernel) rfl rfl)) (fun _ _ _ _=>(@Zd _)) (fun _ _ _ _=>(@JS _ _ _ _ _ _ _ _ _ _ _ _ _ _ _ _ _ _ _ _ (@YB _ _ _ _ _ _ _ _ _ 0 rfl rfl (by decide) (by decide)) T.JD T.ZP.m (JeR T) (hr.mono (by decide)) T.ZP.b .nil YY (@Ja _ _ _ _ _ (@JT _ _ _ _ _ _ _ _ _ 1 rfl rfl (by decide) (by decide)) (@Ja _ _ _ _ _ (@JT _ _ _ _ _ _ _ _ _ 2 rfl rfl (by decide) (by decide)) (@Ja _ _ _ _ _ (@JT _ _ _ _ _ _ _ _ _ 3 rfl rfl (by decide) (by decide)) (@Ja _ _ _ _ _ (@JT _ _ _ _ _ _ _ _ _ 4 rfl rfl (by decide) (by decide)) (@Ja _ _ _ _ _ (@JT _ _ _ _ _ _ _ _ _ 5 rfl rfl (by decide) (by decide)) (@Jc _) rfl) rfl) rfl) rfl) rfl) rfl rfl rfl)) rfl rfl rfl (by intro _; rfl)) (@Jc _) rfl) rfl rfl rfl rfl rfl) rfl) (@Jd _ _ _ _ _ (@Jy _ _ _ _ (@Zm _ _ _ _ _ _ _ _ _ _ _ _ PySem.F.plainAttrs_list PySem.F.slot_list_append PySem.F.type_list_append (@Yc _) (@pv _ 7 _ _ rfl (.inl rfl) rfl rfl) (@Ja _ _ _ _ _ (@Jaz _ _ _ _ _ _ _ 1 ["_law_book", "_law_place", "_law_left_here", "_law_north", "_law_ribbon"] [1,2,3,4] _ _ _ _ ["_law_books", "_law_place", "_law_left_here", "_law_north", "_law_ribbon", "_law_bid", "_law_sides", "_law_pairs_here", "_law_pair"] ((Jm Jay).names) (by decide +kernel) (@Yv _ _ _ _ (@pv _ 0 _ _ rfl (.inl rfl) rfl rfl)) (fun _ _ _ _=>(@Y2 _ _ _ _ _ _ _ _ _ 0 (by decide +kernel) rfl rfl)) (fun _ _ _ _=>(@Zd _)) (fun _ _ _ _=>(@JS _ _ _ _ _ _ _ _ _ _ _ _ _ _ _ _ _ _ _ _ (@YB _ _ _ _ _ _ _ _ _ 0 rfl rfl (by decide) (by decide)) T.JD T.YF.m (Jba T) (hr.mono (by decide)) T.YF.b .nil YY (@Ja _ _ _ _ _ (@JT _ _ _ _ _ _ _ _ _ 1 rfl rfl (by decide) (by decide)) (@Ja _ _ _ _ _ (@JT _ _ _ _ _ _ _ _ _ 2 rfl rfl (by decide) (by decide)) (@Ja _ _ _ _ _ (@JT _ _ _ _ _ _ _ _ _ 3 rfl rfl (by decide) (by decide)) (@Ja _ _ _ _ _ (@JT _ _ _ _ _ _ _ _ _ 4 rfl rfl (by decide) (by decide)) (@Ja _ _ _ _ _ (@JR _ _ _ _) (@Jc _) rfl) rfl) rfl) rfl) rfl) rfl rfl rfl)) rfl rfl rfl (by intro _; rfl)) (@Jc _) rfl) rfl rfl rfl rfl rfl) rfl) (@Jd _ _ _ _ _ (@Jy _ _ _ _ (@Zm _ _ _ _ _ _ _ _ _ _ _ _ PySem.F.plainAttrs_list PySem.F.slot_list_append PySem.F.type_list_append (@Yc _) (@pv _ 7 _ _ rfl (.inl rfl) rfl rfl) (@Ja _ _ _ _ _ (@Jaz _ _ _ _ _ _ _ 1 ["_law_book", "_law_place", "_law_left_here", "_law_north", "_law_ribbon"] [1,2,3,4] _ _ _ _ ["_law_books", "_law_place", "_law_left_here", "_law_north", "_law_ribbon", "_law_bid", "_law_sides", "_law_pairs_here", "_law_pair"] ((Jm Jay).names) (by decide +kernel) (@Yv _ _ _ _ (@pv _ 0 _ _ rfl (.inl rfl) rfl rfl)) (fun _ _ _ _=>(@Y2 _ _ _ _ _ _ _ _ _ 0 (by decide +kernel) rfl rfl)) (fun _ _ _ _=>(@Zd _)) (fun _ _ _ _=>(@JS _ _ _ _ _ _ _ _ _ _ _ _ _ _ _ _ _ _ _ _ (@YB _ _ _ _ _ _ _ _ _ 0 rfl rfl (by decide) (by decide)) T.JD T.YF.m (Jba T) (hr.mono (by decide)) T.YF.b .nil YY (@Ja _ _ _ _ _ (@JT _ _ _ _ _ _ _ _ _ 1 rfl rfl (by decide) (by decide)) (@Ja _ _ _ _ _ (@JT _ _ _ _ _ _ _ _ _ 2 rfl rfl (by decide) (by decide)) (@Ja _ _ _ _ _ (@JT _ _ _ _ _ _ _ _ _ 3 rfl rfl (by decide) (by decide)) (@Ja _ _ _ _ _ (@JT _ _ _ _ _ _ _ _ _ 4 rfl rfl (by decide) (by decide)) (@Ja _ _ _ _ _ (@JR _ _ _ _) (@Jc _) rfl) rfl) rfl) rfl) rfl) rfl rfl rfl)) rfl rfl rfl (by intro _; rfl)) (@Jc _) rfl) rfl rfl rfl rfl rfl) rfl) (@Jd _ _ _ _ _ (@YH _ _ _ _ _ _ _ _ PassesOwn.never rfl (@Yv _ _ _ _ (@pv _ 7 _ _ rfl (.inl rfl) rfl rfl)) (@Yj _ _ 8 _ JdE.nd rfl (Or.inl rfl) (.inl rfl)) (@Jh _ _ _ (@JN _ _ _ _ _ _ _ _ (@JfB _ _ _ _ (@JcF _ _ _ (@Jp _ _ _ _ _ _ _ _ _ _ _ _ _ _ _ T.JeQ (Jh8 T) (hr.mono (by decide)) JK (@Ja _ _ _ _ _ (@JG _ _ _ _ _ _ _ (@JH _) (@pv _ 8 _ _ rfl (.inl rfl) rfl rfl) (@Jb _ _ _ _) (fun _ _=>rfl)) (@Ja _ _ _ _ _ (@JG _ _ _ _ _ _ _ (@JH _) (@pv _ 8 _ _ rfl (.inl rfl) rfl rfl) (@Jb _ _ _ _) (fun _ _=>rfl)) (@Jc _) rfl) rfl) rfl (by decide) rfl rfl) (by intro _; rfl))) (@Jh _ _ _ (@JA _ _ _ _ (@JeF _ _ _ _))) (@Jw _))) (by intro _; rfl)) (@Jh _ _ _ (@JA _ _ _ _ (@JeF _ _ _ _))))))))))),?_⟩
  try dsimp only [cxK,Jeo]
  have c0:=B1.c0;have hmm:0≤(m:Int)∧(m:Int)≤(t:Int):=by omega
  have em:((m:Int)).toNat=m:=Int.toNat_natCast m;obtain ⟨vw,hvw⟩:∃ v,decide (J5 (zs1.map (·.2)) gs1 c m p r≤n)=v:=⟨_,rfl⟩
  obtain ⟨vl,hvl⟩:∃ v,Jbb (zs1.map (·.2)) gs1 c m p r=v:=⟨_,rfl⟩
  obtain ⟨vb,hvb⟩:∃ v,bidV (zs1.map (·.2)) gs1 c m p n r=v:=⟨_,rfl⟩
  obtain ⟨va,hva⟩:∃ v,ansV (zs1.map (·.2)) gs1 c m p n r bid=v:=⟨_,rfl⟩
  have st:∀ b,∃ v,stepV (zs1.map (·.2)) gs1 c m p n r b=v∧stepV (zs2.map (·.2)) gs2 c m p n r b=v∧JeL v=true:=fun b=>by
   rcases R.stepV (c:=c) (m:=m) (n:=n) (r:=r) (b:=b) hp with ⟨h1,h2⟩ | ⟨w,hw,h1,h2⟩
   ·exact ⟨_,h1,h2,rfl⟩
   ·exact ⟨_,h1,h2,rfl⟩
  obtain ⟨vN,hN1,hN2,fN⟩:=st true;obtain ⟨vS,hS1,hS2,fS⟩:=st false;have fl:JeL vl=true:=by rw [← hvl]; unfold Jbb; split <;> rfl
  have fb:JeL vb=true:=by
   rw [← hvb]; unfold bidV;split
   ·rfl
   ·split <;> rfl
  have fa:JeL va=true:=by
   rw [← hva]; unfold ansV;split
   ·rfl
   ·cases JcX (Js (zs1.map (·.2))) (gB gs1) c (m - 1) p n r bid <;> rfl
  have two:∀ {i:Nat} {xv:V},[V.ref k1,V.ref k2][i]?=some xv→∃ kk bk,i < 2∧xv=.ref kk∧JjU T H kk bk p c m t n bid r vw vl vb va vN vS:=by
   intro i xv hx
   match i,hx with
   | 0,hx=>exact ⟨k1,b1,by decide,(Option.some.inj hx).symm,ps1,zs1,gs1,B1,hp,hvw,hvl,hvb,hva,hN1,hS1⟩
   | 1,hx=>exact ⟨k2,b2,by decide,(Option.some.inj hx).symm,ps2,zs2,gs2,B2,hp2,by rw [← hvw]; unfold J5; exact congrArg (fun z=>decide (z≤n)) (R.need m p r hp),(R.least (f:=id) hp).trans hvl,(R.bidV (f:=id) hp).trans hvb,(R.ansV (f:=id) hp).trans hva,hN2,hS2⟩
  have eH:=Jg.refl H;refine ⟨_,rfl,lb,rfl,⟨_,Jq.of (eH _ _ hlb)⟩,fun D1 nD=>?_⟩;refine Jav (xs:=[.ref k1,.ref k2]) (fun i ys Hz=>Jg H Hz∧Hz D1=some (.lst ys)∧ys=[.str (hs vw),.str (hs vw)].take i) rfl (fun i ys Hz z=>Jq.of (z.1 _ _ (eH _ _ hlb))) ⟨Jg.upd nD,Jf,rfl⟩ (fun i ys Hz z=>z.2.1) ?_ ?_
  ·rintro i xv ys Hz hx ⟨f2,hy,rfl⟩;obtain ⟨kk,bk,hi,rfl,O⟩:=two hx;obtain ⟨ps,zs,gs,Bk,hq,o1,o2,o3,o4,o5,o6⟩:=O.same (eH.trans f2);obtain ⟨kdx,lk,hk⟩:=Bk.ins;have tq:=Yz (Bk.B.G.p3 p hq);refine tcT ⟨_,rfl,kk,kdx,_,rfl,hk,rfl,_,rfl,_,rfl,_,rfl,_,rfl,kk,bk,p,hs r,(m:Int),n,ps,zs,gs,c,t,rfl,tq,Zc r,Bk,ZL ⟨hq,hmm,hn,YD r⟩,fun _ _ _ r' hr' Hy f3=>?_⟩
   ·obtain rfl:=YE hr';rw [em,o1];refine ⟨f3 _ _ hy,?_,fun x u qq=>?_,Jf,?_⟩
    ·rw [List.length_take]; exact Nat.lt_of_le_of_lt (Nat.min_le_right _ _) (by show 2 < sizeLine; decide)
    ·rw [Jl (Jn qq nD)]; exact f3 _ _ (f2 _ _ qq)
    ·match i,hi with
     | 0,_=>rfl
     | 1,_=>rfl
  rintro ys Ha ⟨f1,hD1,rfl⟩;have eHa:=eH.trans f1;refine ⟨_,rfl,D1,_,_,.str (hs vw),rfl,rfl,Jq.of hD1,rfl,by show 2≤sizeLine; decide,fun l nl=>⟨l,_,rfl,.inl (Jq.of Jf),rfl,rfl,?_⟩⟩;rw [if_pos rfl,Jng];have s2:=Jg.upd (o:=.lst [.str "north",.str "south"]) nl;have hD1':=s2 _ _ hD1;have e2:=eHa.trans s2;generalize upd Ha l (.lst [.str "north",.str "south"])=H2 at s2 hD1' e2;refine ⟨_,rfl,ZG ⟨_,rfl,D1,_,_,.str (hs vw),rfl,rfl,Jq.of hD1',rfl,_,rfl,D1,_,_,.str (hs vw),rfl,rfl,Jq.of hD1',rfl,_,rfl,rfl,_,rfl,ZG ?_⟩⟩;refine ⟨_,rfl,lb,rfl,⟨_,Jq.of (e2 _ _ hlb)⟩,fun D2 nD=>?_⟩;refine Jav (xs:=[.ref k1,.ref k2]) (fun i ys Hz=>Jg H2 Hz∧Hz D2=some (.lst ys)∧ys=[vl,vl].take i) rfl (fun i ys Hz z=>Jq.of (z.1 _ _ (e2 _ _ hlb))) ⟨Jg.upd nD,Jf,rfl⟩ (fun i ys Hz z=>z.2.1) ?_ ?_
  ·rintro i xv ys Hz hx ⟨f2,hy,rfl⟩;obtain ⟨kk,bk,hi,rfl,O⟩:=two hx;obtain ⟨ps,zs,gs,Bk,hq,o1,o2,o3,o4,o5,o6⟩:=O.same (e2.trans f2);obtain ⟨kdx,lk,hk⟩:=Bk.ins;have tq:=Yz (Bk.B.G.p3 p hq);refine tcT ⟨_,rfl,kk,kdx,_,rfl,hk,rfl,_,rfl,_,rfl,_,rfl,kk,bk,p,hs r,(m:Int),ps,zs,gs,c,t,rfl,tq,Zc r,Bk,ZL ⟨hq,hmm,⟨c0,Int.le_refl _⟩,YD r⟩,fun _ _ r' hr' Hy f3=>?_⟩
   ·obtain rfl:=YE hr';rw [em,o2];refine ⟨f3 _ _ hy,?_,fun x u qq=>?_,Jf,?_⟩
    ·rw [List.length_take]; exact Nat.lt_of_le_of_lt (Nat.min_le_right _ _) (by show 2 < sizeLine; decide)
    ·rw [Jl (Jn qq nD)]; exact f3 _ _ (f2 _ _ qq)
    ·match i,hi with
     | 0,_=>rfl
     | 1,_=>rfl
  rintro ys H2a ⟨f2,hD2,rfl⟩;have e2a:=e2.trans f2;refine ⟨by show 1≤sizeLine; decide,fun L nL=>?_⟩;have zL:H L=none:=e2a.free nL;have s3:=Jg.upd (o:=.lst [.ref D2]) nL;have e3:=e2a.trans s3;have hL:upd H2a L (.lst [.ref D2]) L=some (.lst [.ref D2]):=Jf;have n2:D2≠L:=Jn hD2 nL;replace hD2:=s3 _ _ hD2;generalize upd H2a L (.lst [.ref D2])=H3 at s3 e3 hL hD2;refine ⟨_,rfl,.inl ⟨rfl,_,Jq.of hL⟩,?_⟩;refine ⟨_,rfl,lb,rfl,⟨_,Jq.of (e3 _ _ hlb)⟩,fun D3 nD=>?_⟩;refine Jav (xs:=[.ref k1,.ref k2]) (fun i ys Hz=>Jg H3 Hz∧Hz D3=some (.lst ys)∧ys=[vb,vb].take i) rfl (fun i ys Hz z=>Jq.of (z.1 _ _ (e3 _ _ hlb))) ⟨Jg.upd nD,Jf,rfl⟩ (fun i ys Hz z=>z.2.1) ?_ ?_
  ·rintro i xv ys Hz hx ⟨f2,hy,rfl⟩;obtain ⟨kk,bk,hi,rfl,O⟩:=two hx;obtain ⟨ps,zs,gs,Bk,hq,o1,o2,o3,o4,o5,o6⟩:=O.same (e3.trans f2);obtain ⟨kdx,lk,hk⟩:=Bk.ins;have tq:=Yz (Bk.B.G.p3 p hq);refine tcT ⟨_,rfl,kk,kdx,_,rfl,hk,rfl,_,rfl,_,rfl,_,rfl,_,rfl,kk,bk,p,hs r,(m:Int),n,ps,zs,gs,c,t,rfl,tq,Zc r,Bk,ZL ⟨hq,hmm,hn,YD r⟩,fun _ _ _ r' hr' Hy f3=>?_⟩
   ·obtain rfl:=YE hr';rw [em,o3];refine ⟨f3 _ _ hy,?_,fun x u qq=>?_,Jf,?_⟩
    ·rw [List.length_take]; exact Nat.lt_of_le_of_lt (Nat.min_le_right _ _) (by show 2 < sizeLine; decide)
    ·rw [Jl (Jn qq nD)]; exact f3 _ _ (f2 _ _ qq)
    ·match i,hi with
     | 0,_=>rfl
     | 1,_=>rfl
  rintro ys H3a ⟨f3,hD3,rfl⟩;have e3a:=e3.trans f3;have n3:D3≠L:=fun z=>Jn hL nD z.symm
  refine ⟨L,_,_,rfl,rfl,f3 _ _ hL,by show 1 < sizeLine; decide,?_⟩;rw [show [V.ref D2] ++ [V.ref D3]=[V.ref D2,V.ref D3] from rfl];have e4:Jg H (upd H3a L (.lst [.ref D2,.ref D3])):=fun x u qq=>by rw [Jl (Jn qq zL)]; exact e3a _ _ qq
  replace hL:upd H3a L (.lst [.ref D2,.ref D3]) L=some (.lst [.ref D2,.ref D3]):=Jf;replace hD2:upd H3a L (.lst [.ref D2,.ref D3]) D2=some (.lst [vl,vl]):=by rw [Jl n2]; exact f3 _ _ hD2
  replace hD3:upd H3a L (.lst [.ref D2,.ref D3]) D3=some (.lst [vb,vb]):=by rw [Jl n3]; exact hD3
  generalize upd H3a L (.lst [.ref D2,.ref D3])=H4 at e4 hL hD2 hD3;refine ⟨_,rfl,.inl ⟨rfl,_,Jq.of hL⟩,?_⟩;refine ⟨_,rfl,lb,rfl,⟨_,Jq.of (e4 _ _ hlb)⟩,fun D4 nD=>?_⟩;refine Jav (xs:=[.ref k1,.ref k2]) (fun i ys Hz=>Jg H4 Hz∧Hz D4=some (.lst ys)∧ys=[va,va].take i) rfl (fun i ys Hz z=>Jq.of (z.1 _ _ (e4 _ _ hlb))) ⟨Jg.upd nD,Jf,rfl⟩ (fun i ys Hz z=>z.2.1) ?_ ?_
  ·rintro i xv ys Hz hx ⟨f2,hy,rfl⟩;obtain ⟨kk,bk,hi,rfl,O⟩:=two hx;obtain ⟨ps,zs,gs,Bk,hq,o1,o2,o3,o4,o5,o6⟩:=O.same (e4.trans f2);obtain ⟨kdx,lk,hk⟩:=Bk.ins;have tq:=Yz (Bk.B.G.p3 p hq);refine tcT ⟨_,rfl,kk,kdx,_,rfl,hk,rfl,_,rfl,_,rfl,_,rfl,_,rfl,_,rfl,kk,bk,p,hs r,(m:Int),n,bid,ps,zs,gs,c,t,rfl,tq,Zc r,Bk,ZL ⟨hq,hmm,hn,YD r⟩,(fun _ _ _ r' hr' h=>absurd (by rw [← YE hr']; exact hbid) h),fun _ _ _ r' hr' _ Hy f3=>?_⟩
   ·obtain rfl:=YE hr';rw [em,o4];refine ⟨f3 _ _ hy,?_,fun x u qq=>?_,Jf,?_⟩
    ·rw [List.length_take]; exact Nat.lt_of_le_of_lt (Nat.min_le_right _ _) (by show 2 < sizeLine; decide)
    ·rw [Jl (Jn qq nD)]; exact f3 _ _ (f2 _ _ qq)
    ·match i,hi with
     | 0,_=>rfl
     | 1,_=>rfl
  rintro ys H4a ⟨f4,hD4,rfl⟩;have e4a:=e4.trans f4;have n4:D4≠L:=fun z=>Jn hL nD z.symm
  refine ⟨L,_,_,rfl,rfl,f4 _ _ hL,by show 2 < sizeLine; decide,?_⟩;rw [show [V.ref D2,V.ref D3] ++ [V.ref D4]=[V.ref D2,V.ref D3,V.ref D4] from rfl];have e5:Jg H (upd H4a L (.lst [.ref D2,.ref D3,.ref D4])):=fun x u qq=>by rw [Jl (Jn qq zL)]; exact e4a _ _ qq
  replace hL:upd H4a L (.lst [.ref D2,.ref D3,.ref D4]) L=some (.lst [.ref D2,.ref D3,.ref D4]):=Jf;replace hD2:upd H4a L (.lst [.ref D2,.ref D3,.ref D4]) D2=some (.lst [vl,vl]):=by rw [Jl n2]; exact f4 _ _ hD2
  replace hD3:upd H4a L (.lst [.ref D2,.ref D3,.ref D4]) D3=some (.lst [vb,vb]):=by rw [Jl n3]; exact f4 _ _ hD3
  replace hD4:upd H4a L (.lst [.ref D2,.ref D3,.ref D4]) D4=some (.lst [va,va]):=by rw [Jl n4]; exact hD4
  generalize upd H4a L (.lst [.ref D2,.ref D3,.ref D4])=H5 at e5 hL hD2 hD3 hD4;refine ⟨_,rfl,.inl ⟨rfl,_,Jq.of hL⟩,?_⟩;refine ⟨_,rfl,lb,rfl,⟨_,Jq.of (e5 _ _ hlb)⟩,fun D5 nD=>?_⟩;refine Jav (xs:=[.ref k1,.ref k2]) (fun i ys Hz=>Jg H5 Hz∧Hz D5=some (.lst ys)∧ys=[vN,vN].take i) rfl (fun i ys Hz z=>Jq.of (z.1 _ _ (e5 _ _ hlb))) ⟨Jg.upd nD,Jf,rfl⟩ (fun i ys Hz z=>z.2.1) ?_ ?_
  ·rintro i xv ys Hz hx ⟨f2,hy,rfl⟩;obtain ⟨kk,bk,hi,rfl,O⟩:=two hx;obtain ⟨ps,zs,gs,Bk,hq,o1,o2,o3,o4,o5,o6⟩:=O.same (e5.trans f2);obtain ⟨kdx,lk,hk⟩:=Bk.ins;have tq:=Yz (Bk.B.G.p3 p hq);refine tcT ⟨_,rfl,kk,kdx,_,rfl,hk,rfl,_,rfl,_,rfl,_,rfl,_,rfl,kk,bk,p,hs r,hs true,(m:Int),n,ps,zs,gs,c,t,rfl,tq,Zc r,Zc true,Bk,ZL ⟨hq,hmm,hn,YD r⟩,(fun _ h=>by rw [YD] at h; cases h),fun _ _ _ r' h' hr' hh' Hy f3=>?_⟩
   ·obtain rfl:=YE hr';obtain rfl:=YE hh';rw [em,o5];refine ⟨f3 _ _ hy,?_,fun x u qq=>?_,Jf,?_⟩
    ·rw [List.length_take]; exact Nat.lt_of_le_of_lt (Nat.min_le_right _ _) (by show 2 < sizeLine; decide)
    ·rw [Jl (Jn qq nD)]; exact f3 _ _ (f2 _ _ qq)
    ·match i,hi with
     | 0,_=>rfl
     | 1,_=>rfl
  rintro ys H5a ⟨f5,hD5,rfl⟩;have e5a:=e5.trans f5;have n5:D5≠L:=fun z=>Jn hL nD z.symm
  refine ⟨L,_,_,rfl,rfl,f5 _ _ hL,by show 3 < sizeLine; decide,?_⟩;rw [show [V.ref D2,V.ref D3,V.ref D4] ++ [V.ref D5]=[V.ref D2,V.ref D3,V.ref D4,V.ref D5] from rfl];have e6:Jg H (upd H5a L (.lst [.ref D2,.ref D3,.ref D4,.ref D5])):=fun x u qq=>by rw [Jl (Jn qq zL)]; exact e5a _ _ qq
  replace hL:upd H5a L (.lst [.ref D2,.ref D3,.ref D4,.ref D5]) L=some (.lst [.ref D2,.ref D3,.ref D4,.ref D5]):=Jf;replace hD2:upd H5a L (.lst [.ref D2,.ref D3,.ref D4,.ref D5]) D2=some (.lst [vl,vl]):=by rw [Jl n2]; exact f5 _ _ hD2
  replace hD3:upd H5a L (.lst [.ref D2,.ref D3,.ref D4,.ref D5]) D3=some (.lst [vb,vb]):=by rw [Jl n3]; exact f5 _ _ hD3
  replace hD4:upd H5a L (.lst [.ref D2,.ref D3,.ref D4,.ref D5]) D4=some (.lst [va,va]):=by rw [Jl n4]; exact f5 _ _ hD4
  replace hD5:upd H5a L (.lst [.ref D2,.ref D3,.ref D4,.ref D5]) D5=some (.lst [vN,vN]):=by rw [Jl n5]; exact hD5
  generalize upd H5a L (.lst [.ref D2,.ref D3,.ref D4,.ref D5])=H6 at e6 hL hD2 hD3 hD4 hD5;refine ⟨_,rfl,.inl ⟨rfl,_,Jq.of hL⟩,?_⟩;refine ⟨_,rfl,lb,rfl,⟨_,Jq.of (e6 _ _ hlb)⟩,fun D6 nD=>?_⟩;refine Jav (xs:=[.ref k1,.ref k2]) (fun i ys Hz=>Jg H6 Hz∧Hz D6=some (.lst ys)∧ys=[vS,vS].take i) rfl (fun i ys Hz z=>Jq.of (z.1 _ _ (e6 _ _ hlb))) ⟨Jg.upd nD,Jf,rfl⟩ (fun i ys Hz z=>z.2.1) ?_ ?_
  ·rintro i xv ys Hz hx ⟨f2,hy,rfl⟩;obtain ⟨kk,bk,hi,rfl,O⟩:=two hx;obtain ⟨ps,zs,gs,Bk,hq,o1,o2,o3,o4,o5,o6⟩:=O.same (e6.trans f2);obtain ⟨kdx,lk,hk⟩:=Bk.ins;have tq:=Yz (Bk.B.G.p3 p hq);refine tcT ⟨_,rfl,kk,kdx,_,rfl,hk,rfl,_,rfl,_,rfl,_,rfl,_,rfl,kk,bk,p,hs r,hs false,(m:Int),n,ps,zs,gs,c,t,rfl,tq,Zc r,Zc false,Bk,ZL ⟨hq,hmm,hn,YD r⟩,(fun _ h=>by rw [YD] at h; cases h),fun _ _ _ r' h' hr' hh' Hy f3=>?_⟩
   ·obtain rfl:=YE hr';obtain rfl:=YE hh';rw [em,o6];refine ⟨f3 _ _ hy,?_,fun x u qq=>?_,Jf,?_⟩
    ·rw [List.length_take]; exact Nat.lt_of_le_of_lt (Nat.min_le_right _ _) (by show 2 < sizeLine; decide)
    ·rw [Jl (Jn qq nD)]; exact f3 _ _ (f2 _ _ qq)
    ·match i,hi with
     | 0,_=>rfl
     | 1,_=>rfl
  rintro ys H6a ⟨f6,hD6,rfl⟩;have e6a:=e6.trans f6;have n6:D6≠L:=fun z=>Jn hL nD z.symm
  refine ⟨L,_,_,rfl,rfl,f6 _ _ hL,by show 4 < sizeLine; decide,?_⟩;rw [show [V.ref D2,V.ref D3,V.ref D4,V.ref D5] ++ [V.ref D6]=[V.ref D2,V.ref D3,V.ref D4,V.ref D5,V.ref D6] from rfl];have e7:Jg H (upd H6a L (.lst [.ref D2,.ref D3,.ref D4,.ref D5,.ref D6])):=fun x u qq=>by rw [Jl (Jn qq zL)]; exact e6a _ _ qq
  replace hL:upd H6a L (.lst [.ref D2,.ref D3,.ref D4,.ref D5,.ref D6]) L=some (.lst [.ref D2,.ref D3,.ref D4,.ref D5,.ref D6]):=Jf;replace hD2:upd H6a L (.lst [.ref D2,.ref D3,.ref D4,.ref D5,.ref D6]) D2=some (.lst [vl,vl]):=by rw [Jl n2]; exact f6 _ _ hD2
  replace hD3:upd H6a L (.lst [.ref D2,.ref D3,.ref D4,.ref D5,.ref D6]) D3=some (.lst [vb,vb]):=by rw [Jl n3]; exact f6 _ _ hD3
  replace hD4:upd H6a L (.lst [.ref D2,.ref D3,.ref D4,.ref D5,.ref D6]) D4=some (.lst [va,va]):=by rw [Jl n4]; exact f6 _ _ hD4
  replace hD5:upd H6a L (.lst [.ref D2,.ref D3,.ref D4,.ref D5,.ref D6]) D5=some (.lst [vN,vN]):=by rw [Jl n5]; exact f6 _ _ hD5
  replace hD6:upd H6a L (.lst [.ref D2,.ref D3,.ref D4,.ref D5,.ref D6]) D6=some (.lst [vS,vS]):=by rw [Jl n6]; exact hD6
  generalize upd H6a L (.lst [.ref D2,.ref D3,.ref D4,.ref D5,.ref D6])=H7 at e7 hL hD2 hD3 hD4 hD5 hD6;refine ⟨_,rfl,L,rfl,⟨_,Jq.of hL⟩,?_⟩;refine Jaq (xs:=[.ref D2,.ref D3,.ref D4,.ref D5,.ref D6]) (fun i σ H8=>H8=H7∧∃ v8,σ=[some (.ref lb),some (.str p),some (.int (m:Int)),some (.int n),some (.str (hs r)),some (.int bid),some (.ref D1),some (.ref L),v8]) ⟨rfl,_,rfl⟩ (fun i σ H8 _ z=>by rw [z.1]; exact Jq.of hL) ?_ ?_
  ·rintro i xv σ H8 hx ⟨rfl,v8,rfl⟩;obtain ⟨Dk,vk,rfl,hDk,fk⟩:∃ Dk vk,xv=.ref Dk∧H8 Dk=some (.lst [vk,vk])∧JeL vk=true:=by
    match i,hx with
    | 0,hx=>exact ⟨D2,vl,(Option.some.inj hx).symm,hD2,fl⟩
    | 1,hx=>exact ⟨D3,vb,(Option.some.inj hx).symm,hD3,fb⟩
    | 2,hx=>exact ⟨D4,va,(Option.some.inj hx).symm,hD4,fa⟩
    | 3,hx=>exact ⟨D5,vN,(Option.some.inj hx).symm,hD5,fN⟩
    | 4,hx=>exact ⟨D6,vS,(Option.some.inj hx).symm,hD6,fS⟩
   exact ⟨_,rfl,Dk,_,_,vk,rfl,rfl,Jq.of hDk,rfl,_,rfl,Dk,_,_,vk,rfl,rfl,Jq.of hDk,rfl,vk,rfl,fk,_,rfl,ZG ⟨rfl,_,rfl⟩⟩
  rintro σ H8 ⟨rfl,v8,rfl⟩;exact q _ e7
end
section
variable {P:Program} {w:World} {K:PySem.W.Frag} {mg:Str→Option Value} {base:Heap}
theorem Bk.put {C CB k b lb:Addr} {H:Hp} {ps:List Str} {zs:List (V×(Str×Str))} {gs:List Str} {c:Int} {t n:Nat} {xs ys:List V} (h:Bk K C CB H k b ps zs gs c t n) (hn:1≤n) (hl:H lb=some (.lst xs)) (hx:xs=[]∨∃ g C' dx fs,xs=[.ref g]∧H g=some (.ins C' dx fs)):Bk K C CB (upd H lb (.lst ys)) k b ps zs gs c t n:=by
 obtain ⟨⟨dx,tp,tl,tg,h1,h2,h3,h4,h5⟩,G⟩:=h.B;obtain ⟨kdx,l,rs,k1,k2,k3,k4⟩:=h.at_;have u:∀ {x:Addr} {o:HO},H x=some o→(∀ zs,o≠.lst zs)→upd H lb (.lst ys) x=some o:=fun hx ho=>by
  rw [Jl (ZC hx hl (ho _))]; exact hx
 have ll:l≠lb:=fun z=>by
  rw [z,hl] at k2;have k2:xs=rs.map V.ref:=by injection k2 with k2; injection k2
  rcases hx with hx | ⟨g,C',dx',fs,hx,hg⟩
  ·rw [hx] at k2;have:=congrArg List.length k2;rw [List.length_map,k3] at this;simp at this;omega
  ·rw [hx] at k2;cases rs with
   | nil=>cases k2
   | cons r rs =>
    have e:r=g:=by
     have:=congrArg List.head? k2;simpa using this.symm
    obtain ⟨kvs,r1,_⟩:=k4 0 r rfl;rw [e,hg] at r1;cases r1
 exact ⟨⟨⟨dx,tp,tl,tg,u h1 (fun _ z=>nomatch z),u h2 (fun _ z=>nomatch z),u h3 (fun _ z=>nomatch z),Jd4 h4 hl,u h5 (fun _ z=>nomatch z)⟩,G⟩,h.c0,h.c1,h.t1,kdx,l,rs,u k1 (fun _ z=>nomatch z),by rw [Jl ll]; exact k2,k3,fun i a q=>let ⟨kvs,r1,r2⟩:=k4 i a q; ⟨kvs,u r1 (fun _ z=>nomatch z),r2⟩⟩
theorem JnH {ps gs pw gw ps1 gs1 gs2:List Str} {zs lw zs1 zs2:List (V×(Str×Str))} (G:Ja1 ps (zs.map (·.2)) gs) (W:Wid ps (zs.map (·.2)) gs pw (lw.map (·.2)) gw) (pp1:ps1.Perm ps) (zp1:zs1.Perm zs) (zo1:(zs1.map (·.2)).Pairwise ple) (gp1:gs1.Perm gs) (zp2:zs2.Perm lw) (zo2:(zs2.map (·.2)).Pairwise ple) (gp2:gs2.Perm gw) :
  RnB (zs1.map (·.2)) (zs2.map (·.2)) gs1 gs2 ps1 id:=by
 have wi:∀ {p w:Str},w∈Js (zs1.map (·.2)) p→w∈ps:=fun {p w} h=>Jew G ((JdC (zp1.map (·.2)) p).mem_iff.mp h)
 refine ⟨fun p hp=>?_,fun p hp w hw=>pp1.mem_iff.mpr (wi hw),fun p hp=>?_⟩
 ·have hp:=pp1.mem_iff.mp hp;rw [List.map_id];exact Jfx (fun _ _=>Jlt) (((JdC (zp2.map (·.2)) p).trans (W.w p hp)).trans (JdC (zp1.map (·.2)) p).symm) (JdX zo2 p) (JdX zo1 p)
 ·have hp:=pp1.mem_iff.mp hp;show decide (p∈gs2)=decide (p∈gs1);rw [Bool.eq_iff_iff,decide_eq_true_eq,decide_eq_true_eq,gp2.mem_iff,gp1.mem_iff];exact W.g p hp
def Jc2 (T:Txt K mg) (H:Hp) (k:Addr) (ps:List Str) (zs:List (V×(Str×Str))) (gs:List Str) (c:Int) (t:Nat):Prop:=∃ (b:Addr) (ps':List Str) (zs':List (V×(Str×Str))) (gs':List Str),Bk K T.JC T.Jz H k b ps' zs' gs' c t (t + 1)∧ps'.Perm ps∧zs'.Perm zs∧(zs'.map (·.2)).Pairwise ple∧gs'.Perm gs
theorem Jc2.same {T:Txt K mg} {H H':Hp} {k:Addr} {ps:List Str} {zs:List (V×(Str×Str))} {gs:List Str} {c:Int} {t:Nat} (h:Jc2 T H k ps zs gs c t) (e:Jg H H'):Jc2 T H' k ps zs gs c t:=let ⟨b,ps',zs',gs',h1,h2⟩:=h; ⟨b,ps',zs',gs',h1.same e,h2⟩
theorem Jc2.put {T:Txt K mg} {H:Hp} {k lb:Addr} {ps:List Str} {zs:List (V×(Str×Str))} {gs:List Str} {c:Int} {t:Nat} {xs ys:List V} (h:Jc2 T H k ps zs gs c t) (hl:H lb=some (.lst xs)) (hx:xs=[]∨∃ g C' dx fs,xs=[.ref g]∧H g=some (.ins C' dx fs)):Jc2 T (upd H lb (.lst ys)) k ps zs gs c t:=let ⟨b,ps',zs',gs',h1,h2⟩:=h; ⟨b,ps',zs',gs',h1.put (by omega) hl hx,h2⟩
theorem JnX (T:Txt K mg):JM P w K mg base Zk 12 T.JjI T.Jio ["_law_script"] (Jjj K):=by
 refine T.JmJ.F.ok ZR (fun vs H Q E h=>?_) (fun cdv A outer s H vs Q E hr h=>?_)
 ·obtain ⟨_,_,rfl,_⟩:=h;rfl
 ·obtain ⟨a,ns,rfl,hS,hl,q⟩:=h;have hu:=Jck hr;have szl:sizeLine=16777216:=sizeLine_eq;refine ⟨_,(@Jd _ _ _ _ _ (@Ju _ _ 1 _ _ _ _ ZR.nd rfl (Or.inl rfl) (@Jp _ _ _ _ _ _ _ _ _ _ _ _ _ _ _ T.Jfs (Jkm T) (hr.mono (by decide)) JK (@Ja _ _ _ _ _ (@pv _ 0 _ _ rfl (.inl rfl) rfl rfl) (@Ja _ _ _ _ _ (@Jb _ _ _ _) (@Jc _) rfl) rfl) rfl (by decide) rfl rfl) rfl (.inl rfl)) (@Jd _ _ _ _ _ (@J2 _ _ _ (@Ju _ _ 2 _ _ _ _ ZR.nd rfl (Or.inl rfl) (@Jp _ _ _ _ _ _ _ _ _ _ _ _ _ _ _ T.JgJ (JlR T) (hr.mono (by decide)) JK (@Ja _ _ _ _ _ (@pv _ 1 _ _ rfl (.inl rfl) rfl rfl) (@Ja _ _ _ _ _ (@YC _ _ _ _ (@Ja _ _ _ _ _ (@Jp _ _ _ _ _ _ _ _ _ _ _ _ _ _ _ T.JaP (Z4 T) (hr.mono (by decide)) JK (@Ja _ _ _ _ _ (@pv _ 0 _ _ rfl (.inl rfl) rfl rfl) (@Ja _ _ _ _ _ (@Jb _ _ _ _) (@Jc _) rfl) rfl) rfl (by decide) rfl rfl) (@Ja _ _ _ _ _ (@Jp _ _ _ _ _ _ _ _ _ _ _ _ _ _ _ T.JaP (Z4 T) (hr.mono (by decide)) JK (@Ja _ _ _ _ _ (@pv _ 0 _ _ rfl (.inl rfl) rfl rfl) (@Ja _ _ _ _ _ (@Jb _ _ _ _) (@Jc _) rfl) rfl) rfl (by decide) rfl rfl) (@Ja _ _ _ _ _ (@Jp _ _ _ _ _ _ _ _ _ _ _ _ _ _ _ T.JaP (Z4 T) (hr.mono (by decide)) JK (@Ja _ _ _ _ _ (@pv _ 0 _ _ rfl (.inl rfl) rfl rfl) (@Ja _ _ _ _ _ (@Jb _ _ _ _) (@Jc _) rfl) rfl) rfl (by decide) rfl rfl) (@Ja _ _ _ _ _ (@Jp _ _ _ _ _ _ _ _ _ _ _ _ _ _ _ T.JaP (Z4 T) (hr.mono (by decide)) JK (@Ja _ _ _ _ _ (@pv _ 0 _ _ rfl (.inl rfl) rfl rfl) (@Ja _ _ _ _ _ (@Jb _ _ _ _) (@Jc _) rfl) rfl) rfl (by decide) rfl rfl) (@Jc _) rfl) rfl) rfl) rfl)) (@Jc _) rfl) rfl) rfl (by decide) rfl rfl) rfl (.inl rfl))) (@Jd _ _ _ _ _ (@Ju _ _ 3 _ _ _ _ ZR.nd rfl (Or.inl rfl) (@Jp _ _ _ _ _ _ _ _ _ _ _ _ _ _ _ T.JgL (JlT T) (hr.mono (by decide)) JK (@Ja _ _ _ _ _ (@Jp _ _ _ _ _ _ _ _ _ _ _ _ _ _ _ T.JaP (Z4 T) (hr.mono (by decide)) JK (@Ja _ _ _ _ _ (@pv _ 0 _ _ rfl (.inl rfl) rfl rfl) (@Ja _ _ _ _ _ (@Jb _ _ _ _) (@Jc _) rfl) rfl) rfl (by decide) rfl rfl) (@Jc _) rfl) rfl (by decide) rfl rfl) rfl (.inl rfl)) (@Jd _ _ _ _ _ (@Ju _ _ 4 _ _ _ _ ZR.nd rfl (Or.inl rfl) (@Jp _ _ _ _ _ _ _ _ _ _ _ _ _ _ _ T.Jiz (Jm5 T) (hr.mono (by decide)) JK (@Ja _ _ _ _ _ (@Jp _ _ _ _ _ _ _ _ _ _ _ _ _ _ _ T.JaP (Z4 T) (hr.mono (by decide)) JK (@Ja _ _ _ _ _ (@pv _ 0 _ _ rfl (.inl rfl) rfl rfl) (@Ja _ _ _ _ _ (@Jb _ _ _ _) (@Jc _) rfl) rfl) rfl (by decide) rfl rfl) (@Jc _) rfl) rfl (by decide) rfl rfl) rfl (.inl rfl)) (@Jd _ _ _ _ _ (@Ju _ _ 5 _ _ _ _ ZR.nd rfl (Or.inl rfl) (@Ji _ _ _ _ _ _ _ _ (@JL _) (@Ji _ _ _ _ _ _ _ _ (@JQ _) (@pv _ 4 _ _ rfl (.inl rfl) rfl rfl) (@Jp _ _ _ _ _ _ _ _ _ _ _ _ _ _ _ T.JaP (Z4 T) (hr.mono (by decide)) JK (@Ja _ _ _ _ _ (@pv _ 0 _ _ rfl (.inl rfl) rfl rfl) (@Ja _ _ _ _ _ (@Jb _ _ _ _) (@Jc _) rfl) rfl) rfl (by decide) rfl rfl)) (@Ji _ _ _ _ _ _ _ _ (@JQ _) (@pv _ 4 _ _ rfl (.inl rfl) rfl rfl) (@Jb _ _ _ _))) rfl (.inl rfl)) (@Jd _ _ _ _ _ (@J2 _ _ _ (@Ju _ _ 6 _ _ _ _ ZR.nd rfl (Or.inl rfl) (@Ji _ _ _ _ _ _ _ _ (@JL _) (@Jp _ _ _ _ _ _ _ _ _ _ _ _ _ _ _ T.JaP (Z4 T) (hr.mono (by decide)) JK (@Ja _ _ _ _ _ (@pv _ 0 _ _ rfl (.inl rfl) rfl rfl) (@Ja _ _ _ _ _ (@Jb _ _ _ _) (@Jc _) rfl) rfl) rfl (by decide) rfl rfl) (@Ji _ _ _ _ _ _ _ _ (@JQ _) (@pv _ 3 _ _ rfl (.inl rfl) rfl rfl) (@Jb _ _ _ _))) rfl (.inl rfl))) (@Jd _ _ _ _ _ (@Ju _ _ 7 _ _ _ _ ZR.nd rfl (Or.inl rfl) (@YC _ _ _ _ (@Jc _)) rfl (.inl rfl)) (@Jd _ _ _ _ _ (@YH _ _ _ _ _ _ _ _ PassesOwn.never rfl (@Yv _ _ _ _ (@YC _ _ _ _ (@Ja _ _ _ _ _ (@pv _ 1 _ _ rfl (.inl rfl) rfl rfl) (@Ja _ _ _ _ _ (@pv _ 2 _ _ rfl (.inl rfl) rfl rfl) (@Jc _) rfl) rfl))) (@Yj _ _ 8 _ ZR.nd rfl (Or.inl rfl) (.inl rfl)) (@Jh _ _ _ (@Jy _ _ _ _ (@Zm _ _ _ _ _ _ _ _ _ _ _ _ PySem.F.plainAttrs_list PySem.F.slot_list_append PySem.F.type_list_append (@Yc _) (@pv _ 7 _ _ rfl (.inl rfl) rfl rfl) (@Ja _ _ _ _ _ (@JiO _ _ _ _ _ _ _ _ _ _ _ _ _ _ _ _ _ T.JiR (Jia T) (hr.mono (by decide)) rfl T.Jk0 T.Jdk.b .nil YY (@Ja _ _ _ _ _ (@JiO _ _ _ _ _ _ _ _ _ _ _ _ _ _ _ _ _ T.Jid (Jhw T) (hr.mono (by decide)) rfl T.Ji6 T.Jc0.b .nil JK (@Ja _ _ _ _ _ (@YO _ _ _ _ _ _ _ _ _ (@ZI _) rfl T.JcM PyProof.Rows.boot_list (@Ja _ _ _ _ _ (@JG _ _ _ _ _ _ _ (@Zy _) (@pv _ 8 _ _ rfl (.inl rfl) rfl rfl) (@Jb _ _ _ _) (fun _ _=>rfl)) (@Jc _) rfl) (by decide) (by decide) rfl rfl) (@Ja _ _ _ _ _ (@YO _ _ _ _ _ _ _ _ _ (@ZI _) rfl T.JcM PyProof.Rows.boot_list (@Ja _ _ _ _ _ (@JG _ _ _ _ _ _ _ (@Zy _) (@pv _ 8 _ _ rfl (.inl rfl) rfl rfl) (@Jb _ _ _ _) (fun _ _=>rfl)) (@Jc _) rfl) (by decide) (by decide) rfl rfl) (@Ja _ _ _ _ _ (@YO _ _ _ _ _ _ _ _ _ (@ZI _) rfl T.JcM PyProof.Rows.boot_list (@Ja _ _ _ _ _ (@JG _ _ _ _ _ _ _ (@Zy _) (@pv _ 8 _ _ rfl (.inl rfl) rfl rfl) (@Jb _ _ _ _) (fun _ _=>rfl)) (@Jc _) rfl) (by decide) (by decide) rfl rfl) (@Jc _) rfl) rfl) rfl) (by decide) rfl rfl) (@Ja _ _ _ _ _ (@pv _ 3 _ _ rfl (.inl rfl) rfl rfl) (@Ja _ _ _ _ _ (@pv _ 4 _ _ rfl (.inl rfl) rfl rfl) (@Jc _) rfl) rfl) rfl) (by decide) rfl rfl) (@Jc _) rfl) rfl rfl rfl rfl rfl) rfl)) (by intro _; rfl)) (@Jd _ _ _ _ _ (@YH _ _ _ _ _ _ _ _ PassesOwn.never rfl (@Yv _ _ _ _ (@JG _ _ _ _ _ _ _ (@Zy _) (@pv _ 1 _ _ rfl (.inl rfl) rfl rfl) (@Jb _ _ _ _) (fun _ _=>rfl))) (@Yj _ _ 9 _ ZR.nd rfl (Or.inl rfl) (.inl rfl)) (@Jh _ _ _ (@YH _ _ _ _ _ _ _ _ PassesOwn.never rfl (@Yv _ _ _ _ (@YC _ _ _ _ (@Ja _ _ _ _ _ (@JR _ _ _ _) (@Ja _ _ _ _ _ (@JR _ _ _ _) (@Jc _) rfl) rfl))) (@Yj _ _ 10 _ ZR.nd rfl (Or.inl rfl) (.inl rfl)) (@Jd _ _ _ _ _ (@Ju _ _ 11 _ _ _ _ ZR.nd rfl (Or.inl rfl) (@Ji _ _ _ _ _ _ _ _ (@JL _) (@Jp _ _ _ _ _ _ _ _ _ _ _ _ _ _ _ T.JaP (Z4 T) (hr.mono (by decide)) JK (@Ja _ _ _ _ _ (@pv _ 0 _ _ rfl (.inl rfl) rfl rfl) (@Ja _ _ _ _ _ (@Jb _ _ _ _) (@Jc _) rfl) rfl) rfl (by decide) rfl rfl) (@Ji _ _ _ _ _ _ _ _ (@JQ _) (@JG _ _ _ _ _ _ _ (@JH _) (@YC _ _ _ _ (@Ja _ _ _ _ _ (@pv _ 6 _ _ rfl (.inl rfl) rfl rfl) (@Ja _ _ _ _ _ (@Ji _ _ _ _ _ _ _ _ (@Y3 _) (@pv _ 3 _ _ rfl (.inl rfl) rfl rfl) (@pv _ 6 _ _ rfl (.inl rfl) rfl rfl)) (@Jc _) rfl) rfl)) (@YO _ _ _ _ _ _ _ _ _ (@JkZ _) rfl T.Jjx PyProof.Rows.boot_int (@Ja _ _ _ _ _ (@JeE _ _ _ _ _ _ _ _ (@Yi _) (@pv _ 10 _ _ rfl (.inl rfl) rfl rfl) (@JR _ _ _ _) (JB _)) (@Jc _) rfl) (by decide) (by decide) rfl rfl) (fun _ _=>rfl)) (@Jb _ _ _ _))) rfl (.inl rfl)) (@Jh _ _ _ (@JN _ _ _ _ _ _ _ _ (@JfB _ _ _ _ (@JcF _ _ _ (@Jp _ _ _ _ _ _ _ _ _ _ _ _ _ _ _ T.JgP (JlX T) (hr.mono (by decide)) JK (@Ja _ _ _ _ _ (@pv _ 7 _ _ rfl (.inl rfl) rfl rfl) (@Ja _ _ _ _ _ (@pv _ 9 _ _ rfl (.inl rfl) rfl rfl) (@Ja _ _ _ _ _ (@pv _ 5 _ _ rfl (.inl rfl) rfl rfl) (@Ja _ _ _ _ _ (@pv _ 6 _ _ rfl (.inl rfl) rfl rfl) (@Ja _ _ _ _ _ (@pv _ 10 _ _ rfl (.inl rfl) rfl rfl) (@Ja _ _ _ _ _ (@pv _ 11 _ _ rfl (.inl rfl) rfl rfl) (@Jc _) rfl) rfl) rfl) rfl) rfl) rfl) rfl (by decide) rfl rfl) (by intro _; rfl))) (@Jh _ _ _ (@JA _ _ _ _ (@JeF _ _ _ _))) (@Jw _)))) (by intro _; rfl))) (by intro _; rfl)) (@Jh _ _ _ (@JA _ _ _ _ (@JeF _ _ _ _)))))))))))),?_⟩
  try dsimp only [cxK,Jeo]
  refine ⟨_,rfl,a,ns,0,rfl,hS,by decide,fun t ps zs gs H1 e1 G=>?_⟩;refine ⟨fun σ1 H2=>∃ (tt:Addr) (pw:List Str) (lw:List (V×(Str×Str))) (gw:List Str),Jg H1 H2∧Ground K H2 tt pw lw gw∧Wid ps (zs.map (·.2)) gs pw (lw.map (·.2)) gw∧σ1=[some (.ref a),some (.ref t),some (.ref tt),none,none,none,none,none,none,none,none,none],?_,?_⟩
  ·refine ⟨_,rfl,_,rfl,a,ns,5,rfl,e1.seq hS,by decide,_,rfl,a,ns,6,rfl,e1.seq hS,by decide,_,rfl,a,ns,7,rfl,e1.seq hS,by decide,_,rfl,a,ns,8,rfl,e1.seq hS,by decide,by show 4≤sizeLine; decide,fun lc nlc=>?_⟩;exact ⟨t,lc,_,_,_,_,ps,zs,gs,rfl,G.same (Jg.upd nlc),Jf,fun tw pw lw gw H3 e3 G3 W3=>⟨tw,pw,lw,gw,(Jg.upd nlc).trans e3,G3,W3,rfl⟩⟩
  rintro σ1 H2 ⟨tt,pw,lw,gw,e2,GW,W,rfl⟩;have e02:=e1.trans e2;refine ⟨_,rfl,a,ns,9,rfl,e02.seq hS,by decide,_,rfl,fun ci H3 c0 c1 e3=>?_⟩;refine ⟨_,rfl,a,ns,10,rfl,(e02.trans e3).seq hS,by decide,_,rfl,fun mt H4 m0 m1 e4=>?_⟩;obtain ⟨mo,rfl⟩:∃ j:Nat,mt=(j:Int):=⟨mt.toNat,by omega⟩
  obtain ⟨c,rfl⟩:∃ j:Nat,ci=(j:Int):=⟨ci.toNat,by omega⟩
  have e24:=e3.trans e4;have e04:=e02.trans e24;have hb:=JcN (x:=(mo:Int) + Jbj ns 11) (n:=(mo:Int) + 1) (by omega);have hc:=JcN (x:=Jbj ns 12) (n:=(c:Int) + 1) (by omega);refine ⟨_,rfl,_,rfl,a,ns,11,rfl,e04.seq hS,by decide,_,_,rfl,rfl,_,rfl,_,_,rfl,rfl,_,_,rfl,rfl,(by show (0:Int) < (mo:Int) + 1; omega),?_⟩;refine ⟨fun σ1 H5=>∃ (m n:Nat),m≤mo∧n≤c∧H4=H5∧σ1=[some (.ref a),some (.ref t),some (.ref tt),some (.int (c:Int)),some (.int (mo:Int)),some (.int (m:Int)),some (.int (n:Int)),none,none,none,none,none],?_,?_⟩
  ·refine ⟨_,rfl,a,ns,12,rfl,e04.seq hS,by decide,_,rfl,_,_,rfl,rfl,_,_,rfl,rfl,(by show (0:Int) < (c:Int) + 1; omega),?_⟩;refine ⟨(((mo:Int) + Jbj ns 11) % ((mo:Int) + 1)).toNat,(Jbj ns 12 % ((c:Int) + 1)).toNat,by omega,by omega,rfl,?_⟩;rw [Int.toNat_of_nonneg hb.1,Int.toNat_of_nonneg hc.1];rfl
  rintro σ1 H5 ⟨m,n,hm,hn,h45,rfl⟩;subst h45;refine ⟨by show 0≤sizeLine; decide,fun lb nlb=>?_⟩;have s5:=Jg.upd (o:=.lst []) nlb;have hlb5:upd H4 lb (.lst []) lb=some (.lst []):=Jf;generalize upd H4 lb (.lst [])=H5 at s5 hlb5;refine ⟨_,rfl,_,rfl,by show 2≤sizeLine; decide,fun lg nlg=>⟨lg,rfl,⟨_,Jq.of Jf⟩,?_⟩⟩;have s6:=Jg.upd (o:=.lst [.ref t,.ref tt]) nlg;have hlg:upd H5 lg (.lst [.ref t,.ref tt]) lg=some (.lst [.ref t,.ref tt]):=Jf;have hlb6:=s6 _ _ hlb5;have lbg:lb≠lg:=Jn hlb5 nlg;generalize upd H5 lg (.lst [.ref t,.ref tt])=H6 at s6 hlg hlb6;refine Jaq (xs:=[.ref t,.ref tt]) (fun i σ H7=>H7 lg=some (.lst [.ref t,.ref tt])∧Jg H4 H7∧(i=0→H7 lb=some (.lst []))∧(i=1→∃ q1,H7 lb=some (.lst [.ref q1])∧Jc2 T H7 q1 ps zs gs c mo)∧(i=2→∃ q1 q2,H7 lb=some (.lst [.ref q1,.ref q2])∧Jc2 T H7 q1 ps zs gs c mo∧Jc2 T H7 q2 pw lw gw c mo)∧∃ v8,σ=[some (.ref a),some (.ref t),some (.ref tt),some (.int (c:Int)),some (.int (mo:Int)),some (.int (m:Int)),some (.int (n:Int)),some (.ref lb),v8,none,none,none])
   ⟨hlg,s5.trans s6,fun _=>hlb6,(fun z=>nomatch z),(fun z=>nomatch z),_,rfl⟩ (fun i σ H7 _ z=>Jq.of z.1) ?_ ?_
  ·rintro i xv σ H7 hx ⟨hlg7,S7,i0,i1,i2,v6,rfl⟩
   match i,hx with
   | 0,hx =>
    cases Option.some.inj hx;have hlb:=i0 rfl;have G7:=G.same ((e2.trans e24).trans S7);refine ⟨_,rfl,.inl ⟨rfl,_,Jq.of hlb⟩,?_⟩;obtain ⟨pn,pl,pg,g1,g2,g3,g4,g5⟩:=(G7).at_;refine ⟨_,rfl,t,_,_,.ref pn,rfl,rfl,J0.of g1,rfl,pn,_,rfl,.inl (Jq.of g2),fun l1 n1=>?_⟩;have f2:=Jg.upd (o:=.lst (ps.map V.str)) n1;refine ⟨_,rfl,t,_,_,.ref pl,rfl,rfl,J0.of (f2 _ _ g1),rfl,pl,_,rfl,.inl (Jq.of (f2 _ _ g3)),fun l2 n2=>?_⟩;have f3:=f2.trans (Jg.upd (o:=.lst (zs.map (·.1))) n2);refine ⟨_,rfl,t,_,_,.ref pg,rfl,rfl,J0.of (f3 _ _ g1),rfl,pg,_,rfl,.inl (Jq.of (f3 _ _ g5)),fun l3 n3=>?_⟩;have f4:=f3.trans (Jg.upd (o:=.lst (gs.map V.str)) n3);refine fun b dx nx ndx hne=>JfK f4 (((Jg.upd n2).trans (Jg.upd n3)) _ _ Jf) ((Jg.upd n3) _ _ Jf) Jf (Yh g4 f4) (G7).good nx ndx fun ps1 zs1 gs1 H8 e8 B pp ps3 zp zs3 gp gs3=>⟨rfl,?_⟩
    clear hne f4 f3 f2 g1 g2 g3 g4 g5 n1 n2 n3 nx ndx pn pl pg l1 l2 l3 dx;refine ⟨_,rfl,_,rfl,fun k dx nx ndx hne=>Jg4 B ⟨c0,c1⟩ ⟨m0,m1⟩ nx ndx fun H9 e9 Bk1=>⟨rfl,?_⟩⟩;clear hne nx ndx dx;rw [Int.toNat_natCast] at Bk1;have e79:=e8.trans e9;have hlb9:=e79 _ _ hlb;refine ⟨lb,_,_,rfl,rfl,hlb9,by show 0 < sizeLine; decide,?_⟩;have ks:∀ {x u},H4 x=some u→upd H9 lb (.lst ([] ++ [.ref k])) x=some u:=fun qq=>by rw [Jl (Jn qq nlb)]; exact (S7.trans e79) _ _ qq
    exact ⟨by rw [Jl (fun z=>lbg z.symm)]; exact e79 _ _ hlg7,fun x u qq=>ks qq,(fun z=>nomatch z),fun _=>⟨k,Jf,Jc2.put ⟨b,ps1,zs1,gs1,Bk1,pp,zp,zs3,gp⟩ hlb9 (.inl rfl)⟩,(fun z=>by simp at z),_,rfl⟩
   | 1,hx =>
    cases Option.some.inj hx;obtain ⟨q1,hlb,O1⟩:=i1 rfl;have G7:=GW.same (e24.trans S7);refine ⟨_,rfl,.inl ⟨rfl,_,Jq.of hlb⟩,?_⟩;obtain ⟨pn,pl,pg,g1,g2,g3,g4,g5⟩:=(G7).at_;refine ⟨_,rfl,tt,_,_,.ref pn,rfl,rfl,J0.of g1,rfl,pn,_,rfl,.inl (Jq.of g2),fun l1 n1=>?_⟩;have f2:=Jg.upd (o:=.lst (pw.map V.str)) n1;refine ⟨_,rfl,tt,_,_,.ref pl,rfl,rfl,J0.of (f2 _ _ g1),rfl,pl,_,rfl,.inl (Jq.of (f2 _ _ g3)),fun l2 n2=>?_⟩;have f3:=f2.trans (Jg.upd (o:=.lst (lw.map (·.1))) n2);refine ⟨_,rfl,tt,_,_,.ref pg,rfl,rfl,J0.of (f3 _ _ g1),rfl,pg,_,rfl,.inl (Jq.of (f3 _ _ g5)),fun l3 n3=>?_⟩;have f4:=f3.trans (Jg.upd (o:=.lst (gw.map V.str)) n3);refine fun b dx nx ndx hne=>JfK f4 (((Jg.upd n2).trans (Jg.upd n3)) _ _ Jf) ((Jg.upd n3) _ _ Jf) Jf (Yh g4 f4) (G7).good nx ndx fun ps1 zs1 gs1 H8 e8 B pp ps3 zp zs3 gp gs3=>⟨rfl,?_⟩
    clear hne f4 f3 f2 g1 g2 g3 g4 g5 n1 n2 n3 nx ndx pn pl pg l1 l2 l3 dx;refine ⟨_,rfl,_,rfl,fun k dx nx ndx hne=>Jg4 B ⟨c0,c1⟩ ⟨m0,m1⟩ nx ndx fun H9 e9 Bk1=>⟨rfl,?_⟩⟩;clear hne nx ndx dx;rw [Int.toNat_natCast] at Bk1;have e79:=e8.trans e9;have hlb9:=e79 _ _ hlb;refine ⟨lb,_,_,rfl,rfl,hlb9,by show 1 < sizeLine; decide,?_⟩;have O9:=O1.same e79;have oi:∃ g C' dx fs,[V.ref q1]=[.ref g]∧H9 g=some (.ins C' dx fs):=by
     obtain ⟨_,_,_,_,Bq,_⟩:=O9;obtain ⟨dx,l,hk⟩:=Bq.ins;exact ⟨q1,_,_,_,rfl,hk⟩
    exact ⟨by rw [Jl (fun z=>lbg z.symm)]; exact e79 _ _ hlg7,fun x u qq=>by rw [Jl (Jn qq nlb)]; exact (S7.trans e79) _ _ qq,(fun z=>nomatch z),(fun z=>by simp at z),fun _=>⟨q1,k,Jf,O9.put hlb9 (.inr oi),Jc2.put ⟨b,ps1,zs1,gs1,Bk1,pp,zp,zs3,gp⟩ hlb9 (.inr oi)⟩,_,rfl⟩
  rintro σ H7 ⟨_,S7,_,_,i2,v8,rfl⟩;obtain ⟨q1,q2,hlb,O1,O2⟩:=i2 rfl;obtain ⟨b1,ps1,zs1,gs1,Bk1,pp1,zp1,zo1,gp1⟩:=O1;obtain ⟨b2,ps2,zs2,gs2,Bk2,pp2,zp2,zo2,gp2⟩:=O2;have RN:=JnH G.good W pp1 zp1 zo1 gp1 zp2 zo2 gp2;have e07:=e04.trans S7;obtain ⟨pn0,pl0,pg0,h1,h2,h3,h4,h5⟩:=(G.same ((e2.trans e24).trans S7)).at_;refine ⟨_,rfl,t,_,_,.ref pn0,rfl,rfl,J0.of h1,rfl,pn0,rfl,⟨_,Jq.of h2⟩,?_⟩;refine Jaq (xs:=ps.map V.str) (fun i σ H9=>Jg H7 H9∧∃ v9 v10 v11,σ=[some (.ref a),some (.ref t),some (.ref tt),some (.int (c:Int)),some (.int (mo:Int)),some (.int (m:Int)),some (.int (n:Int)),some (.ref lb),v8,v9,v10,v11]) ⟨Jg.refl _,_,_,_,rfl⟩ (fun i σ H9 _ z=>Jq.of (z.1 _ _ h2)) ?_ ?_
  ·rintro i xv σ H9 hx ⟨e9,v9,v10,v11,rfl⟩;rw [List.getElem?_map] at hx;obtain ⟨p,hp0,rfl⟩:=Option.map_eq_some_iff.mp hx;have hp:=List.mem_of_getElem? hp0;refine ⟨by show 2≤sizeLine; decide,fun lr nlr=>⟨lr,rfl,⟨_,Jq.of Jf⟩,?_⟩⟩;have s13:=Jg.upd (o:=.lst [.str "north",.str "south"]) nlr;have hlr:upd H9 lr (.lst [.str "north",.str "south"]) lr=some (.lst [.str "north",.str "south"]):=Jf;generalize upd H9 lr (.lst [.str "north",.str "south"])=H13 at s13 hlr;refine Jaq (xs:=[.str "north",.str "south"]) (fun i σ H14=>Jg H13 H14∧∃ v10 v11,σ=[some (.ref a),some (.ref t),some (.ref tt),some (.int (c:Int)),some (.int (mo:Int)),some (.int (m:Int)),some (.int (n:Int)),some (.ref lb),v8,some (.str p),v10,v11]) ⟨Jg.refl _,_,_,rfl⟩ (fun i σ H14 _ z=>Jq.of (z.1 _ _ hlr)) ?_ ?_
   ·rintro i2 xv σ H14 hx ⟨e14,v10,v11,rfl⟩;obtain ⟨r,rfl⟩:=Jnr hx;have e714:=(e9.trans s13).trans e14;have ho:0≤own (c:Int) (n:Int) (!r):=by unfold own; cases r <;> simp <;> omega
    have pk:atI [V.int (n:Int),V.int ((c:Int) - (n:Int))] (if decide (V.str (hs r)=V.str "north")=true then 1 else 0)=some (.int (own (c:Int) (n:Int) (!r))):=by
     cases r
     ·rw [if_neg (by decide +kernel)]; rfl
     ·rw [if_pos (by decide +kernel)]; rfl
    refine ⟨_,rfl,a,ns,13,rfl,(e07.trans e714).seq hS,by decide,_,rfl,_,rfl,_,rfl,_,_,rfl,rfl,by show 2≤sizeLine; decide,fun l5 n5=>?_⟩;have hbb:=JcN (x:=Jbj ns 13) (n:=own (c:Int) (n:Int) (!r) + 1) (by omega);refine ⟨_,rfl,rfl,.inr ⟨_,rfl,l5,_,_,.int (own (c:Int) (n:Int) (!r)),rfl,rfl,Jq.of Jf,pk,_,_,rfl,rfl,_,_,rfl,rfl,(by show (0:Int) < own (c:Int) (n:Int) (!r) + 1; omega),?_⟩⟩;have s15:=Jg.upd (o:=.lst [.int (n:Int),.int ((c:Int) - (n:Int))]) n5;generalize upd H14 l5 (.lst [.int (n:Int),.int ((c:Int) - (n:Int))])=H15 at s15;have e715:=e714.trans s15;exact ⟨_,rfl,_,rfl,_,rfl,_,rfl,_,rfl,_,rfl,lb,q1,q2,b1,b2,p,(c:Int),m,mo,(n:Int),Jbj ns 13 % (own (c:Int) (n:Int) (!r) + 1),r,ps1,zs1,gs1,ps2,zs2,gs2,rfl,e715 _ _ hlb,Bk1.same e715,Bk2.same e715,pp1.mem_iff.mpr hp,pp2.mem_iff.mpr (W.p p hp),hm,⟨by omega,by omega⟩,⟨hbb.1,by omega⟩,RN,fun H16 e16=>⟨_,rfl,ZG ⟨(e14.trans s15).trans e16,_,_,rfl⟩⟩⟩
   ·rintro σ H14 ⟨e14,v10,v11,rfl⟩;exact ⟨(e9.trans s13).trans e14,_,_,_,rfl⟩
  ·rintro σ H9 ⟨e9,_⟩;exact q H9
end
def JjT (K:PySem.W.Frag):Prop:=(JlB K,JlA K,Jly K,Jlz K,Jlw K,Jlx K)=Jhz
theorem Je {α:Type} {a b:α} (h:some a=some b):a=b:=Option.some.inj h
theorem Jof {w:World} {K:PySem.W.Frag} {h:Heap} {mg:Str→Option Value} {fa:Addr} {P:Program} (hS:JjT K) (X:K.In h) (G:h.Ns mainGlobals mg) (hfa:mg "law" = some (.ref fa)) :
  ∃ fd:FuncData,(∀ (s:Shared) (v:Value),BindsTo s fd ⟨[v],[]⟩ [("_law_script",v)])∧∀ base:Heap,K.In base→base.Ns mainGlobals mg→JM P w K mg base Zk 12 fa fd ["_law_script"] (Jjj K):=by
 have hB:JlB K=isB:=congrArg (fun x=>x.1) hS;have hF:JlA K=isF:=congrArg (fun x=>x.2.1) hS;have hN:Jly K=isN:=congrArg (fun x=>x.2.2.1) hS;have hK:Jlz K=isK:=congrArg (fun x=>x.2.2.2.1) hS;have hV:Jlw K=isV:=congrArg (fun x=>x.2.2.2.2.1) hS;have hT:Jlx K=isT:=congrArg (fun x=>x.2.2.2.2.2) hS;obtain ⟨Jaa,Jbc,Ja7⟩:=mgV X G (Je (at_ hV 0));obtain ⟨Z9,Jao,Jag⟩:=mgV X G (Je (at_ hV 1));obtain ⟨Jac,ZH,ZE⟩:=mgV X G (Je (at_ hV 2));obtain ⟨ZQ,JaU,JaS⟩:=mgV X G (Je (at_ hV 3));obtain ⟨Jab,Jbd,Ja8⟩:=mgV X G (Je (at_ hV 4));have e:=hfa.symm.trans (PySem.W.mg_of X G (JE (Option.some.inj (at_ hB 59))));cases e;let T:Txt K mg:={
  Jdg:=Jj K "good_name"
  JcP:=JZ K (Jj K "good_name")
  Jdj:=⟨Jo (Je (at_ hF 0)),(Jo (Je (at_ hF 0))).binds (ps:=["text"]) (fun | _,_,_,_,_,_,[_],_=>rfl),PySem.W.mg_of X G (JE (Je (at_ hB 0)))⟩
  JcS:=Jj K "check_hand"
  JbX:=JZ K (Jj K "check_hand")
  Jaw:=⟨Jo (Je (at_ hF 1)),(Jo (Je (at_ hF 1))).binds (ps:=["hand"]) (fun | _,_,_,_,_,_,[_],_=>rfl),PySem.W.mg_of X G (JE (Je (at_ hB 1)))⟩
  JgA:=Jj K "other"
  Jfe:=JZ K (Jj K "other")
  JeP:=⟨Jo (Je (at_ hF 2)),(Jo (Je (at_ hF 2))).binds (ps:=["hand"]) (fun | _,_,_,_,_,_,[_],_=>rfl),PySem.W.mg_of X G (JE (Je (at_ hB 2)))⟩
  Jb1:=Jj K "check_up_to"
  Jbv:=JZ K (Jj K "check_up_to")
  Y8:=⟨Jo (Je (at_ hF 3)),(Jo (Je (at_ hF 3))).binds (ps:=["number", "most"]) (fun | _,_,_,_,_,_,[_,_],_=>rfl),PySem.W.mg_of X G (JE (Je (at_ hB 3)))⟩
  Jb4:=Jj K "check_coins"
  Jby:=JZ K (Jj K "check_coins")
  Jcb:=⟨Jo (Je (at_ hF 4)),(Jo (Je (at_ hF 4))).binds (ps:=["north", "south"]) (fun | _,_,_,_,_,_,[_,_],_=>rfl),PySem.W.mg_of X G (JE (Je (at_ hB 4)))⟩
  Jdh:=Jj K "check_bid"
  JcQ:=JZ K (Jj K "check_bid")
  JaR:=⟨Jo (Je (at_ hF 5)),(Jo (Je (at_ hF 5))).binds (ps:=["named", "coins"]) (fun | _,_,_,_,_,_,[_,_],_=>rfl),PySem.W.mg_of X G (JE (Je (at_ hB 5)))⟩
  JgE:=Jj K "ended"
  Jfi:=JZ K (Jj K "ended")
  Jcs:=⟨Jo (Je (at_ hF 6)),(Jo (Je (at_ hF 6))).binds (ps:=["board", "place", "turns"]) (fun | _,_,_,_,_,_,[_,_,_],_=>rfl),PySem.W.mg_of X G (JE (Je (at_ hB 6)))⟩
  JdR:=Jj K "coins_of"
  Jdf:=JZ K (Jj K "coins_of")
  JaE:=⟨Jo (Je (at_ hF 7)),(Jo (Je (at_ hF 7))).binds (ps:=["hand", "north", "south"]) (fun | _,_,_,_,_,_,[_,_,_],_=>rfl),PySem.W.mg_of X G (JE (Je (at_ hB 7)))⟩
  JjH:=Jj K "pay"
  Jin:=JZ K (Jj K "pay")
  Jf3:=⟨Jo (Je (at_ hF 8)),(Jo (Je (at_ hF 8))).binds (ps:=["hand", "price", "north", "south", "ribbon"]) (fun | _,_,_,_,_,_,[_,_,_,_,_],_=>rfl),PySem.W.mg_of X G (JE (Je (at_ hB 8)))⟩
  Jfk:=Jj K "settle"
  Jel:=JZ K (Jj K "settle")
  Jfr:=⟨Jo (Je (at_ hF 9)),(Jo (Je (at_ hF 9))).binds (ps:=["north", "south", "ribbon", "bid", "answer"]) (fun | _,_,_,_,_,_,[_,_,_,_,_],_=>rfl),PySem.W.mg_of X G (JE (Je (at_ hB 9)))⟩
  JaM:=Jj K "check_each_once"
  Jar:=JZ K (Jj K "check_each_once")
  Y9:=⟨Jo (Je (at_ hF 22)),(Jo (Je (at_ hF 22))).binds (ps:=["things"]) (fun | _,_,_,_,_,_,[_],_=>rfl),PySem.W.mg_of X G (JE (Je (at_ hB 34)))⟩
  Jb5:=Jj K "check_among"
  Jbz:=JZ K (Jj K "check_among")
  Zq:=⟨Jo (Je (at_ hF 23)),(Jo (Je (at_ hF 23))).binds (ps:=["place", "places"]) (fun | _,_,_,_,_,_,[_,_],_=>rfl),PySem.W.mg_of X G (JE (Je (at_ hB 35)))⟩
  JbC:=Jj K "check_places"
  Jbe:=JZ K (Jj K "check_places")
  JbG:=⟨Jo (Je (at_ hF 24)),(Jo (Je (at_ hF 24))).binds (ps:=["places"]) (fun | _,_,_,_,_,_,[_],_=>rfl),PySem.W.mg_of X G (JE (Je (at_ hB 36)))⟩
  Jb2:=Jj K "check_lanes"
  Jbw:=JZ K (Jj K "check_lanes")
  Jb9:=⟨Jo (Je (at_ hF 25)),(Jo (Je (at_ hF 25))).binds (ps:=["lanes", "places"]) (fun | _,_,_,_,_,_,[_,_],_=>rfl),PySem.W.mg_of X G (JE (Je (at_ hB 37)))⟩
  Jb3:=Jj K "check_goals"
  Jbx:=JZ K (Jj K "check_goals")
  Jca:=⟨Jo (Je (at_ hF 26)),(Jo (Je (at_ hF 26))).binds (ps:=["goals", "places"]) (fun | _,_,_,_,_,_,[_,_],_=>rfl),PySem.W.mg_of X G (JE (Je (at_ hB 38)))⟩
  Jmc:=Jj K "_law_at"
  JjF:=JZ K (Jj K "_law_at")
  JaP:=⟨Jo (Je (at_ hF 31)),(Jo (Je (at_ hF 31))).binds (ps:=["_law_script", "_law_k"]) (fun | _,_,_,_,_,_,[_,_],_=>rfl),PySem.W.mg_of X G (JE (Je (at_ hB 47)))⟩
  JjG:=Jj K "_law_row"
  Jim:=JZ K (Jj K "_law_row")
  JeO:=⟨Jo (Je (at_ hF 32)),(Jo (Je (at_ hF 32))).binds (ps:=["_law_cell", "_law_many", "_law_base"]) (fun | _,_,_,_,_,_,[_,_,_],_=>rfl),PySem.W.mg_of X G (JE (Je (at_ hB 48)))⟩
  Jgx:=Jj K "_law_whole"
  Jfb:=JZ K (Jj K "_law_whole")
  JgK:=⟨Jo (Je (at_ hF 33)),(Jo (Je (at_ hF 33))).binds (ps:=["_law_found"]) (fun | _,_,_,_,_,_,[_],_=>rfl),PySem.W.mg_of X G (JE (Je (at_ hB 49)))⟩
  JgB:=Jj K "_law_names"
  Jff:=JZ K (Jj K "_law_names")
  JgN:=⟨Jo (Je (at_ hF 34)),(Jo (Je (at_ hF 34))).binds (ps:=["_law_cell", "_law_many"]) (fun | _,_,_,_,_,_,[_,_],_=>rfl),PySem.W.mg_of X G (JE (Je (at_ hB 50)))⟩
  Jgz:=Jj K "_law_pairs"
  Jfd:=JZ K (Jj K "_law_pairs")
  JgM:=⟨Jo (Je (at_ hF 35)),(Jo (Je (at_ hF 35))).binds (ps:=["_law_cell", "_law_draw", "_law_size"]) (fun | _,_,_,_,_,_,[_,_,_],_=>rfl),PySem.W.mg_of X G (JE (Je (at_ hB 51)))⟩
  JgD:=Jj K "_law_goals"
  Jfh:=JZ K (Jj K "_law_goals")
  JgO:=⟨Jo (Je (at_ hF 36)),(Jo (Je (at_ hF 36))).binds (ps:=["_law_cell", "_law_kind", "_law_size"]) (fun | _,_,_,_,_,_,[_,_,_],_=>rfl),PySem.W.mg_of X G (JE (Je (at_ hB 52)))⟩
  Jfl:=Jj K "_law_ground"
  Jem:=JZ K (Jj K "_law_ground")
  Jfs:=⟨Jo (Je (at_ hF 37)),(Jo (Je (at_ hF 37))).binds (ps:=["_law_script", "_law_at_here"]) (fun | _,_,_,_,_,_,[_,_],_=>rfl),PySem.W.mg_of X G (JE (Je (at_ hB 53)))⟩
  Jgy:=Jj K "_law_total"
  Jfc:=JZ K (Jj K "_law_total")
  JgL:=⟨Jo (Je (at_ hF 38)),(Jo (Je (at_ hF 38))).binds (ps:=["_law_cell"]) (fun | _,_,_,_,_,_,[_],_=>rfl),PySem.W.mg_of X G (JE (Je (at_ hB 54)))⟩
  Jip:=Jj K "_law_left"
  Jgv:=JZ K (Jj K "_law_left")
  Jiz:=⟨Jo (Je (at_ hF 39)),(Jo (Je (at_ hF 39))).binds (ps:=["_law_cell"]) (fun | _,_,_,_,_,_,[_],_=>rfl),PySem.W.mg_of X G (JE (Je (at_ hB 55)))⟩
  JgC:=Jj K "_law_holds"
  Jfg:=JZ K (Jj K "_law_holds")
  JeQ:=⟨Jo (Je (at_ hF 40)),(Jo (Je (at_ hF 40))).binds (ps:=["_law_found", "_law_due"]) (fun | _,_,_,_,_,_,[_,_],_=>rfl),PySem.W.mg_of X G (JE (Je (at_ hB 56)))⟩
  Jgw:=Jj K "_law_wider"
  Jfa:=JZ K (Jj K "_law_wider")
  JgJ:=⟨Jo (Je (at_ hF 41)),(Jo (Je (at_ hF 41))).binds (ps:=["_law_ground_here", "_law_cells"]) (fun | _,_,_,_,_,_,[_,_],_=>rfl),PySem.W.mg_of X G (JE (Je (at_ hB 57)))⟩
  JgF:=Jj K "_law_alike"
  Jfj:=JZ K (Jj K "_law_alike")
  JgP:=⟨Jo (Je (at_ hF 42)),(Jo (Je (at_ hF 42))).binds (ps:=["_law_books", "_law_place", "_law_left_here", "_law_north", "_law_ribbon", "_law_bid"]) (fun | _,_,_,_,_,_,[_,_,_,_,_,_],_=>rfl),PySem.W.mg_of X G (JE (Je (at_ hB 58)))⟩
  JjI:=Jj K "law"
  Jio:=JZ K (Jj K "law")
  JmJ:=⟨Jo (Je (at_ hF 43)),(Jo (Je (at_ hF 43))).binds (ps:=["_law_script"]) (fun | _,_,_,_,_,_,[_],_=>rfl),PySem.W.mg_of X G (JE (Je (at_ hB 59)))⟩
  Jdz:=Jj K "HANDS"
  Jgu:=PySem.W.mg_of X G (JE (Je (at_ hB 60)))
  Jey:=fun H=>JnY (xs:=[.inr "north",.inr "south"]) (Je (at_ hT 0)) H
  Jaa:=Jaa
  Jbc:=Jbc
  Ja7:=Ja7
  Z9:=Z9
  Jao:=Jao
  Jag:=Jag
  Jac:=Jac
  ZH:=ZH
  ZE:=ZE
  ZQ:=ZQ
  JaU:=JaU
  JaS:=JaS
  Jab:=Jab
  Jbd:=Jbd
  Ja8:=Ja8
  JmB:=PySem.W.mg_none_of X G (Je (at_ hN 0))
  ZM:=PySem.W.mg_none_of X G (Je (at_ hN 1))
  JaC:=PySem.W.mg_none_of X G (Je (at_ hN 2))
  Jjw:=PySem.W.mg_none_of X G (Je (at_ hN 3))
  JdN:=PySem.W.mg_none_of X G (Je (at_ hN 4))
  JmA:=PySem.W.mg_none_of X G (Je (at_ hN 5))
  Jdu:=PySem.W.mg_none_of X G (Je (at_ hN 6))
  JdM:=PySem.W.mg_none_of X G (Je (at_ hN 7))
  Jal:=PySem.W.mg_none_of X G (Je (at_ hN 8))
  Jjx:=PySem.W.mg_none_of X G (Je (at_ hN 9))
  Jkt:=PySem.W.mg_none_of X G (Je (at_ hN 10))
  Jjv:=PySem.W.mg_none_of X G (Je (at_ hN 11))
  JcM:=PySem.W.mg_none_of X G (Je (at_ hN 12))
  Jc5:=Jj K "BidmoverError"
  JfW:=PySem.W.mg_of X G (JE (Je (at_ hB 61)))
  Jeh:=Jj K "BadName"
  Jk1:=PySem.W.mg_of X G (JE (Je (at_ hB 62)))
  YQ:=Jj K "BadHand"
  Jhh:=PySem.W.mg_of X G (JE (Je (at_ hB 63)))
  JW:=Jj K "OutOfRange"
  JcW:=PySem.W.mg_of X G (JE (Je (at_ hB 64)))
  Jgt:=Jj K "Twice"
  Jnk:=PySem.W.mg_of X G (JE (Je (at_ hB 65)))
  Yu:=Jj K "NoPlace"
  Jhg:=PySem.W.mg_of X G (JE (Je (at_ hB 66)))
  Jbu:=Jj K "BadBid"
  Jis:=PySem.W.mg_of X G (JE (Je (at_ hB 67)))
  Jz:=Jj K "Book"
  Jk0:=PySem.W.mg_of X G (JE (Je (at_ hB 68)))
  JD:=⟨(Je (at_ hB 70)),(Je (at_ hB 71)),(Je (at_ hB 72)),(Je (at_ hN 13))⟩
  JbJ:=JI K "Book" "__init__"
  JcR:=JZ K (JI K "Book" "__init__")
  Jdk:=⟨Jo (Je (at_ hF 10)),(Jo (Je (at_ hF 10))).binds (ps:=["self", "board", "coins", "turns"]) (fun | _,_,_,_,_,_,[_,_,_,_],_=>rfl),⟨J6 (Je (at_ hB 10)),(Je (at_ hB 11)),YM (Je (at_ hF 10))⟩⟩
  JaN:=JI K "Book" "needs_with"
  Jas:=JZ K (JI K "Book" "needs_with")
  ZD:=⟨Jo (Je (at_ hF 11)),(Jo (Je (at_ hF 11))).binds (ps:=["self", "turns"]) (fun | _,_,_,_,_,_,[_,_],_=>rfl),⟨J6 (Je (at_ hB 12)),(Je (at_ hB 13)),YM (Je (at_ hF 11))⟩⟩
  JbE:=JI K "Book" "need_at"
  Jbg:=JZ K (JI K "Book" "need_at")
  JaF:=⟨Jo (Je (at_ hF 12)),(Jo (Je (at_ hF 12))).binds (ps:=["self", "place", "turns", "ribbon"]) (fun | _,_,_,_,_,_,[_,_,_,_],_=>rfl),⟨J6 (Je (at_ hB 14)),(Je (at_ hB 15)),YM (Je (at_ hF 12))⟩⟩
  YU:=JI K "Book" "need_where_north_leads"
  YK:=JZ K (JI K "Book" "need_where_north_leads")
  JY:=⟨Jo (Je (at_ hF 13)),(Jo (Je (at_ hF 13))).binds (ps:=["self", "place", "turns"]) (fun | _,_,_,_,_,_,[_,_,_],_=>rfl),⟨J6 (Je (at_ hB 16)),(Je (at_ hB 17)),YM (Je (at_ hF 13))⟩⟩
  YT:=JI K "Book" "need_where_south_leads"
  YJ:=JZ K (JI K "Book" "need_where_south_leads")
  JX:=⟨Jo (Je (at_ hF 14)),(Jo (Je (at_ hF 14))).binds (ps:=["self", "place", "turns"]) (fun | _,_,_,_,_,_,[_,_,_],_=>rfl),⟨J6 (Je (at_ hB 18)),(Je (at_ hB 19)),YM (Je (at_ hF 14))⟩⟩
  Jat:=JI K "Book" "check_share"
  ZX:=JZ K (JI K "Book" "check_share")
  J1:=⟨Jo (Je (at_ hF 15)),(Jo (Je (at_ hF 15))).binds (ps:=["self", "place", "turns", "north", "ribbon"]) (fun | _,_,_,_,_,_,[_,_,_,_,_],_=>rfl),⟨J6 (Je (at_ hB 20)),(Je (at_ hB 21)),YM (Je (at_ hF 15))⟩⟩
  Jb6:=JI K "Book" "winner"
  JbA:=JZ K (JI K "Book" "winner")
  YR:=⟨Jo (Je (at_ hF 16)),(Jo (Je (at_ hF 16))).binds (ps:=["self", "place", "turns", "north", "ribbon"]) (fun | _,_,_,_,_,_,[_,_,_,_,_],_=>rfl),⟨J6 (Je (at_ hB 22)),(Je (at_ hB 23)),YM (Je (at_ hF 16))⟩⟩
  JcT:=JI K "Book" "least"
  JbY:=JZ K (JI K "Book" "least")
  Jbm:=⟨Jo (Je (at_ hF 17)),(Jo (Je (at_ hF 17))).binds (ps:=["self", "place", "turns", "ribbon"]) (fun | _,_,_,_,_,_,[_,_,_,_],_=>rfl),⟨J6 (Je (at_ hB 24)),(Je (at_ hB 25)),YM (Je (at_ hF 17))⟩⟩
  Jb7:=JI K "Book" "bid_of"
  JbB:=JZ K (JI K "Book" "bid_of")
  JaW:=⟨Jo (Je (at_ hF 18)),(Jo (Je (at_ hF 18))).binds (ps:=["self", "place", "turns", "north", "ribbon"]) (fun | _,_,_,_,_,_,[_,_,_,_,_],_=>rfl),⟨J6 (Je (at_ hB 26)),(Je (at_ hB 27)),YM (Je (at_ hF 18))⟩⟩
  Ja0:=JI K "Book" "answer_of"
  JaL:=JZ K (JI K "Book" "answer_of")
  ZP:=⟨Jo (Je (at_ hF 19)),(Jo (Je (at_ hF 19))).binds (ps:=["self", "place", "turns", "north", "ribbon", "bid"]) (fun | _,_,_,_,_,_,[_,_,_,_,_,_],_=>rfl),⟨J6 (Je (at_ hB 28)),(Je (at_ hB 29)),YM (Je (at_ hF 19))⟩⟩
  Jau:=JI K "Book" "answer_wins"
  ZY:=JZ K (JI K "Book" "answer_wins")
  Zz:=⟨Jo (Je (at_ hF 20)),(Jo (Je (at_ hF 20))).binds (ps:=["self", "place", "turns", "settled", "holder"]) (fun | _,_,_,_,_,_,[_,_,_,_,_],_=>rfl),⟨J6 (Je (at_ hB 30)),(Je (at_ hB 31)),YM (Je (at_ hF 20))⟩⟩
  JbD:=JI K "Book" "step_of"
  Jbf:=JZ K (JI K "Book" "step_of")
  YF:=⟨Jo (Je (at_ hF 21)),(Jo (Je (at_ hF 21))).binds (ps:=["self", "place", "turns", "north", "ribbon", "hand"]) (fun | _,_,_,_,_,_,[_,_,_,_,_,_],_=>rfl),⟨J6 (Je (at_ hB 32)),(Je (at_ hB 33)),YM (Je (at_ hF 21))⟩⟩
  JiR:=⟨(Je (at_ hB 73)),J6 (Je (at_ hB 10)),(Je (at_ hB 11)),(Je (at_ hB 74))⟩
  Yb:=(Je (at_ hN 14))
  Y6:=(Je (at_ hN 15))
  JbW:=(Je (at_ hN 16))
  Y5:=(Je (at_ hN 17))
  JC:=Jj K "Board"
  Ji6:=PySem.W.mg_of X G (JE (Je (at_ hB 69)))
  Yo:=⟨(Je (at_ hB 75)),(Je (at_ hB 76)),(Je (at_ hB 77)),(Je (at_ hN 18))⟩
  Jbi:=JI K "Board" "__init__"
  Jb0:=JZ K (JI K "Board" "__init__")
  Jc0:=⟨Jo (Je (at_ hF 27)),(Jo (Je (at_ hF 27))).binds (ps:=["self", "places", "lanes", "goals"]) (fun | _,_,_,_,_,_,[_,_,_,_],_=>rfl),⟨J6 (Je (at_ hB 39)),(Je (at_ hB 40)),YM (Je (at_ hF 27))⟩⟩
  ZZ:=JI K "Board" "check_place"
  ZO:=JZ K (JI K "Board" "check_place")
  JU:=⟨Jo (Je (at_ hF 28)),(Jo (Je (at_ hF 28))).binds (ps:=["self", "place"]) (fun | _,_,_,_,_,_,[_,_],_=>rfl),⟨J6 (Je (at_ hB 41)),(Je (at_ hB 42)),YM (Je (at_ hF 28))⟩⟩
  JcU:=JI K "Board" "ways"
  JbZ:=JZ K (JI K "Board" "ways")
  Yx:=⟨Jo (Je (at_ hF 29)),(Jo (Je (at_ hF 29))).binds (ps:=["self", "place"]) (fun | _,_,_,_,_,_,[_,_],_=>rfl),⟨J6 (Je (at_ hB 43)),(Je (at_ hB 44)),YM (Je (at_ hF 29))⟩⟩
  Jbh:=JI K "Board" "is_goal"
  JaZ:=JZ K (JI K "Board" "is_goal")
  Z8:=⟨Jo (Je (at_ hF 30)),(Jo (Je (at_ hF 30))).binds (ps:=["self", "place"]) (fun | _,_,_,_,_,_,[_,_],_=>rfl),⟨J6 (Je (at_ hB 45)),(Je (at_ hB 46)),YM (Je (at_ hF 30))⟩⟩
  Jid:=⟨(Je (at_ hB 78)),J6 (Je (at_ hB 39)),(Je (at_ hB 40)),(Je (at_ hB 79))⟩
  Z5:=(Je (at_ hN 19))
  Jbs:=(Je (at_ hN 20))
  Jbt:=(Je (at_ hN 21))
  Jf0:=⟨(Je (at_ hB 80)),(Je (at_ hN 23)),(Je (at_ hN 24)),(Je (at_ hN 25)),(Je (at_ hN 22)),(Je (at_ hK 0)),(Je (at_ hK 1)),(Je (at_ hK 2)),(Je (at_ hB 81))⟩
  Jb8:=⟨(Je (at_ hB 82)),(Je (at_ hN 26)),(Je (at_ hN 27)),(Je (at_ hN 28)),(Je (at_ hN 22)),(Je (at_ hK 0)),(Je (at_ hK 3)),(Je (at_ hK 4)),(Je (at_ hB 83))⟩
  Jhm:=⟨(Je (at_ hB 84)),(Je (at_ hN 29)),(Je (at_ hN 30)),(Je (at_ hN 31)),(Je (at_ hN 22)),(Je (at_ hK 0)),(Je (at_ hK 5)),(Je (at_ hK 6)),(Je (at_ hB 85))⟩
  Jml:=⟨(Je (at_ hB 86)),(Je (at_ hN 32)),(Je (at_ hN 33)),(Je (at_ hN 34)),(Je (at_ hN 22)),(Je (at_ hK 0)),(Je (at_ hK 7)),(Je (at_ hK 8)),(Je (at_ hB 87))⟩
  JfZ:=⟨(Je (at_ hB 88)),(Je (at_ hN 35)),(Je (at_ hN 36)),(Je (at_ hN 37)),(Je (at_ hN 22)),(Je (at_ hK 0)),(Je (at_ hK 9)),(Je (at_ hK 10)),(Je (at_ hB 89))⟩
  JjS:=⟨(Je (at_ hB 90)),(Je (at_ hN 38)),(Je (at_ hN 39)),(Je (at_ hN 40)),(Je (at_ hN 22)),(Je (at_ hK 0)),(Je (at_ hK 11)),(Je (at_ hK 12)),(Je (at_ hB 91))⟩ }
 obtain ⟨oc,od,kV,doc,pm,an,cdv,ct,osl,z1,z2,z3,z4⟩:=Jko (Option.some.inj (at_ hF 43));exact ⟨_,fun s v=>by show BindsTo s (JZ K (Jj K "law")) _ _; rw [z1]; exact .of_eq rfl,fun base _ _=>JnX T⟩
def Job:DefRec:=⟨"law",Jcr JdG,Ja2 JdG,Jm JdG,Joa JdG⟩
theorem Jo2:PySem.W.WalkO qv lo0 (PySem.W.XL qv []) (fun _ h=>∃ K:PySem.W.Frag,K.In h∧JjT K) PySem.Challenge.rw_bidmover_k22_far_places.row.toRowW Job [] (fun f vs=>PySem.call f vs) :=
 L2.Jla (l:=PySem.Challenge.rw_bidmover_k22_far_places) (n:=63) (k:=12) (x := "_law_script") (CX:=Zk) (sp:=Jjj) (C:=JjT) rfl (by decide) rfl ⟨rfl,by decide,by decide⟩ (fun _ _ y=>y) (fun w K mg fa h hS X G hfa=>Jof hS X G hfa) (fun _ _ a ns hl _ hS=>⟨a,ns,rfl,hS,hl,fun _=>rfl⟩) fun _ _ _ _ z=>z
end Pf
open PySem PySem.W PyProof.Rows
set_option maxRecDepth 100000 in
set_option maxHeartbeats 0 in
theorem PySem.Challenge.cw_bidmover_k22_far_places_holds : PySem.Challenge.rw_bidmover_k22_far_places.Holds := by
 refine holds_law Pf.JlH fun JlH=>?_
 refine holds_open (q:=Pf.qv) (loose:=Pf.lo0) (Xt:=Pf.xt) (XP:=XL Pf.qv []) (Yf:=Pf.see) (Ya:=fun _=>Pf.Jhz) (YP:=fun _ h=>∃ K:Frag,K.In h∧Pf.JjT K) (d:=Pf.Job) (kwd:=[]) Pf.left (fun w s e=>⟨_,L2.JkK _,e⟩) (fun w h h' y hk=>y.elim fun K z=>⟨K,z.1.keeps hk,z.2⟩) (fun s e=>xl_of s (Bool.and_eq_true_iff.mp e).1) XL.keeps ?h1 ?h2 ?h3 (fun s e=>recFacts_of (Bool.and_eq_true_iff.mp e).2) ?h4 JlH ?h5 ⟨rfl,rfl,rfl,rfl,rfl,by decide +kernel⟩ ?hw Pf.Jo2
 case h1=>kernel_rfl
 case h2=>kernel_rfl
 case h3=>kernel_rfl
 case h4=>kernel_rfl
 case h5=>kernel_rfl
 case hw=>w_witness2
