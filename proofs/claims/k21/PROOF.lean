import PyProof.Rows.All
import Wide.All
import OpenK.AllK
import Wide.FinOn
import Lean
import PyProof.EqAt
import PyProof.EqKinds
import PyProof.TupleCall
import PyProof.ExcAttrAll.ValueError
import PyProof.FString4
import PyProof.FString5
import PyProof.StrLawsRepr
import PyProof.Rows.SetFrom
import KE.KSortTup
import PyProof.NeKinds
import PyProof.Rows.MinMaxN
import KE.KDictSum
import PySem.Challenge.RW_bidmover_k21_other_names
set_option Elab.async false
set_option linter.all false
set_option maxRecDepth 100000
namespace L2
open PySem PySem.W
def YR (s:Stmt) (j:Nat):Stmt:=match s with
 | .ClassDef _ _ _ body _ _ _ _ _ _ _=>body.getD j (.Pass ⟨0,0,0,0⟩)
 | _=>.Pass ⟨0,0,0,0⟩
def JcC (s:Stmt):Arguments:=match s with
 | .FunctionDef _ a _ _ _ _ _ _ _ _=>a
 | _=>{ posonlyargs:=[],args:=[],vararg:=none,kwonlyargs:=[],kw_defaults:=[],kwarg:=none,defaults:=[] }
def JaX (s:Stmt):List Stmt:=match s with
 | .FunctionDef _ _ b _ _ _ _ _ _ _=>b
 | _=>[]
def Jl (s:Stmt):Scope:=match s with
 | .FunctionDef _ _ _ _ _ _ sc _ _ _=>sc
 | _=>{ kind:=.function,names:=[],isGenerator:=false,isCoroutine:=false }
def Jon (s:Stmt):Pos:=match s with
 | .FunctionDef _ _ _ _ _ _ _ _ _ p=>p
 | _=>⟨0,0,0,0⟩
def JkZ (h:Heap):Frag:=h.objs.toList.zipIdx.filterMap fun x=>(alive x.1).map fun o=>(x.2,o)
theorem JkY (h:Heap):(JkZ h).In h:=by
 intro a o e;have key:∀ (l:List Obj) (k:Nat),((l.zipIdx k).filterMap fun x=>(alive x.1).map fun o=>(x.2,o)).lookup a=some o→k≤a∧∃ u,l[a - k]?=some u∧alive u=some o:=by
  intro l
  induction l with
  | nil=>intro k e; cases e
  | cons b l ih =>
   intro k e;rw [List.zipIdx_cons,List.filterMap_cons] at e;have next:((l.zipIdx (k + 1)).filterMap fun x=>(alive x.1).map fun o=>(x.2,o)).lookup a=some o→k≤a∧∃ u,(b :: l)[a - k]?=some u∧alive u=some o:=fun e=>by
    obtain ⟨h1,u,h2,h3⟩:=ih (k + 1) e;refine ⟨by omega,u,?_,h3⟩;have e:a - k=(a - (k + 1)) + 1:=(Nat.succ_pred_eq_of_pos (Nat.sub_pos_of_lt h1)).symm;rw [e,List.getElem?_cons_succ];exact h2
   cases hb:alive b with
   | none =>
    have e:((l.zipIdx (k + 1)).filterMap fun x=>(alive x.1).map fun o=>(x.2,o)).lookup a=some o:=by
     simp only [hb,Option.map_none] at e;exact e
    exact next e
   | some u =>
    have e:List.lookup a ((k,u) :: ((l.zipIdx (k + 1)).filterMap fun x=>(alive x.1).map fun o=>(x.2,o)))=some o:=by
     simp only [hb,Option.map_some] at e;exact e
    rw [List.lookup_cons] at e;cases hab:a == k with
    | true =>
     rw [hab] at e;have ak:=beq_iff_eq.mp hab;subst ak;refine ⟨Nat.le_refl _,b,by rw [Nat.sub_self]; rfl,?_⟩;rw [hb]; exact e
    | false=>rw [hab] at e; exact next e
 obtain ⟨_,u,h2,h3⟩:=key _ 0 e;rw [Nat.sub_zero,Array.getElem?_toList] at h2;unfold Heap.get?;rw [h2];obtain ⟨c,d,dt,sl⟩:=u;cases dt <;> exact h3
def Ji (K:Frag) (n:Str):Addr:=match nsIn K mainGlobals n with
 | some (some (.ref k))=>k
 | _=>0
def JR (K:Frag) (n:Str):Bool:=match nsIn K mainGlobals n with
 | some (some (.ref _))=>true
 | _=>false
theorem Jz {K:Frag} {n:Str} (h:JR K n=true):nsIn K mainGlobals n=some (some (.ref (Ji K n))):=by
 unfold JR at h;unfold Ji;split at h
 ·rename_i k e; rw [e]
 ·cases h
def JK (K:Frag) (n m:Str):Addr:=match findIn K (.ref (Ji K n)) m with
 | some (some (.ref k))=>k
 | _=>0
def YY (K:Frag) (n m:Str):Bool:=match findIn K (.ref (Ji K n)) m with
 | some (some (.ref _))=>true
 | _=>false
theorem J7 {K:Frag} {n m:Str} (h:YY K n m=true):findIn K (.ref (Ji K n)) m=some (some (.ref (JK K n m))):=by
 unfold YY at h;unfold JK;split at h
 ·rename_i k e; rw [e]
 ·cases h
def JU (K:Frag) (f:Addr):FuncData:=match K.lookup f with
 | some ⟨_,_,.func fd,_⟩=>fd
 | _=>default
def Jj6 (fd:FuncData):FuncData:={ fd with kwdefaults:=.none,doc:=.none,pyModule:=.none,annotations:=none,code:=.none,closureTuple:=.none }
def Yg (K:Frag) (f:Addr) (q:Str):Option (FuncData×Bool):=match K.lookup f with
 | some ⟨_,_,.func fd,_⟩=>some (Jj6 fd,codeIn K fd.code q && keepIn K (.ref f))
 | _=>none
abbrev Yi (x q:Str) (st:Stmt):Option (FuncData×Bool):=some (fnOf x q (JcC st) (JaX st) (Jl st) .none .none .none .none none .none .none,true)
theorem JkE {K:Frag} {f:Addr} {x q:Str} {st:Stmt} (h:Yg K f q=Yi x q st):∃ (oc:Value) (od:Option Addr) (kV doc pm:Value) (an:Option Addr) (cdv ct:Value) (osl:Array (Option Value)),
  JU K f=fnOf x q (JcC st) (JaX st) (Jl st) .none kV doc pm an cdv ct∧K.lookup f=some ⟨oc,od,.func (JU K f),osl⟩∧codeIn K cdv q=true∧keepIn K (.ref f)=true:=by
 unfold Yg at h;unfold JU;split at h
 ·rename_i oc od fd sl e;rw [e];have h:=Option.some.inj h;have h1:=congrArg Prod.fst h;have h2:(codeIn K fd.code q && keepIn K (.ref f))=true:=congrArg Prod.snd h;rw [Bool.and_eq_true] at h2;obtain ⟨n,qn,ps,b,sc,gl,cl,df,kd,dc,pm,an,cd,ct,bu⟩:=fd;have h1:Jj6 ⟨n,qn,ps,b,sc,gl,cl,df,kd,dc,pm,an,cd,ct,bu⟩=fnOf x q (JcC st) (JaX st) (Jl st) .none .none .none .none none .none .none:=h1;unfold Jj6 fnOf at h1;simp only [FuncData.mk.injEq] at h1;obtain ⟨rfl,rfl,rfl,rfl,rfl,rfl,rfl,rfl,_,_,_,_,_,_,rfl⟩:=h1;exact ⟨oc,od,kd,dc,pm,an,cd,ct,sl,rfl,rfl,h2.1,h2.2⟩
 ·cases h
def JdV:Value→Option (Sum Int Str)
 | .int i _=>some (.inl i)
 | .str x _=>some (.inr x)
 | _=>none
def obV (K:Frag) (n:Str):Option (Sum Int Str):=match nsIn K mainGlobals n with
 | some (some v)=>JdV v
 | _=>none
theorem Jnj {K:Frag} {n:Str} {i:Int} (h:obV K n=some (.inl i)):∃ t,nsIn K mainGlobals n=some (some (.int i t)):=by
 unfold obV at h;split at h
 ·rename_i v e;unfold JdV at h;split at h
  ·cases h; exact ⟨_,e⟩
  ·cases h
  ·cases h
 ·cases h
def obT (K:Frag) (n:Str):Option (Bool×List (Option (Sum Int Str))):=match K.lookup (Ji K n) with
 | some ⟨.type "tuple",_,.seq its _,_⟩=>some (decide (its.size≤1000),its.toList.map JdV)
 | _=>none
theorem at_ {α:Type} {l l':List α} (h:l=l') (i:Nat):l[i]?=l'[i]?:=by rw [h]
def Jds (okf:Thread→Bool) (stf:SharedT→Thread→Option (SharedT×Thread)):Nat→SharedT→Thread→Option SharedT
 | 0,_,_=>none
 | n + 1,s,t=>match through t with
  | true=>some s
  | false=>match okf t with
   | false=>none
   | true=>match stf s t with
    | some (s',t')=>Jds okf stf n s' t'
    | none=>none
theorem Jfx {tb:String→Option Builtin} {p:Program} {w:World} {n₀:Nat} {ann:Option Value}:∀ {n:Nat} {s s':SharedT} {t:Thread},Jds (stepOk n₀ ann) (stepT (denote tb) p w) n s t=some s'→topRun tb p w n₀ ann n s.abs t=some s'.abs
 | 0,_,_,_,h=>nomatch h
 | n + 1,s,s',t,h=>by
  unfold Jds at h;unfold topRun;split at h
  ·rename_i e; rw [e]; cases h; rfl
  ·rename_i e; rw [e];split at h
   ·cases h
   ·rename_i e2; rw [e2];split at h
    ·rename_i s2 t2 e3;rw [stepT_spec e3];exact Jfx h
    ·cases h
noncomputable def Jf8 (p:Program) (w:World) (N:Nat) (s:SharedT):Option SharedT :=
 Jds (Fast.tw6613529449190102663 ((boot_heap w.params).objs.size) ((boot_heap w.params).nsMap mainGlobals "__annotations__")) (Fast.tw10156331382660048174 (Fast.tw11892475500146522536 Fast.tw14364793385576792824) p w) N s (topStub p)
theorem Jjq {p:Program} {w:World} {N:Nat} {s:SharedT}:Jf8 p w N s=Jds (stepOk ((boot_heap w.params).objs.size) ((boot_heap w.params).nsMap mainGlobals "__annotations__")) (stepT (denote treeTable) p w) N s (topStub p):=by
 rw [Fast.te6613529449190102663,Fast.te10156331382660048174,Fast.te11892475500146522536,Fast.te14364793385576792824];rfl
noncomputable def Jfs (P:Params):BT:=(boot_heap P).objs.toList.zipIdx.foldl (fun t x=>t.ins x.2 x.1) .nil
noncomputable def Jj5 (P:Params) (os:OsState):SharedT:=⟨Jfs P,(boot_heap P).objs.size,(boot_heap P).life,Array.mk [],boot_drawn,boot_toks,os⟩
theorem Jlg (P:Params) (os:OsState):(Jj5 P os).abs=⟨boot_heap P,Array.mk [],boot_drawn,boot_toks,os⟩:=by
 show (⟨absHeap (Jfs P) (boot_heap P).objs.size (boot_heap P).life,_,_,_,_⟩:Shared)=_;have e:absHeap (Jfs P) (boot_heap P).objs.size (boot_heap P).life=boot_heap P:=by kernel_rfl
 rw [e]; rfl
noncomputable def JjA {α:Type} (p q:Program) (loose:List Str) (Xt:Shared→Bool) (Yf:Shared→α) (P:Params) (s:Shared) :=
 (staticsOk (importedModules p.main.body) (boot_heap P) s.heap && namesBound p s.heap && gensDone s && laidKept (boot_heap P) s.heap,Fast.tw4187177175401517315 q loose (importedModules p.main.body) Xt true s,Yf s)
theorem Jnr {p q:Program} {loose:List Str} {Xt:Shared→Bool} {α:Type} {Yf:Shared→α} {Ya:World→α} {N:Nat} (e:opening p=plainProg p.main.scope.names) (hN:Nat.ble 600 N=true) (f:∀ s,fenceModules? p s=some s)
  (h:∀ (w:World) (os:OsState),(Jf8 p w N (Jj5 w.params os)).map (fun s=>JjA p q loose Xt Yf w.params s.abs)=some (true,openGood q loose,Ya w))
  (hb:∀ P:Params,((boot_heap P).isNs mainGlobals && (Array.mk ([]:List GenState)).size == 0)=true):LeftO p q loose Xt Yf Ya N:=by
 intro w;have o:=boot_open e hN f w;obtain ⟨s0,e0,e1⟩:=Option.map_eq_some_iff.mp o;obtain ⟨h0,g0,d0,k0,os⟩:=s0;obtain ⟨rfl,rfl,rfl,rfl⟩:h0=boot_heap w.params∧g0=Array.mk []∧d0=boot_drawn∧k0=boot_toks:=by simpa using e1
 obtain ⟨s1,r1,l1⟩:=Option.map_eq_some_iff.mp (h w os);rw [Jjq] at r1;have r:=Jfx r1;rw [Jlg] at r;have l:(staticsOk (importedModules p.main.body) (boot_heap w.params) s1.abs.heap && namesBound p s1.abs.heap && gensDone s1.abs && laidKept (boot_heap w.params) s1.abs.heap)=true∧openSeen q loose (importedModules p.main.body) Xt true s1.abs=openGood q loose∧Yf s1.abs=Ya w:=by
  have z:=l1;unfold JjA at z;rw [← Fast.te4187177175401517315] at z;exact ⟨congrArg Prod.fst z,congrArg (fun x=>x.2.1) z,congrArg (fun x=>x.2.2) z⟩
 have t:topFrom treeTable p w N ⟨boot_heap w.params,Array.mk [],boot_drawn,boot_toks,os⟩=some s1.abs:=by
  unfold topFrom;dsimp only;rw [hb w.params,r];show (match staticsOk (importedModules p.main.body) (boot_heap w.params) s1.abs.heap && namesBound p s1.abs.heap && gensDone s1.abs && laidKept (boot_heap w.params) s1.abs.heap with | true=>_ | false=>_)=_;rw [l.1]
 unfold openEnds;rw [e0];show (topFrom treeTable p w N _).map _=_;rw [t];exact congrArg some (Prod.ext l.2.1 l.2.2)
end L2
namespace Pf
open PySem PySem.W L2
abbrev pg:Program:=PySem.Challenge.pw_bidmover_k21_other_names
def Yl (i:Nat):Stmt:=pg.main.body.getD i (.Pass ⟨0,0,0,0⟩)
def qv:Program:={ pg with main:={ pg.main with body:=[Yl 51] } }
def lo0:List Str:=(["good_name", "check_hand", "other", "check_up_to", "check_coins", "check_bid", "ended", "coins_of", "pay", "settle", "check_each_once", "check_among", "check_places", "check_lanes", "check_goals", "_law_at", "_law_row", "_law_whole", "_law_names", "_law_pairs", "_law_goals", "_law_ground", "_law_total", "_law_left", "_law_ways", "_law_won", "_law_holds", "_law_open", "_law_renamed", "_law_alike", "BidmoverError", "BadName", "BadHand", "OutOfRange", "Twice", "NoPlace", "BadBid", "Book", "Board", "HANDS", "MOST_SIGNS", "MOST_TURNS", "MOST_COINS", "MOST_PLACES", "MOST_LANES"]:List String).map Str.ofString
abbrev JbL:Stmt:=Yl 11
abbrev JcI:Stmt:=Yl 12
abbrev Jgl:Stmt:=Yl 13
abbrev JbX:Stmt:=Yl 17
abbrev Jb0:Stmt:=Yl 18
abbrev Jdk:Stmt:=Yl 19
abbrev Jgn:Stmt:=Yl 20
abbrev JdN:Stmt:=Yl 21
abbrev JjE:Stmt:=Yl 22
abbrev Je8:Stmt:=Yl 23
abbrev Jdl:Stmt:=YR (Yl 25) 0
abbrev JaG:Stmt:=YR (Yl 25) 1
abbrev Jbr:Stmt:=YR (Yl 25) 2
abbrev Yn:Stmt:=YR (Yl 25) 3
abbrev Ym:Stmt:=YR (Yl 25) 4
abbrev Jae:Stmt:=YR (Yl 25) 5
abbrev Jb2:Stmt:=YR (Yl 25) 6
abbrev JcJ:Stmt:=YR (Yl 25) 7
abbrev Jb3:Stmt:=YR (Yl 25) 8
abbrev JaS:Stmt:=YR (Yl 25) 9
abbrev Jaf:Stmt:=YR (Yl 25) 10
abbrev Jbq:Stmt:=YR (Yl 25) 11
abbrev JaF:Stmt:=Yl 29
abbrev Jb1:Stmt:=Yl 30
abbrev Jbo:Stmt:=Yl 31
abbrev JbY:Stmt:=Yl 32
abbrev JbZ:Stmt:=Yl 33
abbrev JcK:Stmt:=YR (Yl 34) 0
abbrev ZX:Stmt:=YR (Yl 34) 1
abbrev Ja0:Stmt:=YR (Yl 34) 2
abbrev Ja1:Stmt:=YR (Yl 34) 3
abbrev JlW:Stmt:=Yl 36
abbrev JjD:Stmt:=Yl 37
abbrev Jgi:Stmt:=Yl 38
abbrev JeH:Stmt:=Yl 39
abbrev Jgk:Stmt:=Yl 40
abbrev JeI:Stmt:=Yl 41
abbrev JcH:Stmt:=Yl 42
abbrev Jgj:Stmt:=Yl 43
abbrev JhV:Stmt:=Yl 44
abbrev JfB:Stmt:=Yl 45
abbrev JjC:Stmt:=Yl 46
abbrev Jgm:Stmt:=Yl 47
abbrev JhU:Stmt:=Yl 48
abbrev JaW:Stmt:=Yl 49
abbrev Jbp:Stmt:=Yl 50
abbrev JdM:Stmt:=Yl 51
def JlP (K:Frag):List (Bool):=[JR K "good_name",
 JR K "check_hand",
 JR K "other",
 JR K "check_up_to",
 JR K "check_coins",
 JR K "check_bid",
 JR K "ended",
 JR K "coins_of",
 JR K "pay",
 JR K "settle",
 YY K "Book" "__init__",
 PySem.W.isFn K (.ref (JK K "Book" "__init__")),
 YY K "Book" "needs_with",
 PySem.W.isFn K (.ref (JK K "Book" "needs_with")),
 YY K "Book" "need_at",
 PySem.W.isFn K (.ref (JK K "Book" "need_at")),
 YY K "Book" "need_where_north_leads",
 PySem.W.isFn K (.ref (JK K "Book" "need_where_north_leads")),
 YY K "Book" "need_where_south_leads",
 PySem.W.isFn K (.ref (JK K "Book" "need_where_south_leads")),
 YY K "Book" "check_share",
 PySem.W.isFn K (.ref (JK K "Book" "check_share")),
 YY K "Book" "winner",
 PySem.W.isFn K (.ref (JK K "Book" "winner")),
 YY K "Book" "least",
 PySem.W.isFn K (.ref (JK K "Book" "least")),
 YY K "Book" "bid_of",
 PySem.W.isFn K (.ref (JK K "Book" "bid_of")),
 YY K "Book" "answer_of",
 PySem.W.isFn K (.ref (JK K "Book" "answer_of")),
 YY K "Book" "answer_wins",
 PySem.W.isFn K (.ref (JK K "Book" "answer_wins")),
 YY K "Book" "step_of",
 PySem.W.isFn K (.ref (JK K "Book" "step_of")),
 JR K "check_each_once",
 JR K "check_among",
 JR K "check_places",
 JR K "check_lanes",
 JR K "check_goals",
 YY K "Board" "__init__",
 PySem.W.isFn K (.ref (JK K "Board" "__init__")),
 YY K "Board" "check_place",
 PySem.W.isFn K (.ref (JK K "Board" "check_place")),
 YY K "Board" "ways",
 PySem.W.isFn K (.ref (JK K "Board" "ways")),
 YY K "Board" "is_goal",
 PySem.W.isFn K (.ref (JK K "Board" "is_goal")),
 JR K "_law_at",
 JR K "_law_row",
 JR K "_law_whole",
 JR K "_law_names",
 JR K "_law_pairs",
 JR K "_law_goals",
 JR K "_law_ground",
 JR K "_law_total",
 JR K "_law_left",
 JR K "_law_ways",
 JR K "_law_won",
 JR K "_law_holds",
 JR K "_law_open",
 JR K "_law_renamed",
 JR K "_law_alike",
 JR K "law",
 JR K "HANDS",
 JR K "BidmoverError",
 JR K "BadName",
 JR K "BadHand",
 JR K "OutOfRange",
 JR K "Twice",
 JR K "NoPlace",
 JR K "BadBid",
 JR K "Book",
 JR K "Board",
 PySem.W.plainGet K (Ji K "Book") Str.empty,
 PySem.W.hasDictIn K (Ji K "Book"),
 PySem.W.plainOver K (Ji K "Book"),
 PySem.W.makesIn K (Ji K "Book"),
 PySem.W.keepIn K (.ref (Ji K "Book")),
 PySem.W.plainGet K (Ji K "Board") Str.empty,
 PySem.W.hasDictIn K (Ji K "Board"),
 PySem.W.plainOver K (Ji K "Board"),
 PySem.W.makesIn K (Ji K "Board"),
 PySem.W.keepIn K (.ref (Ji K "Board")),
 PySem.W.excIn K (Ji K "BadHand") [.type "ValueError",.type "Exception",.type "BaseException",.type "object"] "ValueError.__new__",
 (PySem.W.clsIn K (Ji K "BadHand")).isSome,
 PySem.W.excIn K (Ji K "OutOfRange") [.type "ValueError",.type "Exception",.type "BaseException",.type "object"] "ValueError.__new__",
 (PySem.W.clsIn K (Ji K "OutOfRange")).isSome,
 PySem.W.excIn K (Ji K "BadBid") [.type "ValueError",.type "Exception",.type "BaseException",.type "object"] "ValueError.__new__",
 (PySem.W.clsIn K (Ji K "BadBid")).isSome,
 PySem.W.excIn K (Ji K "Twice") [.type "ValueError",.type "Exception",.type "BaseException",.type "object"] "ValueError.__new__",
 (PySem.W.clsIn K (Ji K "Twice")).isSome,
 PySem.W.excIn K (Ji K "NoPlace") [.type "ValueError",.type "Exception",.type "BaseException",.type "object"] "ValueError.__new__",
 (PySem.W.clsIn K (Ji K "NoPlace")).isSome,
 PySem.W.excIn K (Ji K "BadName") [.type "ValueError",.type "Exception",.type "BaseException",.type "object"] "ValueError.__new__",
 (PySem.W.clsIn K (Ji K "BadName")).isSome]
def isB:List (Bool):=List.replicate 95 true
def JlO (K:Frag):List (Option (FuncData×Bool)):=[Yg K (Ji K "good_name") "good_name",
 Yg K (Ji K "check_hand") "check_hand",
 Yg K (Ji K "other") "other",
 Yg K (Ji K "check_up_to") "check_up_to",
 Yg K (Ji K "check_coins") "check_coins",
 Yg K (Ji K "check_bid") "check_bid",
 Yg K (Ji K "ended") "ended",
 Yg K (Ji K "coins_of") "coins_of",
 Yg K (Ji K "pay") "pay",
 Yg K (Ji K "settle") "settle",
 Yg K (JK K "Book" "__init__") "Book.__init__",
 Yg K (JK K "Book" "needs_with") "Book.needs_with",
 Yg K (JK K "Book" "need_at") "Book.need_at",
 Yg K (JK K "Book" "need_where_north_leads") "Book.need_where_north_leads",
 Yg K (JK K "Book" "need_where_south_leads") "Book.need_where_south_leads",
 Yg K (JK K "Book" "check_share") "Book.check_share",
 Yg K (JK K "Book" "winner") "Book.winner",
 Yg K (JK K "Book" "least") "Book.least",
 Yg K (JK K "Book" "bid_of") "Book.bid_of",
 Yg K (JK K "Book" "answer_of") "Book.answer_of",
 Yg K (JK K "Book" "answer_wins") "Book.answer_wins",
 Yg K (JK K "Book" "step_of") "Book.step_of",
 Yg K (Ji K "check_each_once") "check_each_once",
 Yg K (Ji K "check_among") "check_among",
 Yg K (Ji K "check_places") "check_places",
 Yg K (Ji K "check_lanes") "check_lanes",
 Yg K (Ji K "check_goals") "check_goals",
 Yg K (JK K "Board" "__init__") "Board.__init__",
 Yg K (JK K "Board" "check_place") "Board.check_place",
 Yg K (JK K "Board" "ways") "Board.ways",
 Yg K (JK K "Board" "is_goal") "Board.is_goal",
 Yg K (Ji K "_law_at") "_law_at",
 Yg K (Ji K "_law_row") "_law_row",
 Yg K (Ji K "_law_whole") "_law_whole",
 Yg K (Ji K "_law_names") "_law_names",
 Yg K (Ji K "_law_pairs") "_law_pairs",
 Yg K (Ji K "_law_goals") "_law_goals",
 Yg K (Ji K "_law_ground") "_law_ground",
 Yg K (Ji K "_law_total") "_law_total",
 Yg K (Ji K "_law_left") "_law_left",
 Yg K (Ji K "_law_ways") "_law_ways",
 Yg K (Ji K "_law_won") "_law_won",
 Yg K (Ji K "_law_holds") "_law_holds",
 Yg K (Ji K "_law_open") "_law_open",
 Yg K (Ji K "_law_renamed") "_law_renamed",
 Yg K (Ji K "_law_alike") "_law_alike",
 Yg K (Ji K "law") "law"]
def isF:List (Option (FuncData×Bool)):=[Yi "good_name" "good_name" JbL,
 Yi "check_hand" "check_hand" JcI,
 Yi "other" "other" Jgl,
 Yi "check_up_to" "check_up_to" JbX,
 Yi "check_coins" "check_coins" Jb0,
 Yi "check_bid" "check_bid" Jdk,
 Yi "ended" "ended" Jgn,
 Yi "coins_of" "coins_of" JdN,
 Yi "pay" "pay" JjE,
 Yi "settle" "settle" Je8,
 Yi "__init__" "Book.__init__" Jdl,
 Yi "needs_with" "Book.needs_with" JaG,
 Yi "need_at" "Book.need_at" Jbr,
 Yi "need_where_north_leads" "Book.need_where_north_leads" Yn,
 Yi "need_where_south_leads" "Book.need_where_south_leads" Ym,
 Yi "check_share" "Book.check_share" Jae,
 Yi "winner" "Book.winner" Jb2,
 Yi "least" "Book.least" JcJ,
 Yi "bid_of" "Book.bid_of" Jb3,
 Yi "answer_of" "Book.answer_of" JaS,
 Yi "answer_wins" "Book.answer_wins" Jaf,
 Yi "step_of" "Book.step_of" Jbq,
 Yi "check_each_once" "check_each_once" JaF,
 Yi "check_among" "check_among" Jb1,
 Yi "check_places" "check_places" Jbo,
 Yi "check_lanes" "check_lanes" JbY,
 Yi "check_goals" "check_goals" JbZ,
 Yi "__init__" "Board.__init__" JcK,
 Yi "check_place" "Board.check_place" ZX,
 Yi "ways" "Board.ways" Ja0,
 Yi "is_goal" "Board.is_goal" Ja1,
 Yi "_law_at" "_law_at" JlW,
 Yi "_law_row" "_law_row" JjD,
 Yi "_law_whole" "_law_whole" Jgi,
 Yi "_law_names" "_law_names" JeH,
 Yi "_law_pairs" "_law_pairs" Jgk,
 Yi "_law_goals" "_law_goals" JeI,
 Yi "_law_ground" "_law_ground" JcH,
 Yi "_law_total" "_law_total" Jgj,
 Yi "_law_left" "_law_left" JhV,
 Yi "_law_ways" "_law_ways" JfB,
 Yi "_law_won" "_law_won" JjC,
 Yi "_law_holds" "_law_holds" Jgm,
 Yi "_law_open" "_law_open" JhU,
 Yi "_law_renamed" "_law_renamed" JaW,
 Yi "_law_alike" "_law_alike" Jbp,
 Yi "law" "law" JdM]
def JlM (K:Frag):List (Option (Option Value)):=[PySem.W.nsIn K mainGlobals "all",
 PySem.W.nsIn K mainGlobals "len",
 PySem.W.nsIn K mainGlobals "range",
 PySem.W.nsIn K mainGlobals "min",
 PySem.W.nsIn K mainGlobals "max",
 PySem.W.nsIn K mainGlobals "set",
 PySem.W.nsIn K mainGlobals "tuple",
 PySem.W.nsIn K mainGlobals "sorted",
 PySem.W.nsIn K mainGlobals "isinstance",
 PySem.W.nsIn K mainGlobals "int",
 PySem.W.nsIn K mainGlobals "bool",
 PySem.W.nsIn K mainGlobals "str",
 PySem.W.nsIn K mainGlobals "list",
 PySem.W.findIn K (.ref (Ji K "Book")) "__setattr__",
 PySem.W.findIn K (.ref (Ji K "Book")) "board",
 PySem.W.findIn K (.ref (Ji K "Book")) "coins",
 PySem.W.findIn K (.ref (Ji K "Book")) "turns",
 PySem.W.findIn K (.ref (Ji K "Book")) "needs",
 PySem.W.findIn K (.ref (Ji K "Board")) "__setattr__",
 PySem.W.findIn K (.ref (Ji K "Board")) "places",
 PySem.W.findIn K (.ref (Ji K "Board")) "lanes",
 PySem.W.findIn K (.ref (Ji K "Board")) "goals",
 PySem.W.specialIn K (.builtin "object.__class__") "__get__",
 PySem.W.findIn K (.ref (Ji K "BadHand")) "__getattribute__",
 PySem.W.findIn K (.ref (Ji K "BadHand")) "__getattr__",
 PySem.W.findIn K (.ref (Ji K "BadHand")) "__class__",
 PySem.W.findIn K (.ref (Ji K "OutOfRange")) "__getattribute__",
 PySem.W.findIn K (.ref (Ji K "OutOfRange")) "__getattr__",
 PySem.W.findIn K (.ref (Ji K "OutOfRange")) "__class__",
 PySem.W.findIn K (.ref (Ji K "BadBid")) "__getattribute__",
 PySem.W.findIn K (.ref (Ji K "BadBid")) "__getattr__",
 PySem.W.findIn K (.ref (Ji K "BadBid")) "__class__",
 PySem.W.findIn K (.ref (Ji K "Twice")) "__getattribute__",
 PySem.W.findIn K (.ref (Ji K "Twice")) "__getattr__",
 PySem.W.findIn K (.ref (Ji K "Twice")) "__class__",
 PySem.W.findIn K (.ref (Ji K "NoPlace")) "__getattribute__",
 PySem.W.findIn K (.ref (Ji K "NoPlace")) "__getattr__",
 PySem.W.findIn K (.ref (Ji K "NoPlace")) "__class__",
 PySem.W.findIn K (.ref (Ji K "BadName")) "__getattribute__",
 PySem.W.findIn K (.ref (Ji K "BadName")) "__getattr__",
 PySem.W.findIn K (.ref (Ji K "BadName")) "__class__"]
def isN:List (Option (Option Value)):=[some none,
 some none,
 some none,
 some none,
 some none,
 some none,
 some none,
 some none,
 some none,
 some none,
 some none,
 some none,
 some none,
 some (some (.builtin "object.__setattr__")),
 some none,
 some none,
 some none,
 some none,
 some (some (.builtin "object.__setattr__")),
 some none,
 some none,
 some none,
 some (some (.builtin "getset_descriptor.__get__")),
 some (some (.builtin "BaseException.__getattribute__")),
 some none,
 some (some (.builtin "object.__class__")),
 some (some (.builtin "BaseException.__getattribute__")),
 some none,
 some (some (.builtin "object.__class__")),
 some (some (.builtin "BaseException.__getattribute__")),
 some none,
 some (some (.builtin "object.__class__")),
 some (some (.builtin "BaseException.__getattribute__")),
 some none,
 some (some (.builtin "object.__class__")),
 some (some (.builtin "BaseException.__getattribute__")),
 some none,
 some (some (.builtin "object.__class__")),
 some (some (.builtin "BaseException.__getattribute__")),
 some none,
 some (some (.builtin "object.__class__"))]
def JlN (K:Frag):List (Option Bool):=[PySem.W.takesIn K (.builtin "object.__class__"),
 PySem.W.mroIn K (Ji K "BadHand") (.type "object"),
 PySem.W.mroIn K (Ji K "BadHand") (.type "BaseException"),
 PySem.W.mroIn K (Ji K "OutOfRange") (.type "object"),
 PySem.W.mroIn K (Ji K "OutOfRange") (.type "BaseException"),
 PySem.W.mroIn K (Ji K "BadBid") (.type "object"),
 PySem.W.mroIn K (Ji K "BadBid") (.type "BaseException"),
 PySem.W.mroIn K (Ji K "Twice") (.type "object"),
 PySem.W.mroIn K (Ji K "Twice") (.type "BaseException"),
 PySem.W.mroIn K (Ji K "NoPlace") (.type "object"),
 PySem.W.mroIn K (Ji K "NoPlace") (.type "BaseException"),
 PySem.W.mroIn K (Ji K "BadName") (.type "object"),
 PySem.W.mroIn K (Ji K "BadName") (.type "BaseException")]
def isK:List (Option Bool):=[some true,
 some true,
 some true,
 some true,
 some true,
 some true,
 some true,
 some true,
 some true,
 some true,
 some true,
 some true,
 some true]
def JlK (K:Frag):List (Option (Sum Int Str)):=[obV K "MOST_SIGNS",
 obV K "MOST_TURNS",
 obV K "MOST_COINS",
 obV K "MOST_PLACES",
 obV K "MOST_LANES"]
def isV:List (Option (Sum Int Str)):=[some (.inl 6),
 some (.inl 30),
 some (.inl 20),
 some (.inl 12),
 some (.inl 40)]
def JlL (K:Frag):List (Option (Bool×List (Option (Sum Int Str)))):=[obT K "HANDS"]
def isT:List (Option (Bool×List (Option (Sum Int Str)))):=[some (true,([.inr "north",.inr "south"]:List (Sum Int Str)).map some)]
def see (s:Shared):=(fun K=>(JlP K,JlO K,JlM K,JlN K,JlK K,JlL K)) (JkZ s.heap)
def JhB:=(isB,isF,isN,isK,isV,isT)
def xt (s:Shared):Bool:=xlAt qv [] s && recOk [] s
set_option maxHeartbeats 0 in
theorem JnU (w:World) (os:OsState):(Jf8 pg w 6998 (Jj5 w.params os)).map (fun s=>JjA pg qv lo0 xt see w.params s.abs)=some (true,openGood qv lo0,JhB):=by
 kernel_rfl
theorem Jnx (P:Params):((boot_heap P).isNs mainGlobals && (Array.mk ([]:List GenState)).size == 0)=true:=by kernel_rfl
theorem JlV:PySem.W.OpenLaw.wellSaid PySem.Challenge.rw_bidmover_k21_other_names=true:=by kernel_rfl
theorem left:LeftO pg qv lo0 xt see (fun _=>JhB) 6998:=Jnr (by kernel_rfl) (by decide) (fun s=>by kernel_rfl) JnU Jnx
end Pf
namespace L2
open PySem PySem.Spec PyProof.Rows
abbrev JO:=Sum Int Str
def JeN:JO→Value→Bool
 | .inl k,v=>Value.isInt k v
 | .inr x,v=>Value.isStrOf x v
def JpA (w:World):JO→Int
 | .inl k=>hashInt k
 | .inr x=>hashStr w x
theorem Y1:∀ {k:JO} {v:Value},JeN k v=true→(∃ i t,k=Sum.inl i∧v=Value.int i t)∨(∃ x t,k=Sum.inr x∧v=Value.str x t)
 | .inl i,v,h=>by
  obtain ⟨t,e⟩:=Value.isInt_shape (k:=i) (v:=v) h;exact .inl ⟨i,t,rfl,e⟩
 | .inr x,v,h=>by
  obtain ⟨t,e⟩:=Value.isStrOf_shape (x:=x) (v:=v) h;exact .inr ⟨x,t,rfl,e⟩
theorem JkR (i:Int) (t:Tok):JeN (.inl i) (.int i t)=true:=by simp [JeN,Value.isInt]
theorem JkQ (x:Str) (t:Tok):JeN (.inr x) (.str x t)=true:=by simp [JeN,Value.isStrOf]
theorem Joi (a b:Int):decide ((Sum.inl a:JO)=Sum.inl b)=(a == b):=by
 by_cases e:a=b
 ·subst e; simp
 ·have h:¬ (Sum.inl a:JO)=Sum.inl b:=fun q=>e (Sum.inl.inj q)
  rw [decide_eq_false h];exact (beq_eq_false_iff_ne.mpr e).symm
theorem JkP (a b:Str):decide ((Sum.inr a:JO)=Sum.inr b)=decide (a=b):=by
 by_cases e:a=b
 ·subst e; simp
 ·have h:¬ (Sum.inr a:JO)=Sum.inr b:=fun q=>e (Sum.inr.inj q)
  rw [decide_eq_false h,decide_eq_false e]
theorem Joh (a:Int) (b:Str):decide ((Sum.inl a:JO)=Sum.inr b)=false:=decide_eq_false (fun q=>nomatch q)
theorem Jog (a:Str) (b:Int):decide ((Sum.inr a:JO)=Sum.inl b)=false:=decide_eq_false (fun q=>nomatch q)
def J6 (prog:Program) (w:World):PySem.KeyKind prog w JO where
 is:=JeN
 hash:=JpA w
 inj:=fun v a b ha hb=>by
  rcases Y1 ha with ⟨i,t,rfl,rfl⟩ | ⟨x,t,rfl,rfl⟩
  ·rcases Y1 hb with ⟨j,u,rfl,e⟩ | ⟨y,u,rfl,e⟩
   ·injection e with e1 _; rw [e1]
   ·exact nomatch e
  ·rcases Y1 hb with ⟨j,u,rfl,e⟩ | ⟨y,u,rfl,e⟩
   ·exact nomatch e
   ·injection e with e1 _; rw [e1]
 byValue:=fun k v h=>by
  rcases Y1 h with ⟨i,t,rfl,rfl⟩ | ⟨x,t,rfl,rfl⟩ <;> rfl
 pyHash:=fun hv h=>by
  rcases Y1 hv with ⟨i,t,rfl,rfl⟩ | ⟨x,t,rfl,rfl⟩
  ·exact wpAny_pyHash_int h
  ·exact wpAny_pyHash_str h
 eqBool:=fun hu hv h=>by
  rcases Y1 hu with ⟨i,t,rfl,rfl⟩ | ⟨x,t,rfl,rfl⟩
  ·rcases Y1 hv with ⟨j,u,rfl,rfl⟩ | ⟨y,u,rfl,rfl⟩
   ·rw [Joi] at h; exact wpAny_eqBool_int h
   ·rw [Joh] at h; exact SeqAt.EqAt.int_str i t y u _ _ _ _ h
  ·rcases Y1 hv with ⟨j,u,rfl,rfl⟩ | ⟨y,u,rfl,rfl⟩
   ·rw [Jog] at h; exact SeqAt.EqAt.str_int x t j u _ _ _ _ h
   ·rw [JkP] at h; exact wpAny_eqBool_str h
 «strs»:=fun k x t v h=>by
  rcases Y1 h with ⟨i,u,rfl,e⟩ | ⟨y,u,rfl,e⟩
  ·exact nomatch e
  ·injection e with e1 _;subst e1;cases v <;> rfl
theorem JiP (prog:Program) (w:World) (i:Int) (t:Tok):(J6 prog w).is (.inl i) (.int i t)=true:=JkR i t
theorem JaL (prog:Program) (w:World) (x:Str) (t:Tok):(J6 prog w).is (.inr x) (.str x t)=true:=JkQ x t
end L2
namespace L2
open PySem PySem.Spec PyProof.Rows
inductive V where
 | non | bl (b:Bool) | int (i:Int) | str (x:Str) | byt (b:Array UInt8) | flt (b:UInt64) | ref (a:Addr) | ty (n:String)
 deriving DecidableEq
def JG:V→Value→Prop
 | .non,u=>u=Value.none
 | .bl b,u=>u=Value.bool b
 | .int i,u=>∃ t,u=Value.int i t
 | .str x,u=>∃ t,u=Value.str x t
 | .byt b,u=>∃ t,u=Value.bytes b t
 | .flt b,u=>∃ t,u=Value.float b t
 | .ref a,u=>u=Value.ref a
 | .ty n,u=>u=Value.type n
abbrev Jw:List V→List Value→Prop:=Paired JG
theorem Jw.length {xs:List V} {us:List Value} (r:Jw xs us):xs.length=us.length:=Paired.length r
theorem Jw.get:∀ {xs:List V} {us:List Value} {i:Nat} {x:V},Jw xs us→xs[i]?=some x→∃ u,us[i]?=some u∧JG x u
 | _,_,_,_,.nil,e=>by simp at e
 | _,_,0,_,.cons r _,e=>by simp at e; subst e; exact ⟨_,rfl,r⟩
 | _,_,i + 1,x,.cons _ t,e=>by
  obtain ⟨u,h1,h2⟩:=Jw.get (i:=i) (x:=x) t (by simpa using e);exact ⟨u,by simpa using h1,h2⟩
theorem Jw.set {x:V} {u:Value} (r:JG x u):∀ {xs:List V} {us:List Value} (i:Nat),Jw xs us→Jw (xs.set i x) (us.set i u)
 | _,_,_,.nil=>.nil
 | _,_,0,.cons _ t=>.cons r t
 | _,_,i + 1,.cons q t=>.cons q (Jw.set r i t)
theorem Jw.append:∀ {xs ys:List V} {us ws:List Value},Jw xs us→Jw ys ws→Jw (xs ++ ys) (us ++ ws)
 | _,_,_,_,.nil,s=>s
 | _,_,_,_,.cons r t,s=>.cons r (Jw.append t s)
theorem Jw.take:∀ {xs:List V} {us:List Value} (n:Nat),Jw xs us→Jw (xs.take n) (us.take n)
 | _,_,0,_=>.nil
 | _,_,_ + 1,.nil=>.nil
 | _,_,n + 1,.cons r t=>.cons r (Jw.take n t)
theorem Jw.drop:∀ {xs:List V} {us:List Value} (n:Nat),Jw xs us→Jw (xs.drop n) (us.drop n)
 | _,_,0,r=>r
 | _,_,_ + 1,.nil=>.nil
 | _,_,n + 1,.cons _ t=>Jw.drop n t
theorem Jw.none_of:∀ {xs:List V} {us:List Value} {i:Nat},Jw xs us→xs[i]?=none→us[i]?=none:=fun {xs us i} r e=>by
 have h1:=r.length;have h2:xs.length≤i:=List.getElem?_eq_none_iff.mp e;exact List.getElem?_eq_none_iff.mpr (by omega)
def Z2:Option V→Option Value→Prop
 | some v,some u=>JG v u
 | none,none=>True
 | _,_=>False
def KV {κ:Type}:List (κ×V)→List (κ×Value)→Prop:=Paired fun (p:κ×V) (q:κ×Value)=>p.1=q.1∧JG p.2 q.2
def kV:JO→V
 | .inl i=>.int i
 | .inr x=>.str x
inductive HO where
 | lst (xs:List V)
 | tup (xs:List V)
 | dK (kvs:List (JO×V)) | dT (kvs:List (List JO×V))
 | set (S:Int→Bool) (n:Nat)
 | ins (C dx:Addr) (fs:List (Str×V))
 | own (x:Addr)
 | xd (fs:List (Str×V))
 | met (f x:Addr)
 | rng (lo hi:Int)
 | frz (o:Obj) (u:HO)
 | tbl (ps:Array Value)
 | ext (φ:Heap→Prop)
abbrev Hp:=Addr→Option HO
def upd (H:Hp) (a:Addr) (o:HO):Hp:=fun b=>if b=a then some o else H b
theorem Jf {H:Hp} {a:Addr} {o:HO}:upd H a o a=some o:=by unfold upd; rw [if_pos rfl]
theorem Jq {H:Hp} {a b:Addr} {o:HO} (h:b≠a):upd H a o b=H b:=by unfold upd; rw [if_neg h]
theorem Z5 {H:Hp} {a b:Addr} {o u:HO} (h:H a=some o) (h':H b=some u) (d:o≠u):a≠b:=by
 intro e; subst e; rw [h] at h'; exact d (Option.some.inj h')
theorem Jr {H:Hp} {a b:Addr} {o:HO} (h:H a=some o) (h':H b=none):a≠b:=by
 intro e; subst e; rw [h] at h'; cases h'
section
variable (P:Program) (w:World)
def J9 (H:Hp) (h:Heap) (a:Addr):HO→Prop
 | .lst xs=>xs.length≤sizeLine∧∃ (its:List Value) (n:Nat),Jw xs its∧h.get? a=some { cls:=.type "list",data:=.seq its.toArray n }
 | .tup xs=>xs.length≤sizeLine∧∃ its:List Value,Jw xs its∧IsTup h a its.toArray
 | .dK kvs=>kvs.length≤sizeLine∧(a == sysModules)=false∧∃ vs,KV kvs vs∧h.DictOf (J6 P w) a vs
 | .dT kvs=>kvs.length≤sizeLine∧(a == sysModules)=false∧∃ xs:List (List JO×Addr×Value),
   Paired (fun (p:List JO×V) (q:List JO×Addr×Value)=>p.1=q.1∧H q.2.1=some (.tup (p.1.map kV))∧JG p.2 q.2.2) kvs xs ∧
   ∃ o es ep,h.get? a=some o∧o.ExactDict∧o.data=.dict es ep∧es.toList=xs.map (entryOfKey (tupleKind (J6 P w)))∧(xs.map (·.1)).Nodup
 | .set S n=>h.SetOf (intKind P w) a S n
 | .ins C dx fs=>H dx=some (.own a)∧fs.length≤1000∧dx≠a∧h.get? a=some (PySem.W.instObj C dx) ∧
   ∃ mA,h.Ns1 dx mA∧(∀ f,Z2 (fs.lookup f) (mA f))∧PySem.Within mA (fs.map (·.1))
 | .own _=>∃ o,h.get? a=some o
 | .xd fs=>∃ mA,h.Ns1 a mA∧∀ f,Z2 (fs.lookup f) (mA f)
 | .rng lo hi=>∃ t u v,h.get? a=some { cls:=.type "range",data:=.fields #[.int lo t,.int hi u,.int 1 v] }
 | .frz o u=>h.get? a=some o∧J9 H h a u
 | .tbl ps=>h.get? a=some { cls:=.none,data:=.fields ps }
 | .met f x=>h.get? a=some (PySem.W.methodObj (.ref f) (.ref x))
 | .ext φ=>φ h∧(∃ o,h.get? a=some o)∧∀ h1 h2:Heap,φ h1→(∀ o,h1.get? a=some o→h2.get? a=some o)→φ h2
def Zo (H:Hp) (h:Heap):Prop:=∀ a o,H a=some o→J9 P w H h a o
end
section
variable {P:Program} {w:World} {H H':Hp} {h h':Heap} {a:Addr} {o:HO}
theorem J9.lt (x:J9 P w H h a o):a < h.objs.size:=by
 cases o with
 | lst xs=>obtain ⟨_,_,_,_,e⟩:=x; exact Heap.lt_size e
 | tup xs=>obtain ⟨_,_,_,p⟩:=x; exact p.lt
 | dK kvs=>obtain ⟨_,_,_,_,o,_,_,e,_⟩:=x; exact Heap.lt_size e
 | dT kvs=>obtain ⟨_,_,_,_,o,_,_,e,_⟩:=x; exact Heap.lt_size e
 | set S n=>obtain ⟨o,_,_,_,e,_⟩:=x; exact Heap.lt_size e
 | ins C dx fs=>obtain ⟨_,_,_,e,_⟩:=x; exact Heap.lt_size e
 | own y=>obtain ⟨_,e⟩:=x; exact Heap.lt_size e
 | xd fs=>obtain ⟨_,⟨_,_,_,e,_⟩,_⟩:=x; exact Heap.lt_size e
 | rng lo hi=>obtain ⟨_,_,_,e⟩:=x; exact Heap.lt_size e
 | frz ob u=>obtain ⟨e,_⟩:=x; exact Heap.lt_size e
 | tbl ps=>exact Heap.lt_size (show h.get? a=some _ from x)
 | met f y=>exact Heap.lt_size (show h.get? a=some _ from x)
 | ext φ=>obtain ⟨_,⟨_,e⟩,_⟩:=x; exact Heap.lt_size e
theorem Paired.mapP {α β:Type} {F G:α→β→Prop}:∀ {l₁:List α} {l₂:List β},Paired F l₁ l₂→(∀ a b,F a b→G a b)→Paired G l₁ l₂
 | _,_,.nil,_=>.nil
 | _,_,.cons r t,f=>.cons (f _ _ r) (Paired.mapP t f)
theorem J9.stay (x:J9 P w H h a o) (k:∀ b u,(b=a∨H b=some (.own a))→h.get? b=some u→h'.get? b=some u)
  (ho:∀ b,H b=some (.own a)→H' b=some (.own a)) (ht:∀ b xs,H b=some (.tup xs)→H' b=some (.tup xs)):J9 P w H' h' a o:=by
 induction o with
 | lst xs=>obtain ⟨z,its,n,r,e⟩:=x; exact ⟨z,its,n,r,k _ _ (.inl rfl) e⟩
 | tup xs=>obtain ⟨z,its,r,ob,e,c⟩:=x; exact ⟨z,its,r,ob,k _ _ (.inl rfl) e,c⟩
 | dK kvs=>obtain ⟨z,y,vs,r,ob,es,ep,e,c⟩:=x; exact ⟨z,y,vs,r,ob,es,ep,k _ _ (.inl rfl) e,c⟩
 | dT kvs =>
  obtain ⟨z,y,xs,r,ob,es,ep,e,c⟩:=x;exact ⟨z,y,xs,Paired.mapP r fun p q z=>⟨z.1,ht _ _ z.2.1,z.2.2⟩,ob,es,ep,k _ _ (.inl rfl) e,c⟩
 | set S n=>obtain ⟨ob,es,ep,t,e,c⟩:=x; exact ⟨ob,es,ep,t,k _ _ (.inl rfl) e,c⟩
 | ins C dx fs =>
  obtain ⟨d,z,ne,e,mA,⟨od,es,ep,e2,c⟩,r⟩:=x;exact ⟨ho _ d,z,ne,k _ _ (.inl rfl) e,mA,⟨od,es,ep,k _ _ (.inr d) e2,c⟩,r⟩
 | own y=>obtain ⟨ob,e⟩:=x; exact ⟨ob,k _ _ (.inl rfl) e⟩
 | xd fs=>obtain ⟨mA,⟨od,es,ep,e,c⟩,r⟩:=x; exact ⟨mA,⟨od,es,ep,k _ _ (.inl rfl) e,c⟩,r⟩
 | rng lo hi=>obtain ⟨t,u,v,e⟩:=x; exact ⟨t,u,v,k _ _ (.inl rfl) e⟩
 | frz ob u ih=>obtain ⟨e,q⟩:=x; exact ⟨k _ _ (.inl rfl) e,ih q⟩
 | tbl ps =>
  have e:h.get? a=some { cls:=.none,data:=.fields ps }:=x;show h'.get? a=some { cls:=.none,data:=.fields ps };exact k a _ (.inl rfl) e
 | met f y =>
  have e:h.get? a=some (PySem.W.methodObj (.ref f) (.ref y)):=x;show h'.get? a=some (PySem.W.methodObj (.ref f) (.ref y));exact k a _ (.inl rfl) e
 | ext φ=>obtain ⟨p,⟨o,e⟩,st⟩:=x; exact ⟨st _ _ p fun o q=>k _ _ (.inl rfl) q,⟨o,k _ _ (.inl rfl) e⟩,st⟩
theorem Zo.lt (x:Zo P w H h) (e:H a=some o):a < h.objs.size:=(x a o e).lt
theorem Zo.fresh (x:Zo P w H h) (e:h.objs.size≤a):H a=none:=by
 cases q:H a with
 | none=>rfl
 | some u=>exact absurd (Nat.lt_of_lt_of_le (x.lt q) e) (Nat.lt_irrefl _)
theorem Zo.kept (x:Zo P w H h) (k:∀ b u,h.get? b=some u→h'.get? b=some u):Zo P w H h':=fun a o e =>
 (x a o e).stay (fun b u _ q=>k b u q) (fun _ q=>q) fun _ _ q=>q
theorem Zo.laid (x:Zo P w H h) (k:∀ b u,h.get? b=some u→h'.get? b=some u) (hp:h.objs.size≤a) (new:J9 P w (upd H a o) h' a o):Zo P w (upd H a o) h':=fun b u e=>by
 have hn:=x.fresh hp;by_cases hb:b=a
 ·subst hb; rw [Jf] at e; cases e; exact new
 ·rw [Jq hb] at e;exact (x b u e).stay (fun c v _ q=>k c v q) (fun c q=>by rw [Jq (Jr q hn)]; exact q) fun c xs q=>by rw [Jq (Jr q hn)]; exact q
end
def Rd (H:Hp) (a:Addr) (u:HO):Prop:=H a=some u∨∃ o,H a=some (.frz o u)
theorem Rd.of {H:Hp} {a:Addr} {u:HO} (h:H a=some u):Rd H a u:=.inl h
theorem Rd.ok {P:Program} {w:World} {H:Hp} {h:Heap} {a:Addr} {u:HO} (r:Rd H a u) (x:Zo P w H h):J9 P w H h a u:=by
 rcases r with r | ⟨o,r⟩
 ·exact x a u r
 ·obtain ⟨_,q⟩:=x a _ r;exact q
def Mut:Option HO→Prop
 | some (.lst _)=>True
 | some (.dK _)=>True
 | some (.dT _)=>True
 | some (.set _ _)=>True
 | some (.ins _ _ _)=>True
 | some (.ext _)=>True
 | _=>False
section
variable {P:Program} {w:World} {H:Hp} {h h':Heap} {x e:Addr} {o':HO}
theorem Zo.write (ok:Zo P w H h) (mu:Mut (H x)) (he:e=x∨H e=some (.own x)) (k:∀ b u,b≠e→h.get? b=some u→h'.get? b=some u) (heo:∃ u,h'.get? e=some u)
  (new:J9 P w (upd H x o') h' x o'):Zo P w (upd H x o') h':=fun b u q=>by
 have nown:∀ c y,H c=some (.own y)→c≠x:=fun c y r z=>by subst z; rw [r] at mu; exact mu
 have ntup:∀ c xs,H c=some (.tup xs)→c≠x:=fun c xs r z=>by subst z; rw [r] at mu; exact mu
 by_cases hb:b=x
 ·subst hb; rw [Jf] at q; cases q; exact new
 ·rw [Jq hb] at q;by_cases hbe:b=e
  ·have q':H b=some (.own x):=by
    rcases he with z | z
    ·exact absurd (hbe.trans z) hb
    ·rw [hbe]; exact z
   rw [q] at q'; cases q';obtain ⟨v,hv⟩:=heo;exact ⟨v,by rw [hbe]; exact hv⟩
  ·refine (ok b u q).stay (fun c v hc r=>k c v ?_ r) (fun c r=>by rw [Jq (nown c b r)]; exact r) fun c xs r=>by rw [Jq (ntup c xs r)]; exact r
   rcases hc with rfl | hc
   ·exact hbe
   ·rintro rfl;rcases he with z | z
    ·exact nown c b hc z
    ·rw [hc] at z; cases z; exact hb rfl
end
structure Un (fs ex:List Addr) (H H':Hp) (h h':Heap):Prop where
 keep:∀ b o,h.get? b=some o→H b=none→b∉fs→b∉ex→h'.get? b=some o
 slot:∀ b o,h.get? b=some o→H b=none→b∈fs→b∉ex→∃ sl,h'.get? b=some { o with slots:=sl }
 free:∀ b o,h.get? b=some o→H b=none→b∉ex→H' b=none
 there:∀ b o,h.get? b=some o→b∉ex→∃ o',h'.get? b=some o'
 tups:∀ b xs,H b=some (.tup xs)→H' b=some (.tup xs)
 frzs:∀ b o u,H b=some (.frz o u)→H' b=some (.frz o u)
 tbls:∀ b ps,H b=some (.tbl ps)→∃ more,H' b=some (.tbl (ps ++ more))
section
variable {fs fs' ex ex':List Addr} {H H1 H2:Hp} {h h1 h2 h':Heap} {a x e:Addr} {o:HO}
theorem Un.any (u:Un fs ex H H1 h h1) {b:Addr} {ob:Obj} (q:h.get? b=some ob) (n:H b=none) (hx:b∉ex):∃ sl,h1.get? b=some { ob with slots:=sl }:=by
 by_cases hb:b∈fs
 ·exact u.slot b ob q n hb hx
 ·exact ⟨ob.slots,u.keep b ob q n hb hx⟩
theorem Un.trans (a:Un fs ex H H1 h h1) (b:Un fs ex H1 H2 h1 h2):Un fs ex H H2 h h2 where
 keep:=fun c ob q n hc hx=>b.keep c ob (a.keep c ob q n hc hx) (a.free c ob q n hx) hc hx
 slot:=fun c ob q n hc hx=>by
  obtain ⟨sl,e1⟩:=a.slot c ob q n hc hx;obtain ⟨sl',e2⟩:=b.slot c _ e1 (a.free c ob q n hx) hc hx;exact ⟨sl',e2⟩
 free:=fun c ob q n hx=>by
  obtain ⟨o',e1⟩:=a.there c ob q hx;exact b.free c o' e1 (a.free c ob q n hx) hx
 there:=fun c ob q hx=>by
  obtain ⟨o',e1⟩:=a.there c ob q hx;exact b.there c o' e1 hx
 tups:=fun c xs q=>b.tups c xs (a.tups c xs q)
 frzs:=fun c ob xs q=>b.frzs c ob xs (a.frzs c ob xs q)
 tbls:=fun c ps q=>by
  obtain ⟨m1,e1⟩:=a.tbls c ps q;obtain ⟨m2,e2⟩:=b.tbls c _ e1;exact ⟨m1 ++ m2,by rw [e2,Array.append_assoc]⟩
theorem Un.kept (k:∀ b u,h.get? b=some u→h'.get? b=some u):Un fs ex H H h h' :=
 ⟨fun b ob q _ _ _=>k b ob q,fun b ob q _ _ _=>⟨ob.slots,k b ob q⟩,fun _ _ _ n _=>n,fun b ob q _=>⟨ob,k b ob q⟩,fun _ _ q=>q,fun _ _ _ q=>q,fun _ ps q=>⟨#[],by rw [q]; simp⟩⟩
theorem Un.refl:Un fs ex H H h h:=Un.kept fun _ _ q=>q
theorem Un.laid (k:∀ b u,h.get? b=some u→h'.get? b=some u) (hp:h.objs.size≤a) (hn:H a=none):Un fs ex H (upd H a o) h h' where
 keep:=fun b u q _ _ _=>k b u q
 slot:=fun b u q _ _ _=>⟨u.slots,k b u q⟩
 free:=fun b u q n _=>by rw [Jq (Nat.ne_of_lt (Nat.lt_of_lt_of_le (Heap.lt_size q) hp))]; exact n
 there:=fun b u q _=>⟨u,k b u q⟩
 tups:=fun b xs q=>by rw [Jq (Jr q hn)]; exact q
 frzs:=fun b u xs q=>by rw [Jq (Jr q hn)]; exact q
 tbls:=fun b ps q=>⟨#[],by rw [Jq (Jr q hn),q]; simp⟩
theorem Un.write (mu:Mut (H x)) (he:e=x∨H e=some (.own x)) (k:∀ b u,b≠e→h.get? b=some u→h'.get? b=some u) (heo:∃ u,h'.get? e=some u):Un fs ex H (upd H x o) h h':=by
 have hx:∀ b,H b=none→b≠x:=fun b n z=>by subst z; rw [n] at mu; exact mu
 have hb:∀ b,H b=none→b≠e:=fun b n z=>by
  subst z;rcases he with r | r
  ·exact hx b n r
  ·rw [n] at r; cases r
 have hm:∀ b u,H b=some u→¬ Mut (some u)→b≠x:=fun b u q nm z=>by subst z; rw [q] at mu; exact nm mu
 refine ⟨fun b u q n _ _=>k b u (hb b n) q,fun b u q n _ _=>⟨u.slots,k b u (hb b n) q⟩,fun b u q n _=>by rw [Jq (hx b n)]; exact n,fun b u q _=>?_,
  fun b xs q=>by rw [Jq (hm b _ q fun z=>z)]; exact q,fun b u xs q=>by rw [Jq (hm b _ q fun z=>z)]; exact q,fun b ps q=>⟨#[],by rw [Jq (hm b _ q fun z=>z),q]; simp⟩⟩
 by_cases hbe:b=e
 ·subst hbe; exact heo
 ·exact ⟨u,k b u hbe q⟩
theorem Un.mono (u:Un fs ex H H1 h h1) (hs:∀ b∈fs,b∈fs') (hx:∀ b∈ex,b∈ex'):Un fs' ex' H H1 h h1 :=
 ⟨fun b ob q n hb he=>u.keep b ob q n (fun z=>hb (hs b z)) fun z=>he (hx b z),fun _ _ q n _ he=>u.any q n fun z=>he (hx _ z),fun b ob q n he=>u.free b ob q n fun z=>he (hx b z),fun b ob q he=>u.there b ob q fun z=>he (hx b z),u.tups,u.frzs,u.tbls⟩
end
def trk (h:Heap) (H:Hp):List Addr:=(List.range h.objs.size).filter fun a=>(H a).isSome
def JdU (h:Heap) (H:Hp):Heap:=PySem.W.hideAll h (trk h H)
theorem JkW (h:Heap) (H:Hp):(JdU h H).objs.size=h.objs.size:=PySem.W.hideAll_size _ _
theorem Jmj {h:Heap} {H:Hp} {b:Addr} {o:Obj} (e:h.get? b=some o) (n:H b=none):(JdU h H).get? b=some o :=
 PySem.W.hideAll_get _ e fun hm=>by
  have q:(H b).isSome=true:=(List.mem_filter.mp hm).2;rw [n] at q; simp at q
theorem Jni {h:Heap} {H:Hp} {b:Addr} {o:Obj} (e:(JdU h H).get? b=some o):h.get? b=some o∧H b=none:=by
 have e':h.get? b=some o:=PySem.W.of_hideAll (trk h H) e;refine ⟨e',?_⟩;cases q:H b with
 | none=>rfl
 | some x =>
  have hm:b∈trk h H:=List.mem_filter.mpr ⟨List.mem_range.mpr (Heap.lt_size e'),by simp [q]⟩;have z:(JdU h H).get? b=none:=PySem.W.hideAll_none (trk h H) hm;rw [z] at e; cases e
def Jnz (g h:Heap) (L:Addr):List (Addr×Obj):=(List.range h.objs.size).filterMap fun a=>if a=L∨(g.get? a).isSome=true then none else (h.get? a).map fun o=>(a,o)
def rest (g h:Heap) (L d:Addr):List (Addr×Obj):=(Jnz g h L).filter fun p=>decide (p.1≠d)
end L2
namespace L2
open PySem PySem.Spec PyProof.Rows
structure Mod (K:PySem.W.Frag) (mg:Str→Option Value) (base:Heap):Prop where
 kin:K.In base
 glob:base.Ns mainGlobals mg
 blt:∃ mb,base.Ns builtinsNs mb∧∀ x:Str,x ≠ "__name__"→mb x=bootBuiltins x
 nolimit:base.NoLimit
structure Cx where
 prog:Program
 w:World
 K:PySem.W.Frag
 mg:Str→Option Value
 base:Heap
 A:Around
 N:List Str
 s₀:Shared
 H₀:Hp
 env:Env
 outer:List Env
 stack:List Env
 ex:List Addr
 fn:Str→Bool
 calm:Bool
 pn:List (Addr×Obj)
 xe:Value→Shared→Prop
def Zn (l:List Env):List Addr:=l.filterMap (·.frame)
abbrev Cx.fs (X:Cx):List Addr:=Zn X.outer
def Vis (sc:Scope) (x:Str):Prop:=sc.names.lookup x=some .local∨sc.names.lookup x=some .cell∨sc.names.lookup x=some .free
def Loc (sc:Scope) (x:Str):Prop:=sc.names.lookup x=some .local∨sc.names.lookup x=some .cell
def JpF (env:Env) (h:Heap) (m:Str→Option Value) (x:Str) (u:Value):Prop :=
 (env.kindOf x=some .local∧m x=some u)∨((env.kindOf x=some .cell∨env.kindOf x=some .free)∧∃ c,env.cells.lookup x=some c∧h.IsCell c (some u))
structure Cx.Ok (X:Cx):Prop where
 mod:Mod X.K X.mg X.base
 kind:X.env.scope.kind=.function
 glob:X.env.globals=mainGlobals
 blt:X.env.builtins=builtinsNs
 above:X.s₀.heap.objs.size≤X.env.locals
 inj:∀ x y c,X.env.cells.lookup x=some c→X.env.cells.lookup y=some c→x=y
 has:∀ x,(X.env.kindOf x=some .cell∨X.env.kindOf x=some .free)→∃ c,X.env.cells.lookup x=some c
 cab:∀ x c,X.fn x=true→X.env.cells.lookup x=some c→X.s₀.heap.objs.size≤c
 hd:X.calm=true→X.A.handled=none
 frames:X.A.frames=some X.stack
 stk:X.stack=X.outer∨(X.stack=X.env :: X.outer∧X.env.frame=some X.env.locals)
 exf:∀ b∈X.ex,b≠X.env.locals∧∀ x c,X.env.cells.lookup x=some c→c≠b
 bs:∀ b o,X.base.get? b=some o→X.s₀.heap.get? b=some o∧X.H₀ b=none
 bsz:X.base.objs.size≤X.s₀.heap.objs.size
 noex:∀ b o,X.base.get? b=some o→b∉X.ex
 exfs:∀ b∈X.ex,b∉X.fs
 funs:X.s₀.heap.FunFrames X.base X.outer
 frf:∀ b∈X.fs,X.H₀ b=none
structure Jk (X:Cx) (pins:List (Addr×Obj)) (σ:List (Option V)) (H:Hp) (s:Shared):Prop where
 ok:X.Ok
 os:s.os=X.s₀.os
 bare:AllBare s.gens
 base:Un X.fs X.ex X.H₀ H X.s₀.heap s.heap
 loc:∃ m,s.heap.Ns X.env.locals m∧∀ (i:Nat) (x:Str) (v:V),X.N[i]?=some x→σ[i]?=some (some v)→Vis X.env.scope x→∃ u,JG v u∧JpF X.env s.heap m x u
 cell:∀ x c,X.env.cells.lookup x=some c→∃ v,s.heap.IsCell c v
 free:H X.env.locals=none
 freeC:∀ x c,X.env.cells.lookup x=some c→H c=none
 pin:∀ p∈X.pn ++ pins,s.heap.get? p.1=some p.2∧H p.1=none∧p.1≠X.env.locals∧p.1∉X.fs∧∀ v,p.2.data≠.cell v
 hok:Zo X.prog X.w H s.heap
 len:σ.length=X.N.length
section
variable {X:Cx} {pins:List (Addr×Obj)} {σ:List (Option V)} {H H':Hp} {s:Shared} {h':Heap}
theorem Cx.Ok.nofr (ok:X.Ok) {b:Addr} {o:Obj} (e:X.base.get? b=some o):b∉X.fs:=fun hb=>by
 have:=(ok.funs.mem hb).1;rw [e] at this; cases this
theorem Jk.bs (I:Jk X pins σ H s):∀ b o,X.base.get? b=some o→s.heap.get? b=some o∧H b=none:=fun b o e =>
 ⟨I.base.keep b o (I.ok.bs b o e).1 (I.ok.bs b o e).2 (I.ok.nofr e) (I.ok.noex b o e),I.base.free b o (I.ok.bs b o e).1 (I.ok.bs b o e).2 (I.ok.noex b o e)⟩
theorem Jk.bk (I:Jk X pins σ H s):∀ b o,X.base.get? b=some o→s.heap.get? b=some o:=fun b o e=>(I.bs b o e).1
theorem Jk.mod (I:Jk X pins σ H s):Mod X.K X.mg X.base:=I.ok.mod
theorem Jk.kIn (I:Jk X pins σ H s):X.K.In s.heap:=I.ok.mod.kin.keeps I.bk
theorem Jk.nolimit (I:Jk X pins σ H s):s.heap.NoLimit:=I.ok.mod.nolimit.keeps I.bk
theorem Jk.fr (I:Jk X pins σ H s):∃ m,Fr X.base X.env.locals s.heap m :=
 let ⟨m,hn,_⟩:=I.loc
 ⟨m,hn,I.bk,Nat.le_trans I.ok.bsz I.ok.above⟩
theorem Jk.lt (I:Jk X pins σ H s):X.env.locals < s.heap.objs.size:=let ⟨_,hn,_⟩:=I.loc; hn.lt
theorem Jk.sz (I:Jk X pins σ H s):X.s₀.heap.objs.size≤s.heap.objs.size:=Nat.le_trans I.ok.above (Nat.le_of_lt I.lt)
theorem Jk.nofs (I:Jk X pins σ H s) {a:Addr} (h:s.heap.objs.size≤a):a∉X.fs:=fun hb=>by
 obtain ⟨_,o,ho,_⟩:=I.ok.funs.mem hb;exact absurd (Nat.lt_of_lt_of_le (Heap.lt_size ho) (Nat.le_trans I.sz h)) (Nat.lt_irrefl _)
theorem Jk.cne (I:Jk X pins σ H s):∀ x c,X.env.cells.lookup x=some c→c≠X.env.locals:=fun x c e z=>by
 obtain ⟨v,o,ho,hd⟩:=I.cell x c e;obtain ⟨m,⟨o',es,ep,ho',hd',_⟩,_⟩:=I.loc;rw [z,ho'] at ho; cases ho; rw [hd'] at hd; cases hd
theorem Jk.funs (I:Jk X pins σ H s):s.heap.FunFrames X.base X.outer:=by
 have all:∀ (l:List Env),(∀ b∈Zn l,b∈X.fs)→X.s₀.heap.FunFrames X.base l→s.heap.FunFrames X.base l:=by
  intro l
  induction l with
  | nil=>intro _ _; trivial
  | cons env r ih =>
   intro hs hl;obtain ⟨hk,⟨L,o,hf,hn,ho,hd⟩,hr⟩:=hl;have hL:L∈X.fs:=hs L (by unfold Zn; rw [List.filterMap_cons,hf]; exact List.mem_cons_self);obtain ⟨sl,e⟩:=I.base.slot L o ho (I.ok.frf L hL) hL fun z=>I.ok.exfs L z hL
   exact ⟨hk,⟨L,_,hf,hn,e,hd⟩,ih (fun b hb=>hs b (by unfold Zn; rw [List.filterMap_cons,hf]; exact List.mem_cons_of_mem _ hb)) hr⟩
 exact all X.outer (fun _ hb=>hb) I.ok.funs
theorem Jk.stack (I:Jk X pins σ H s):s.heap.FunFrames X.base X.stack:=by
 rcases I.ok.stk with e | ⟨e,hf⟩
 ·rw [e]; exact I.funs
 ·rw [e];obtain ⟨m,hn,_⟩:=I.loc;refine .cons (by rw [I.ok.kind]; decide) hf hn ?_ I.funs;exact Heap.get?_none_of_le (Nat.le_trans I.ok.bsz I.ok.above)
theorem Jk.stkSub (I:Jk X pins σ H s):∀ b∈Zn X.stack,b∈X.env.locals :: X.fs:=fun b hb=>by
 rcases I.ok.stk with e | ⟨e,hf⟩
 ·rw [e] at hb; exact List.mem_cons_of_mem _ hb
 ·rw [e] at hb;unfold Zn at hb;rw [List.filterMap_cons,hf] at hb;exact hb
theorem Jk.stkFree (I:Jk X pins σ H s):∀ b∈Zn X.stack,H b=none:=fun b hb=>by
 rcases List.mem_cons.mp (I.stkSub b hb) with e | hb
 ·rw [e]; exact I.free
 ·obtain ⟨_,o,ho,_⟩:=I.ok.funs.mem hb;exact I.base.free b o ho (I.ok.frf b hb) fun z=>I.ok.exfs b z hb
theorem Jk.step {g':Array GenState} {t':Nat} {d':Drawn} {ch:List Addr} (I:Jk X pins σ H s)
  (hch:∀ b∈ch,(b∈X.ex∨X.s₀.heap.objs.size≤b)∧b≠X.env.locals∧(∀ x c,X.env.cells.lookup x=some c→c≠b)∧∀ p∈X.pn ++ pins,p.1≠b)
  (keep:∀ b o,b≠X.env.locals→b∉X.fs→b∉ch→s.heap.get? b=some o→H b=none→h'.get? b=some o)
  (slot:∀ b o,b≠X.env.locals→b∈X.fs→b∉ch→s.heap.get? b=some o→H b=none→∃ sl,h'.get? b=some { o with slots:=sl }) (free:∀ b o,b∉ch→s.heap.get? b=some o→H b=none→H' b=none)
  (there:∀ b o,b∉ch→s.heap.get? b=some o→∃ o',h'.get? b=some o')
  (tups:∀ b xs,H b=some (.tup xs)→H' b=some (.tup xs)) (frzs:∀ b o u,H b=some (.frz o u)→H' b=some (.frz o u)) (tbls:∀ b ps,H b=some (.tbl ps)→∃ more,H' b=some (.tbl (ps ++ more)))
  (ns:∀ m,s.heap.Ns X.env.locals m→h'.Ns X.env.locals m) (hok:Zo X.prog X.w H' h') (hg:AllBare g') :
  Jk X pins σ H' { s with heap:=h',gens:=g',drawn:=d',toks:=t' }:=by
 have neL:∀ b o,X.s₀.heap.get? b=some o→b≠X.env.locals:=fun b o e=>Nat.ne_of_lt (Nat.lt_of_lt_of_le (Heap.lt_size e) I.ok.above)
 have neC:∀ b o,X.s₀.heap.get? b=some o→b∉X.ex→b∉ch:=fun b o e hx hb=>by
  rcases (hch b hb).1 with z | z
  ·exact hx z
  ·exact absurd (Nat.lt_of_lt_of_le (Heap.lt_size e) z) (Nat.lt_irrefl _)
 have cellK:∀ x c,X.env.cells.lookup x=some c→∀ v,s.heap.IsCell c v→h'.IsCell c v:=fun x c e v ⟨o,ho,hd⟩=>by
  have nch:c∉ch:=fun z=>(hch c z).2.2.1 x c e rfl
  by_cases hc:c∈X.fs
  ·obtain ⟨sl,q⟩:=slot c o (I.cne x c e) hc nch ho (I.freeC x c e);exact ⟨_,q,hd⟩
  ·exact ⟨o,keep c o (I.cne x c e) hc nch ho (I.freeC x c e),hd⟩
 refine ⟨I.ok,I.os,hg,⟨fun b o e n hb hx=>?_,fun b o e n hb hx=>?_,fun b o e n hx=>?_,fun b o e hx=>?_,fun b xs e=>tups b xs (I.base.tups b xs e),fun b o xs e=>frzs b o xs (I.base.frzs b o xs e),fun b ps e=>?_⟩,?_,fun x c e=>?_,?_,fun x c e=>?_,fun p hp=>?_,hok,I.len⟩
 ·exact keep b o (neL b o e) hb (neC b o e hx) (I.base.keep b o e n hb hx) (I.base.free b o e n hx)
 ·obtain ⟨sl,e1⟩:=I.base.slot b o e n hb hx;obtain ⟨sl',e2⟩:=slot b _ (neL b o e) hb (neC b o e hx) e1 (I.base.free b o e n hx);exact ⟨sl',e2⟩
 ·obtain ⟨o',e1⟩:=I.base.there b o e hx;exact free b o' (neC b o e hx) e1 (I.base.free b o e n hx)
 ·obtain ⟨o',e1⟩:=I.base.there b o e hx;exact there b o' (neC b o e hx) e1
 ·obtain ⟨m1,e1⟩:=I.base.tbls b ps e;obtain ⟨m2,e2⟩:=tbls b _ e1;exact ⟨m1 ++ m2,by rw [e2,Array.append_assoc]⟩
 ·obtain ⟨m,hn,hl⟩:=I.loc;refine ⟨m,ns m hn,fun i x v e1 e2 e3=>?_⟩;obtain ⟨u,r,l⟩:=hl i x v e1 e2 e3;refine ⟨u,r,?_⟩;rcases l with l | ⟨k,c,e,z⟩
  ·exact .inl l
  ·exact .inr ⟨k,c,e,cellK x c e _ z⟩
 ·obtain ⟨v,z⟩:=I.cell x c e;exact ⟨v,cellK x c e v z⟩
 ·obtain ⟨m,⟨o,_,_,ho,_⟩,_⟩:=I.loc;exact free _ o (fun z=>(hch _ z).2.1 rfl) ho I.free
 ·obtain ⟨v,o,ho,hd⟩:=I.cell x c e;exact free c o (fun z=>(hch c z).2.2.1 x c e rfl) ho (I.freeC x c e)
 ·obtain ⟨e,n,ne,nf,d⟩:=I.pin p hp;have nch:p.1∉ch:=fun z=>(hch p.1 z).2.2.2 p hp rfl
  exact ⟨keep p.1 p.2 ne nf nch e n,free p.1 p.2 nch e n,ne,nf,d⟩
theorem Jk.un {t':Nat} (I:Jk X pins σ H s) (u:Un X.fs [] H H' s.heap h') (hok:Zo X.prog X.w H' h'):Jk X pins σ H' { s with heap:=h',toks:=t' }:=by
 obtain ⟨m,⟨o,es,ep,ho,r⟩,_⟩:=id I.loc;obtain ⟨sl,hL⟩:=u.any ho I.free (by simp);exact I.step (g':=s.gens) (d':=s.drawn) (ch:=[]) (fun _ z=>nomatch z) (fun b o _ hb _ e n=>u.keep b o e n hb (by simp)) (fun b o _ hb _ e n=>u.slot b o e n hb (by simp)) (fun b o _ e n=>u.free b o e n (by simp)) (fun b o _ e=>u.there b o e (by simp)) u.tups u.frzs u.tbls (fun m' hm=>by
  obtain ⟨o',es',ep',ho',r'⟩:=hm;rw [ho] at ho'; cases ho';exact ⟨_,es',ep',hL,r'⟩) hok I.bare
theorem Jk.call {g':Array GenState} {t':Nat} {d':Drawn} {ch:List Addr} (I:Jk X pins σ H s) (u:Un (Zn X.stack) ch H H' s.heap h') (hok:Zo X.prog X.w H' h') (hg:AllBare g')
  (hch:∀ b∈ch,(b∈X.ex∨X.s₀.heap.objs.size≤b)∧b≠X.env.locals∧(∀ x c,X.env.cells.lookup x=some c→c≠b)∧∀ p∈X.pn ++ pins,p.1≠b) :
  Jk X pins σ H' { s with heap:=h',gens:=g',drawn:=d',toks:=t' }:=by
 obtain ⟨m,⟨o,es,ep,ho,r⟩,_⟩:=id I.loc;obtain ⟨sl,hL⟩:=u.any ho I.free fun z=>(hch _ z).2.1 rfl
 exact I.step (ch:=ch) hch (fun b o hL hb hc e n=>u.keep b o e n (fun z=>(List.mem_cons.mp (I.stkSub b z)).elim hL hb) hc) (fun b o _ _ hc e n=>u.any e n hc) (fun b o hc e n=>u.free b o e n hc) (fun b o hc e=>u.there b o e hc) u.tups u.frzs u.tbls (fun m' hm=>by
  obtain ⟨o',es',ep',ho',r'⟩:=hm;rw [ho] at ho'; cases ho';exact ⟨_,es',ep',hL,r'⟩) hok hg
theorem Jk.turned {t':Nat} {it:Addr} (I:Jk X pins σ H s) (k:∀ b o,b≠it→s.heap.get? b=some o→h'.get? b=some o) (hn:H it=none) (hL:it≠X.env.locals)
  (h1:it∈X.ex∨X.s₀.heap.objs.size≤it) (h2:∀ x c,X.env.cells.lookup x=some c→c≠it) (h3:∀ p∈X.pn ++ pins,p.1≠it):Jk X pins σ H { s with heap:=h',toks:=t' }:=by
 have nit:∀ b u,H b=some u→b≠it:=fun b u e z=>by rw [z,hn] at e; cases e
 refine I.step (g':=s.gens) (d':=s.drawn) (ch:=[it]) (fun b hb=>?_) (fun b o _ _ hc e _=>k b o (fun z=>hc (by simp [z])) e) (fun b o _ _ hc e _=>⟨o.slots,k b o (fun z=>hc (by simp [z])) e⟩) (fun _ _ _ _ n=>n)
  (fun b o hc e=>⟨o,k b o (fun z=>hc (by simp [z])) e⟩) (fun _ _ e=>e) (fun _ _ _ e=>e) (fun b ps e=>⟨#[],by rw [e]; simp⟩) (fun m hm=>?_) (fun b u e=>?_) I.bare
 ·have e:b=it:=by simpa using hb
  subst e;exact ⟨h1,hL,h2,h3⟩
 ·obtain ⟨o,es,ep,ho,r⟩:=hm;exact ⟨o,es,ep,k _ o (Ne.symm hL) ho,r⟩
 ·refine (I.hok b u e).stay (fun c v hc q=>k c v ?_ q) (fun _ q=>q) fun _ _ q=>q
  rcases hc with z | z
  ·rw [z]; exact nit b u e
  ·exact nit c _ z
theorem Jk.tok (I:Jk X pins σ H s) (t:Nat):Jk X pins σ H { s with toks:=t }:=I.un (h':=s.heap) (t':=t) Un.refl I.hok
theorem Jk.kept {t':Nat} (I:Jk X pins σ H s) (k:∀ b u,s.heap.get? b=some u→h'.get? b=some u):Jk X pins σ H { s with heap:=h',toks:=t' }:=I.un (Un.kept k) (I.hok.kept k)
theorem Jk.laid {a:Addr} {o:HO} {t':Nat} (I:Jk X pins σ H s) (k:∀ b u,s.heap.get? b=some u→h'.get? b=some u) (hp:s.heap.objs.size≤a) (new:J9 X.prog X.w (upd H a o) h' a o) :
  Jk X pins σ (upd H a o) { s with heap:=h',toks:=t' }:=I.un (Un.laid k hp (I.hok.fresh hp)) (I.hok.laid k hp new)
theorem Jk.write {x e:Addr} {o:HO} {t':Nat} (I:Jk X pins σ H s) (mu:Mut (H x)) (he:e=x∨H e=some (.own x)) (k:∀ b u,b≠e→s.heap.get? b=some u→h'.get? b=some u) (heo:∃ u,h'.get? e=some u)
  (new:J9 X.prog X.w (upd H x o) h' x o):Jk X pins σ (upd H x o) { s with heap:=h',toks:=t' }:=I.un (Un.write mu he k heo) (I.hok.write mu he k heo new)
theorem Jk.weak {σ':List (Option V)} (I:Jk X pins σ H s) (hl:σ'.length=σ.length) (w:∀ (i:Nat) v,σ'[i]?=some (some v)→σ[i]?=some (some v)):Jk X pins σ' H s :=
 ⟨I.ok,I.os,I.bare,I.base,let ⟨m,hn,hl'⟩:=I.loc; ⟨m,hn,fun i x v e1 e2 e3=>hl' i x v e1 (w i v e2) e3⟩,I.cell,I.free,I.freeC,I.pin,I.hok,hl.trans I.len⟩
theorem Jk.pins_of {pins':List (Addr×Obj)} (I:Jk X pins σ H s) (h:∀ p∈pins',s.heap.get? p.1=some p.2∧H p.1=none∧p.1≠X.env.locals∧p.1∉X.fs∧∀ v,p.2.data≠.cell v):Jk X pins' σ H s :=
 ⟨I.ok,I.os,I.bare,I.base,I.loc,I.cell,I.free,I.freeC,fun p hp=>(List.mem_append.mp hp).elim (fun z=>I.pin p (List.mem_append_left _ z)) (h p),I.hok,I.len⟩
theorem Jig {N:List Str} (hN:N.Nodup) {i j:Nat} {x:Str} (a:N[i]?=some x) (b:N[j]?=some x):i=j:=by
 obtain ⟨h1,e1⟩:=List.getElem?_eq_some_iff.mp a;obtain ⟨h2,e2⟩:=List.getElem?_eq_some_iff.mp b;exact (List.getElem_inj hN).mp (e1.trans e2.symm)
theorem JgY {M:Model} {A:Around} {E:Value→Shared→Prop} {i:Nat} {x:Str} {v:V} {u:Value} {Q:Unit→Shared→Prop} (I:Jk X pins σ H s) (hN:X.N.Nodup) (hi:X.N[i]?=some x) (hx:Loc X.env.scope x) (r:JG v u)
  (h:∀ s',Jk X pins (σ.set i (some v)) H s'→(∃ a,Heap.SameBut a s.heap s'.heap∧(a=X.env.locals∨X.env.cells.lookup x=some a))→Q () s') (hf:X.fn x=true∨X.env.scope.names.lookup x=some .local:=by first | exact .inl rfl | exact .inr rfl | assumption):wpAny M A (storeName X.env x u) Q E s:=by
 obtain ⟨m,hn,hl⟩:=id I.loc;have hcls:(X.env.scope.kind == .class || (X.env.scope.kind == .module && X.env.locals != X.env.globals))=false:=by rw [I.ok.kind]; rfl
 have hiσ:i < σ.length:=by rw [I.len]; exact (List.getElem?_eq_some_iff.mp hi).1
 have cne:=I.cne;have tracked:∀ {a:Addr} {h':Heap},(∃ o,s.heap.get? a=some o∧H a=none)→Heap.SameBut a s.heap h'→Zo X.prog X.w H h':=fun {a h'} ha hs b ob e=>by
  obtain ⟨_,_,hfree⟩:=ha;refine (I.hok b ob e).stay (fun c w' hc q=>(hs.2 c ?_).trans q) (fun _ q=>q) fun _ _ q=>q
  rintro rfl;rcases hc with rfl | hc
  ·rw [hfree] at e; cases e
  ·rw [hfree] at hc; cases hc
 rcases hx with hk | hk
 ·refine wpAny_storeName_local hk hn (fun h' hn' hs=>?_) hcls;obtain ⟨oL,_,_,hoL,_⟩:=id hn;refine h _ ⟨I.ok,I.os,I.bare,⟨fun b o e n hb hx=>?_,fun b o e n hb hx=>?_,I.base.free,fun b o e hx=>?_,I.base.tups,I.base.frzs,I.base.tbls⟩,⟨_,hn',fun j y v' e1 e2 e3=>?_⟩,fun y c e=>?_,I.free,I.freeC,fun p hp=>?_,tracked ⟨oL,hoL,I.free⟩ hs,by simpa using I.len⟩ ⟨_,hs,.inl rfl⟩
  ·exact (hs.2 b (Nat.ne_of_lt (Nat.lt_of_lt_of_le (Heap.lt_size e) I.ok.above))).trans (I.base.keep b o e n hb hx)
  ·obtain ⟨sl,e1⟩:=I.base.slot b o e n hb hx;exact ⟨sl,(hs.2 b (Nat.ne_of_lt (Nat.lt_of_lt_of_le (Heap.lt_size e) I.ok.above))).trans e1⟩
  ·obtain ⟨o',e1⟩:=I.base.there b o e hx;exact ⟨o',(hs.2 b (Nat.ne_of_lt (Nat.lt_of_lt_of_le (Heap.lt_size e) I.ok.above))).trans e1⟩
  ·by_cases hj:j=i
   ·subst hj;rw [hi] at e1; cases e1;rw [List.getElem?_set_self hiσ] at e2;cases e2;exact ⟨u,r,.inl ⟨hk,by simp⟩⟩
   ·rw [List.getElem?_set_ne (Ne.symm hj)] at e2;obtain ⟨u',r',q⟩:=hl j y v' e1 e2 e3;refine ⟨u',r',?_⟩;rcases q with ⟨k,e⟩ | ⟨k,c,e,z⟩
    ·refine .inl ⟨k,?_⟩;have:y≠x:=fun e=>hj (Jig hN e1 (e ▸ hi))
     simp [this,e]
    ·exact .inr ⟨k,c,e,z.sameBut hs (cne y c e)⟩
  ·obtain ⟨w',z⟩:=I.cell y c e;exact ⟨w',z.sameBut hs (cne y c e)⟩
  ·obtain ⟨e,n,ne,nf,d⟩:=I.pin p hp;exact ⟨(hs.2 p.1 ne).trans e,n,ne,nf,d⟩
 ·have hfn:X.fn x=true:=by
   rcases hf with z | z
   ·exact z
   ·rw [z] at hk; cases hk
  obtain ⟨c,hc⟩:=I.ok.has x (.inl hk);obtain ⟨w',z⟩:=I.cell x c hc;refine wpAny_storeName_cell I.ok.kind hk hc z (fun h' hc' hs=>?_);obtain ⟨oc,hoc,hocd⟩:=id z;refine h { s with heap:=h' } ⟨I.ok,I.os,I.bare,⟨fun b o e n hb hx=>?_,fun b o e n hb hx=>?_,I.base.free,fun b o e hx=>?_,I.base.tups,I.base.frzs,I.base.tbls⟩,⟨m,hn.sameBut hs (Ne.symm (cne x c hc)),fun j y v' e1 e2 e3=>?_⟩,fun y c' e=>?_,I.free,I.freeC,fun p hp=>?_,tracked ⟨oc,hoc,I.freeC x c hc⟩ hs,by simpa using I.len⟩ ⟨c,hs,.inr hc⟩
  ·exact (hs.2 b (Nat.ne_of_lt (Nat.lt_of_lt_of_le (Heap.lt_size e) (I.ok.cab x c hfn hc)))).trans (I.base.keep b o e n hb hx)
  ·obtain ⟨sl,e1⟩:=I.base.slot b o e n hb hx;exact ⟨sl,(hs.2 b (Nat.ne_of_lt (Nat.lt_of_lt_of_le (Heap.lt_size e) (I.ok.cab x c hfn hc)))).trans e1⟩
  ·obtain ⟨o',e1⟩:=I.base.there b o e hx;exact ⟨o',(hs.2 b (Nat.ne_of_lt (Nat.lt_of_lt_of_le (Heap.lt_size e) (I.ok.cab x c hfn hc)))).trans e1⟩
  ·by_cases hj:j=i
   ·subst hj;rw [hi] at e1; cases e1;rw [List.getElem?_set_self hiσ] at e2;cases e2;exact ⟨u,r,.inr ⟨.inl hk,c,hc,hc'⟩⟩
   ·rw [List.getElem?_set_ne (Ne.symm hj)] at e2;obtain ⟨u',r',q⟩:=hl j y v' e1 e2 e3;refine ⟨u',r',?_⟩;rcases q with q | ⟨k,c',e,z'⟩
    ·exact .inl q
    ·refine .inr ⟨k,c',e,z'.sameBut hs ?_⟩;rintro rfl;exact hj (Jig hN e1 (I.ok.inj _ _ _ e hc ▸ hi))
  ·by_cases hcc:c'=c
   ·subst hcc; exact ⟨_,hc'⟩
   ·obtain ⟨w2,z2⟩:=I.cell y c' e;exact ⟨w2,z2.sameBut hs hcc⟩
  ·obtain ⟨e,n,ne,nf,d⟩:=I.pin p hp;refine ⟨(hs.2 p.1 ?_).trans e,n,ne,nf,d⟩;intro q;rw [q,hoc] at e;have q':oc=p.2:=Option.some.inj e;exact d w' (by rw [← q']; exact hocd)
theorem JhI {M:Model} {A:Around} {E:Value→Shared→Prop} {i:Nat} {x:Str} {v:V} {u:Value} {Q:Unit→Shared→Prop} (I:Jk X pins σ H s) (hN:X.N.Nodup) (hi:X.N[i]?=some x) (hx:Loc X.env.scope x) (r:JG v u)
  (h:∀ s',Jk X pins (σ.set i (some v)) H s'→Q () s') (hf:X.fn x=true∨X.env.scope.names.lookup x=some .local:=by first | exact .inl rfl | exact .inr rfl | assumption):wpAny M A (storeName X.env x u) Q E s :=
 JgY I hN hi hx r (fun s' I' _=>h s' I') hf
theorem Jk.call' {s':Shared} {ch:List Addr} (I:Jk X pins σ H s) (ho:s'.os=s.os) (u:Un (Zn X.stack) ch H H' s.heap s'.heap) (hok:Zo X.prog X.w H' s'.heap) (hg:AllBare s'.gens)
  (hch:∀ b∈ch,(b∈X.ex∨X.s₀.heap.objs.size≤b)∧b≠X.env.locals∧(∀ x c,X.env.cells.lookup x=some c→c≠b)∧∀ p∈X.pn ++ pins,p.1≠b):Jk X pins σ H' s':=by
 obtain ⟨h',g',d',t',o'⟩:=s';have e:o'=s.os:=ho;subst e;exact I.call (g':=g') (t':=t') (d':=d') u hok hg hch
end
abbrev XK:=Value→Option Addr→Hp→Prop
abbrev St:=List (Option V)
abbrev VK:=V→Hp→Prop
abbrev TE:=St→Hp→VK→Prop
abbrev TT:=St→Hp→(Bool→Hp→Prop)→Prop
abbrev TA:=St→Hp→(List V→Hp→Prop)→Prop
structure Jey where
 nx:St→Hp→Prop
 rt:VK
 bk:St→Hp→Prop:=fun _ _=>False
 ct:St→Hp→Prop:=fun _ _=>False
abbrev TS:=Jey→St→Hp→Prop
def EP (X:Cx) (pins:List (Addr×Obj)) (σ:St) (Q:VK) (u:Value) (s':Shared):Prop:=∃ v H',Jk X pins σ H' s'∧JG v u∧Q v H'
def TP (X:Cx) (pins:List (Addr×Obj)) (σ:St) (Q:Bool→Hp→Prop) (b:Bool) (s':Shared):Prop:=∃ H',Jk X pins σ H' s'∧Q b H'
def AP (X:Cx) (pins:List (Addr×Obj)) (σ:St) (Q:List V→Hp→Prop) (us:List Value) (s':Shared):Prop:=∃ vs H',Jk X pins σ H' s'∧Jw vs us∧Q vs H'
def SP (X:Cx) (pins:List (Addr×Obj)) (D:Jey) (f:Flow) (s':Shared):Prop :=
 match f with
 | .next=>∃ σ' H',Jk X pins σ' H' s'∧D.nx σ' H'
 | .brk=>∃ σ' H',Jk X pins σ' H' s'∧D.bk σ' H'
 | .cont=>∃ σ' H',Jk X pins σ' H' s'∧D.ct σ' H'
 | .ret u=>∃ v σ' H',Jk X pins σ' H' s'∧JG v u∧D.rt v H'
def PE (X:Cx) (e:Expr) (t:TE):Prop :=
 ∀ (pins:List (Addr×Obj)) (s:Shared) (σ:St) (H:Hp) (Q:VK),Jk X pins σ H s→t σ H Q→wpAny (model X.prog X.w) X.A (eval e X.env) (EP X pins σ Q) X.xe s
def PT (X:Cx) (e:Expr) (t:TT):Prop :=
 ∀ (pins:List (Addr×Obj)) (s:Shared) (σ:St) (H:Hp) (Q:Bool→Hp→Prop),Jk X pins σ H s→t σ H Q→wpAny (model X.prog X.w) X.A (isTrue e X.env (eval e X.env)) (TP X pins σ Q) X.xe s
def PW (X:Cx) (e:Expr) (t:TT):Prop :=
 ∀ (whole:Sem Value) (pins:List (Addr×Obj)) (s:Shared) (σ:St) (H:Hp) (Q:Bool→Hp→Prop),Jk X pins σ H s→t σ H Q→wpAny (model X.prog X.w) X.A (isTrue e X.env whole) (TP X pins σ Q) X.xe s
theorem PW.pt {X:Cx} {e:Expr} {t:TT} (h:PW X e t):PT X e t:=h _
def PA (X:Cx) (es:List Expr) (t:TA):Prop :=
 ∀ (pos:Pos) (pins:List (Addr×Obj)) (s:Shared) (σ:St) (H:Hp) (Q:List V→Hp→Prop),Jk X pins σ H s→t σ H Q→wpAny (model X.prog X.w) X.A (spliced (backTo pos (starEach es X.env))) (AP X pins σ Q) X.xe s
def PS (X:Cx) (st:Stmt) (t:TS):Prop :=
 ∀ (pins:List (Addr×Obj)) (s:Shared) (σ:St) (H:Hp) (D:Jey),Jk X pins σ H s→t D σ H→wpAny (model X.prog X.w) X.A (exec st X.env) (SP X pins D) X.xe s
def PSs (X:Cx) (st:List Stmt) (t:TS):Prop :=
 ∀ (pins:List (Addr×Obj)) (s:Shared) (σ:St) (H:Hp) (D:Jey),Jk X pins σ H s→t D σ H→wpAny (model X.prog X.w) X.A (execs st X.env) (SP X pins D) X.xe s
theorem JJ {α:Type} {t:Sem α} {Q Q':α→Shared→Prop} {M:Model} {A:Around} {E:Value→Shared→Prop} {s:Shared} (h:wpAny M A t Q E s) (hQ:∀ a s,Q a s→Q' a s):wpAny M A t Q' E s:=wpAny_mono h hQ fun _ _ x=>x
end L2
namespace L2
open PySem PySem.Spec PyProof.Rows
section
variable {X:Cx}
def Jjs (i:Nat):TE:=fun σ H Q=>∃ v,σ[i]?=some (some v)∧Q v H
def tC (v:V):TE:=fun _ H Q=>Q v H
theorem Jh1 {i:Nat} {x:Str} {pos:Pos} (hN:X.N[i]?=some x) (hv:Vis X.env.scope x) (hd:(x == ("__debug__" : Str))=false:=by decide) (hcd:(x == ("__classdict__" : Str))=false:=by decide):PE X (.Name x pos) (Jjs i):=by
 intro pins s σ H Q I h;obtain ⟨v,e,h⟩:=h;obtain ⟨m,hn,hl⟩:=I.loc;obtain ⟨u,r,l⟩:=hl i x v hN e hv;have fin:EP X pins σ Q u s:=⟨v,H,I,r,h⟩
 rcases l with ⟨hk,hm⟩ | ⟨hk,c,hc,hcell⟩
 ·exact wpAny_Name (wpAny_loadName_local I.ok.kind hk hn hm fin) hd
 ·rcases hk with hk | hk
  ·exact wpAny_Name (wpAny_loadName_cell I.ok.kind hk hc hcell fin) hd
  ·exact wpAny_Name (wpAny_loadName_free I.ok.kind hk hc hcell fin hcd) hd
theorem Jb {i j pos}:PE X (.Constant (.int i) j pos) (tC (.int i)):=fun _ _ _ H _ I h=>wpAny_Constant_int ⟨.int i,H,I.tok _,⟨_,rfl⟩,h⟩
theorem JdQ {b j pos}:PE X (.Constant (.bool b) j pos) (tC (.bl b)):=fun _ _ _ H _ I h=>Constant_bool ⟨.bl b,H,I,rfl,h⟩
theorem JcR {j pos}:PE X (.Constant .none j pos) (tC .non):=fun _ _ _ H _ I h=>Constant_none ⟨.non,H,I,rfl,h⟩
theorem JS {x j pos}:PE X (.Constant (.str x) j pos) (tC (.str x)):=fun _ _ _ H _ I h=>Calls.Constant_str ⟨.str x,H,I.tok _,⟨_,rfl⟩,h⟩
def Gl (X:Cx) (x:Str):Prop:=X.env.kindOf x=some .globalImplicit
theorem JeM {E:Value→Shared→Prop} {pins:List (Addr×Obj)} {s:Shared} {σ:St} {H:Hp} {x:Str} {u:Value} {pos:Pos} {Q:Value→Shared→Prop} (I:Jk X pins σ H s) (hg:Gl X x) (hm:X.mg x=some u) (h:Q u s)
  (hd:(x == ("__debug__" : Str))=false:=by decide):wpAny (model X.prog X.w) X.A (eval (.Name x pos) X.env) Q E s :=
 Calls.Name_function_global I.ok.kind hg (Calls.loadGlobal_global (by rw [I.ok.glob]; exact I.mod.glob.keeps I.bk) hm h) hd
theorem Jei {E:Value→Shared→Prop} {pins:List (Addr×Obj)} {s:Shared} {σ:St} {H:Hp} {x:Str} {u:Value} {pos:Pos} {Q:Value→Shared→Prop} (I:Jk X pins σ H s) (hg:Gl X x) (hm:X.mg x=none) (hv:bootBuiltins x=some u) (h:Q u s)
  (hn:x ≠ "__name__":=by decide) (hd:(x == ("__debug__" : Str))=false:=by decide):wpAny (model X.prog X.w) X.A (eval (.Name x pos) X.env) Q E s:=by
 obtain ⟨mb,h1,h2⟩:=I.mod.blt;exact Calls.Name_function_global I.ok.kind hg (Calls.loadGlobal_builtin (by rw [I.ok.glob]; exact I.mod.glob.keeps I.bk) hm (by rw [I.ok.blt]; exact h1.keeps I.bk) ((h2 x hn).trans hv) h) hd
theorem Jaw {x:Str} {v:V} {u:Value} {pos:Pos} (hg:Gl X x) (hm:X.mg x=some u) (r:JG v u) (hd:(x == ("__debug__" : Str))=false:=by decide):PE X (.Name x pos) (tC v) :=
 fun _ _ _ H _ I h=>JeM I hg hm ⟨v,H,I,r,h⟩ hd
theorem Jnd {x:Str} {v:V} {u:Value} {pos:Pos} (hg:Gl X x) (hm:X.mg x=none) (hv:bootBuiltins x=some u) (r:JG v u) (hn:x ≠ "__name__":=by decide) (hd:(x == ("__debug__" : Str))=false:=by decide):PE X (.Name x pos) (tC v) :=
 fun _ _ _ H _ I h=>Jei I hg hm hv ⟨v,H,I,r,h⟩ hn hd
variable {a b:Expr} {ta tb:TE} {pos:Pos}
def PC (X:Cx) (op:CmpOp) (a b:Expr) (t:TE):Prop :=
 ∀ (pins:List (Addr×Obj)) (s:Shared) (σ:St) (H:Hp) (Q:VK),Jk X pins σ H s→t σ H Q →
  wpAny (model X.prog X.w) X.A (eval a X.env) (fun v s₁=>wpAny (model X.prog X.w) X.A (eval b X.env) (fun u s₂=>wpAny (model X.prog X.w) X.A (compareOp op v u) (EP X pins σ Q) X.xe s₂) X.xe s₁) X.xe s
theorem Zm (b:Expr) {op:CmpOp} (h:op≠.In) (h2:op≠.NotIn):behindInMarks op b=false:=by
 have e1:(op == CmpOp.In)=false:=by cases op <;> first | rfl | exact absurd rfl h
 have e2:(op == CmpOp.NotIn)=false:=by cases op <;> first | rfl | exact absurd rfl h2
 cases b <;> simp [behindInMarks,e1,e2]
def Jpq (ta:TE):TE:=fun σ H Q=>ta σ H fun x H1=>Q (.bl (decide (x=.non))) H1
def JoC (ta:TE):TE:=fun σ H Q=>ta σ H fun x H1=>Q (.bl (!decide (x=.non))) H1
theorem JG.none_iff {x:V} {v:Value} (r:JG x v):(v == Value.none)=decide (x=.non):=by
 cases x with
 | non=>cases r; rfl
 | bl _=>cases r; rfl
 | int _=>obtain ⟨t,rfl⟩:=r; rfl
 | str _=>obtain ⟨t,rfl⟩:=r; rfl
 | byt _=>obtain ⟨t,rfl⟩:=r; rfl
 | flt _=>obtain ⟨t,rfl⟩:=r; rfl
 | ref _=>cases r; rfl
 | ty _=>cases r; rfl
theorem Jh6 {j pos'} (ha:PE X a ta):PC X .Is a (.Constant .none j pos') (Jpq ta):=by
 intro pins s σ H Q I h;refine JJ (ha pins s σ H _ I h) fun v s1 ⟨x,H1,I1,r1,q1⟩=>?_
 exact Constant_none (is_none_gen ⟨.bl _,H1,I1,by rw [r1.none_iff]; rfl,q1⟩)
theorem Jcx {j pos'} (ha:PE X a ta):PC X .IsNot a (.Constant .none j pos') (JoC ta):=by
 intro pins s σ H Q I h;refine JJ (ha pins s σ H _ I h) fun v s1 ⟨x,H1,I1,r1,q1⟩=>?_
 exact Constant_none (isnot_none_gen ⟨.bl _,H1,I1,by rw [r1.none_iff]; rfl,q1⟩)
def tB (t:TE):TT:=fun σ H Q=>t σ H fun x H1=>∃ c,x=.bl c∧Q c H1
theorem Jh4 {op:CmpOp} {t:TE} (h:PC X op a b t) (h1:behindInMarks op b=false:=by first | exact Zm _ (by decide) (by decide) | rfl):PE X (.Compare a [op] [b] pos) t:=fun pins s σ H Q I hw=>wpAny_Compare1 (h pins s σ H Q I hw) h1
theorem Jdx {op:CmpOp} {t:TE} (h:PC X op a b t) (h1:behindInMarks op b=false:=by first | exact Zm _ (by decide) (by decide) | rfl):PT X (.Compare a [op] [b] pos) (tB t):=by
 intro pins s σ H Q I hw;refine wpAny_isTrue_Compare1 (JJ (h pins s σ H _ I hw) fun v s1 h1=>JJ h1 fun u s2 h2=>JJ h2 fun c s3 ⟨x,H1,I1,r1,q1⟩=>?_) h1;obtain ⟨d,rfl,q⟩:=q1;cases r1;exact wpAny_truthy_bool ⟨H1,I1,q⟩
theorem JbU {e:Expr} {t:TE} (h:PE X e t) (he:∀ whole,isTrue e X.env whole=(do let v ← whole; standAt e.pos; holding [v] (truthy v)):=by intro _; rfl):PT X e (tB t):=by
 intro pins s σ H Q I hw;refine isTrue_plain (JJ (h pins s σ H _ I hw) fun v s1 ⟨x,H1,I1,r1,q1⟩=>?_) (he _);obtain ⟨d,rfl,q⟩:=q1;cases r1;exact wpAny_truthy_bool ⟨H1,I1,q⟩
variable {tA tB':TT} {rest:List Expr}
def Jpu (t u:TT):TT:=fun σ H Q=>t σ H fun c H1=>if c=true then u σ H1 Q else Q false H1
def tOr (t u:TT):TT:=fun σ H Q=>t σ H fun c H1=>if c=true then Q true H1 else u σ H1 Q
def Jpm (t:TT):TT:=fun σ H Q=>t σ H fun c H1=>Q (!c) H1
theorem Ji0 (ha:PT X a tA):PW X (.BoolOp .And [a] pos) tA:=by
 intro wh pins s σ H Q I h;refine isTrue_and (JJ (ha pins s σ H Q I h) fun c s1 e=>?_);cases c with
 | true=>exact isTrue_and_nil e
 | false=>exact e
theorem Ja4 (ha:PT X a tA):PW X (.BoolOp .Or [a] pos) tA:=by
 intro wh pins s σ H Q I h;refine isTrue_or (JJ (ha pins s σ H Q I h) fun c s1 e=>?_);cases c with
 | false=>exact isTrue_or_nil e
 | true=>exact e
theorem Jkv (ha:PT X a tA) (hb:PW X (.BoolOp .And (b :: rest) pos) tB'):PW X (.BoolOp .And (a :: b :: rest) pos) (Jpu tA tB'):=by
 intro wh pins s σ H Q I h;refine isTrue_and (JJ (ha pins s σ H _ I h) fun c s1 ⟨H1,I1,q1⟩=>?_);cases c with
 | true=>exact hb wh pins s1 σ H1 Q I1 q1
 | false=>exact ⟨H1,I1,q1⟩
theorem JbM (ha:PT X a tA) (hb:PW X (.BoolOp .Or (b :: rest) pos) tB'):PW X (.BoolOp .Or (a :: b :: rest) pos) (tOr tA tB'):=by
 intro wh pins s σ H Q I h;refine isTrue_or (JJ (ha pins s σ H _ I h) fun c s1 ⟨H1,I1,q1⟩=>?_);cases c with
 | true=>exact ⟨H1,I1,q1⟩
 | false=>exact hb wh pins s1 σ H1 Q I1 q1
theorem Jd8 (ha:PT X a tA):PT X (.UnaryOp .Not a pos) (Jpm tA):=by
 intro pins s σ H Q I h;exact isTrue_not (ha pins s σ H (fun c H1=>Q (!c) H1) I h)
def JoJ (ta tb:TE):TE:=fun σ H Q=>ta σ H fun x H1=>∃ c,x=.bl c∧if c=true then tb σ H1 Q else Q (.bl false) H1
def JoB (ta:TE):TE:=fun σ H Q=>ta σ H fun x H1=>∃ c,x=.bl c∧Q (.bl (!c)) H1
theorem Jh3 {op} {t:TE} (h:PE X a t):PE X (.BoolOp op [a] pos) t:=fun pins s σ H Q I hw=>BoolOp_one (h pins s σ H Q I hw)
theorem Jh5 (ha:PE X a ta) (hb:PE X (.BoolOp .And (b :: rest) pos) tb):PE X (.BoolOp .And (a :: b :: rest) pos) (JoJ ta tb):=by
 intro pins s σ H Q I h;refine BoolOp_and (JJ (ha pins s σ H _ I h) fun v s1 ⟨x,H1,I1,r1,q1⟩=>?_);obtain ⟨c,rfl,q1⟩:=q1;cases r1;refine wpAny_truthy_bool ?_;cases c with
 | true=>exact hb pins s1 σ H1 Q I1 q1
 | false=>exact ⟨.bl false,H1,I1,rfl,q1⟩
theorem Jn4 (ha:PE X a ta):PE X (.UnaryOp .Not a pos) (JoB ta):=by
 intro pins s σ H Q I h;refine UnaryOp_ (JJ (ha pins s σ H _ I h) fun v s1 ⟨x,H1,I1,r1,q1⟩=>?_);obtain ⟨c,rfl,q1⟩:=q1;cases r1;exact not_of (wpAny_truthy_bool ⟨.bl (!c),H1,I1,rfl,q1⟩)
def tIf (t:TT) (ta tb:TE):TE:=fun σ H Q=>t σ H fun c H1=>if c=true then ta σ H1 Q else tb σ H1 Q
theorem JcS {c:Expr} (hc:PT X c tA) (ha:PE X a ta) (hb:PE X b tb):PE X (.IfExp c a b pos) (tIf tA ta tb):=by
 intro pins s σ H Q I h;refine wpAny_IfExp (JJ (hc pins s σ H _ I h) fun d s1 ⟨H1,I1,q1⟩=>?_);cases d with
 | true=>exact ha pins s1 σ H1 Q I1 q1
 | false=>exact hb pins s1 σ H1 Q I1 q1
end
end L2
namespace L2
open PySem PySem.Spec PyProof.Rows
def Jo (K:PySem.W.Frag) (H:Hp) (a:Addr) (xs:List V):Prop :=
 Rd H a (.lst xs) ∨
  ∃ (o:Obj) (its:Array Value) (n:Nat),K.lookup a=some o∧o.cls=.type "list"∧o.dict=none∧o.data=.seq its n∧its.size≤sizeLine∧Jw xs its.toList
def JT (K:PySem.W.Frag) (H:Hp) (a:Addr) (xs:List V):Prop :=
 Rd H a (.tup xs) ∨
  ∃ (o:Obj) (its:Array Value) (n:Nat),K.lookup a=some o∧o.cls=.type "tuple"∧o.data=.seq its n∧its.size≤sizeLine∧Jw xs its.toList
def JpE:Value→Option V
 | .none=>some .non
 | .bool b=>some (.bl b)
 | .int i _=>some (.int i)
 | .str x _=>some (.str x)
 | .bytes b _=>some (.byt b)
 | .float b _=>some (.flt b)
 | .ref a=>some (.ref a)
 | .type n=>some (.ty n)
 | _=>none
theorem JG.abs {x:V} {u:Value} (r:JG x u):JpE u=some x:=by
 cases x with
 | non=>cases r; rfl
 | bl _=>cases r; rfl
 | int _=>obtain ⟨t,rfl⟩:=r; rfl
 | str _=>obtain ⟨t,rfl⟩:=r; rfl
 | byt _=>obtain ⟨t,rfl⟩:=r; rfl
 | flt _=>obtain ⟨t,rfl⟩:=r; rfl
 | ref _=>cases r; rfl
 | ty _=>cases r; rfl
theorem JG.inj {x y:V} {u:Value} (r:JG x u) (q:JG y u):x=y:=Option.some.inj (r.abs.symm.trans q.abs)
theorem Jw.inj:∀ {xs ys:List V} {us:List Value},Jw xs us→Jw ys us→xs=ys
 | _,_,_,.nil,.nil=>rfl
 | _,_,_,.cons r t,.cons r' t'=>by rw [r.inj r',Jw.inj t t']
section
variable {X:Cx} {pins:List (Addr×Obj)} {σ:St} {H:Hp} {s:Shared} {a:Addr} {xs ys:List V}
theorem Jo.of {K:PySem.W.Frag} (h:H a=some (.lst xs)):Jo K H a xs:=.inl (.inl h)
theorem JT.of {K:PySem.W.Frag} (h:H a=some (.tup xs)):JT K H a xs:=.inl (.inl h)
theorem Jk.list (I:Jk X pins σ H s) (h:Jo X.K H a xs):∃ its:List Value,Jw xs its∧PlainL s.heap a its.toArray∧xs.length≤sizeLine:=by
 rcases h with h | ⟨o,its,n,hk,hc,hd,hs,hz,r⟩
 ·obtain ⟨z,its,n,r,e⟩:=h.ok I.hok;exact ⟨its,r,⟨_,n,e,rfl,rfl,rfl⟩,z⟩
 ·refine ⟨its.toList,r,⟨o,n,I.kIn a o hk,hc,hd,by simpa using hs⟩,?_⟩;have e:=r.length;simp only [Array.length_toList] at e;omega
theorem Jk.tuple (I:Jk X pins σ H s) (h:JT X.K H a xs):∃ its:List Value,Jw xs its∧IsTup s.heap a its.toArray∧xs.length≤sizeLine:=by
 rcases h with h | ⟨o,its,n,hk,hc,hs,hz,r⟩
 ·obtain ⟨z,its,r,p⟩:=h.ok I.hok;exact ⟨its,r,p,z⟩
 ·refine ⟨its.toList,r,⟨o,I.kIn a o hk,hc,n,by simpa using hs⟩,?_⟩;have e:=r.length;simp only [Array.length_toList] at e;omega
theorem Jk.list_inj (I:Jk X pins σ H s) (h:Jo X.K H a xs) (h':Jo X.K H a ys):xs=ys:=by
 obtain ⟨its,r,⟨o,n,e,_,_,d⟩,_⟩:=I.list h;obtain ⟨its',r',⟨o',n',e',_,_,d'⟩,_⟩:=I.list h';rw [e] at e'; cases e';rw [d] at d';injection d' with d1 _;have:its=its':=by simpa using congrArg Array.toList d1
 subst this;exact r.inj r'
theorem Jk.tuple_inj (I:Jk X pins σ H s) (h:JT X.K H a xs) (h':JT X.K H a ys):xs=ys:=by
 obtain ⟨its,r,⟨o,e,_,n,d⟩,_⟩:=I.tuple h;obtain ⟨its',r',⟨o',e',_,n',d'⟩,_⟩:=I.tuple h';rw [e] at e'; cases e';rw [d] at d';injection d' with d1 _;have:its=its':=by simpa using congrArg Array.toList d1
 subst this;exact r.inj r'
end
abbrev Cx.wish (X:Cx) (E:Value→Shared→Prop):Cx:={ X with xe:=E }
abbrev Cx.nox (X:Cx):Cx:=X.wish fun _ _=>False
theorem Cx.Ok.wish {X:Cx} (ok:X.Ok) (E:Value→Shared→Prop):(X.wish E).Ok :=
 ⟨ok.mod,ok.kind,ok.glob,ok.blt,ok.above,ok.inj,ok.has,ok.cab,ok.hd,ok.frames,ok.stk,ok.exf,ok.bs,ok.bsz,ok.noex,ok.exfs,ok.funs,ok.frf⟩
theorem Cx.Ok.unwish {X:Cx} {E:Value→Shared→Prop} (ok:(X.wish E).Ok):X.Ok :=
 ⟨ok.mod,ok.kind,ok.glob,ok.blt,ok.above,ok.inj,ok.has,ok.cab,ok.hd,ok.frames,ok.stk,ok.exf,ok.bs,ok.bsz,ok.noex,ok.exfs,ok.funs,ok.frf⟩
section
variable {X:Cx} {pins:List (Addr×Obj)} {σ:St} {H:Hp} {s:Shared} {E:Value→Shared→Prop}
theorem Jk.wish (I:Jk X pins σ H s) (E:Value→Shared→Prop):Jk (X.wish E) pins σ H s:=⟨I.ok.wish E,I.os,I.bare,I.base,I.loc,I.cell,I.free,I.freeC,I.pin,I.hok,I.len⟩
theorem Jk.unwish (I:Jk (X.wish E) pins σ H s):Jk X pins σ H s:=⟨I.ok.unwish,I.os,I.bare,I.base,I.loc,I.cell,I.free,I.freeC,I.pin,I.hok,I.len⟩
theorem SP.unwish {D:Jey} {f:Flow} {s':Shared} (h:SP (X.wish E) pins D f s'):SP X pins D f s':=by
 cases f with
 | next=>obtain ⟨σ',H',I,q⟩:=h; exact ⟨σ',H',I.unwish,q⟩
 | brk=>obtain ⟨σ',H',I,q⟩:=h; exact ⟨σ',H',I.unwish,q⟩
 | cont=>obtain ⟨σ',H',I,q⟩:=h; exact ⟨σ',H',I.unwish,q⟩
 | ret u=>obtain ⟨v,σ',H',I,r,q⟩:=h; exact ⟨v,σ',H',I.unwish,r,q⟩
theorem PE.nox {e:Expr} {t:TE} (h:PE X.nox e t):PE X e t:=fun pins s σ H Q I hw =>
 wpAny_mono (h pins s σ H Q (I.wish _) hw) (fun _ _ ⟨v,H',I',r,q⟩=>⟨v,H',I'.unwish,r,q⟩) fun _ _ z=>False.elim z
theorem PT.nox {e:Expr} {t:TT} (h:PT X.nox e t):PT X e t:=fun pins s σ H Q I hw =>
 wpAny_mono (h pins s σ H Q (I.wish _) hw) (fun _ _ ⟨H',I',q⟩=>⟨H',I'.unwish,q⟩) fun _ _ z=>False.elim z
theorem PSs.nox {st:List Stmt} {t:TS} (h:PSs X.nox st t):PSs X st t:=fun pins s σ H D I hw =>
 wpAny_mono (h pins s σ H D (I.wish _) hw) (fun _ _ q=>q.unwish) fun _ _ z=>False.elim z
end
section
variable {X:Cx} {st:Stmt} {rest:List Stmt} {t u:TS} {e:Expr} {te:TE} {pos:Pos}
def JoD:TS:=fun D σ H=>D.nx σ H
def Jpk (t u:TS):TS:=fun D σ H=>@Jey.rec (fun _=>Prop) (fun nx rt bk ct=>t ⟨u ⟨nx,rt,bk,ct⟩,rt,bk,ct⟩ σ H) D
theorem Jy:PSs X [] JoD:=fun _ _ σ H _ I h=>wpAny_execs_nil ⟨σ,H,I,h⟩
theorem Jd (h1:PS X st t) (h2:PSs X rest u):PSs X (st :: rest) (Jpk t u):=by
 intro pins s σ H D I h;refine wpAny_execs_cons (JJ (h1 pins s σ H { D with nx:=u D } I h) fun f s1 q=>?_);cases f with
 | next =>
  obtain ⟨σ',H',I',q⟩:=q;exact h2 pins s1 σ' H' D I' q
 | ret v=>exact q
 | brk=>exact q
 | cont=>exact q
theorem Jh (h1:PS X st t):PSs X [st] t:=by
 intro pins s σ H D I h;refine wpAny_execs_cons (JJ (h1 pins s σ H D I h) fun f s1 q=>?_);cases f with
 | next=>exact wpAny_execs_nil q
 | ret v=>exact q
 | brk=>exact q
 | cont=>exact q
def JnJ:TS:=fun D σ H=>D.bk σ H
theorem Jl0:PS X (.Break pos) JnJ:=fun _ _ σ H _ I h=>wpAny_Break ⟨σ,H,I,h⟩
theorem Jk.quiet {pins:List (Addr×Obj)} {σ:St} {H:Hp} {s:Shared} (I:Jk X pins σ H s):interactive X.env=false:=by simp [interactive,I.ok.kind]
def JoG (te:TE):TS:=fun D σ H=>te σ H fun _ H1=>D.nx σ H1
theorem JH (he:PE X e te) (hs:swapsWith e none pos.line X.env=pure false:=by rfl):PS X (.Expr e pos) (JoG te):=by
 intro pins s σ H D I h;exact wpAny_Expr_any (JJ (he pins s σ H _ I h) fun v s1 ⟨x,H1,I1,r1,q1⟩=>⟨σ,H1,I1,q1⟩) I.quiet hs
def Jpl (te:TE):TS:=fun D σ H=>te σ H D.rt
theorem Ju (he:PE X e te):PS X (.Return (some e) pos) (Jpl te):=by
 intro pins s σ H D I h;exact wpAny_Return_some (JJ (he pins s σ H _ I h) fun v s1 ⟨x,H1,I1,r1,q1⟩=>⟨x,σ,H1,I1,r1,q1⟩)
def Jpr (c:TT) (t u:TS):TS:=fun D σ H=>c σ H fun b H1=>if b=true then t D σ H1 else u D σ H1
theorem JN {c:Expr} {a b:List Stmt} {tc:TT} (hc:PT X c tc) (ha:PSs X a t) (hb:PSs X b u):PS X (.If c a b pos) (Jpr tc t u):=by
 intro pins s σ H D I h;refine wpAny_If (JJ (hc pins s σ H _ I h) fun d s1 ⟨H1,I1,q1⟩=>?_);cases d with
 | true=>exact ha pins s1 σ H1 D I1 q1
 | false=>exact hb pins s1 σ H1 D I1 q1
def JnE:TS:=fun _ _ _=>False
theorem JdO:PS X st JnE:=fun _ _ _ _ _ _ h=>h.elim
end
abbrev TG:=V→St→Hp→(St→Hp→Prop)→Prop
abbrev TGs:=List V→St→Hp→(St→Hp→Prop)→Prop
def PG (X:Cx) (target:Expr) (t:TG):Prop :=
 ∀ (pins:List (Addr×Obj)) (s:Shared) (σ:St) (H:Hp) (v:V) (u:Value) (Q:St→Hp→Prop),Jk X pins σ H s→JG v u→t v σ H Q →
  wpAny (model X.prog X.w) X.A (assign target X.env u) (fun _ s'=>∃ σ' H',Jk X pins σ' H' s'∧Q σ' H') X.xe s
def PGs (X:Cx) (ts:List Expr) (t:TGs):Prop :=
 ∀ (pins:List (Addr×Obj)) (s:Shared) (σ:St) (H:Hp) (vs:List V) (us:List Value) (Q:St→Hp→Prop),Jk X pins σ H s→Jw vs us→t vs σ H Q →
  wpAny (model X.prog X.w) X.A (assignInOrder ((assignEach ts X.env).map (·.2)) us) (fun _ s'=>∃ σ' H',Jk X pins σ' H' s'∧Q σ' H') X.xe s
abbrev Jmz:=V→V→V→Hp→(Hp→Prop)→Prop
def Jou (X:Cx) (t:Jmz):Prop :=
 ∀ (pins:List (Addr×Obj)) (s:Shared) (σ:St) (H:Hp) (o i v:V) (ov iv u:Value) (Q:Hp→Prop),Jk X pins σ H s→JG o ov→JG i iv→JG v u→t o i v H Q →
  wpAny (model X.prog X.w) X.A (setItem ov iv u) (fun _ s'=>∃ H',Jk X pins σ H' s'∧Q H') X.xe s
section
variable {X:Cx} {pos:Pos}
def Z7 (i:Nat):TG:=fun v σ H Q=>Q (σ.set i (some v)) H
theorem J8 {i:Nat} {x:Str} (hN:X.N.Nodup) (hi:X.N[i]?=some x) (hx:Loc X.env.scope x) (hf:X.fn x=true∨X.env.scope.names.lookup x=some .local:=by first | exact .inl rfl | exact .inr rfl | assumption):PG X (.Name x pos) (Z7 i):=by
 intro pins s σ H v u Q I r h;exact wpAny_assign_Name (JhI I hN hi hx r (fun s' I'=>⟨_,H,I',h⟩) hf)
def Jok:TGs:=fun vs σ H Q=>vs=[]∧Q σ H
def JjV (t:TG) (u:TGs):TGs:=fun vs σ H Q=>∃ v r,vs=v :: r∧t v σ H fun σ' H'=>u r σ' H' Q
theorem Jgr:PGs X [] Jok:=by
 intro pins s σ H vs us Q I r h;obtain ⟨e,h⟩:=h;subst e;cases r;exact assignInOrder_nil ⟨σ,H,I,h⟩
theorem Jbt {e:Expr} {es:List Expr} {t:TG} {u:TGs} (h1:PG X e t) (h2:PGs X es u)
  (hs:(assignEach (e :: es) X.env).map (·.2)=assign e X.env :: (assignEach es X.env).map (·.2):=by rfl):PGs X (e :: es) (JjV t u):=by
 intro pins s σ H vs us Q I r h;obtain ⟨v,vr,e1,h⟩:=h;subst e1;cases r with
 | cons r rr =>
  rw [hs];refine assignInOrder_cons (JJ (h1 pins s σ H _ _ _ I r h) fun _ s1 ⟨σ1,H1,I1,q1⟩=>?_);exact h2 pins s1 σ1 H1 _ _ Q I1 rr q1
def Jiq (K:PySem.W.Frag) (n:Nat) (t:TGs):TG:=fun v σ H Q=>∃ a xs,v=.ref a∧JT K H a xs∧xs.length=n∧t xs σ H Q
theorem Jh0 {es:List Expr} {k:Nat} {t:TGs} {n:Nat} (hc:X.calm=true) (h:PGs X es t)
  (hn:(assignEach es X.env).length=n:=by rfl) (hst:(assignEach es X.env).findIdx? (·.1)=none:=by rfl):PG X (.Tuple es k pos) (Jiq X.K n t):=by
 intro pins s σ H v u Q I r hw;obtain ⟨a,xs,e1,hq,hl,hw⟩:=hw;subst e1;cases r;obtain ⟨its,rv,ht,hz⟩:=I.tuple hq;refine assign_Tuple_tuple (I.ok.hd hc) ht (by simp [hn,← hl,rv.length]) hst fun h' hx=>?_
 have I1:Jk X pins σ H { s with heap:=h' }:=I.kept (t':=s.toks) fun b o e=>hx b o (Nat.ne_of_lt (Heap.lt_size e)) e
 exact h pins _ σ H xs _ Q I1 (by simpa using rv) hw
def JpD (to ti:TE) (t:Jmz):TG:=fun v σ H Q=>to σ H fun o H1=>ti σ H1 fun i H2=>t o i v H2 fun H3=>Q σ H3
theorem Jn3 {o i:Expr} {to ti:TE} {t:Jmz} (ho:PE X o to) (hi:PE X i ti) (hs:Jou X t)
  (ha:∀ v,assign (.Subscript o i pos) X.env v=(do
   let ov ← holding [v] (eval o X.env);let iv ← holding [v,ov] (eval i X.env)
   standAt pos
   holding [v,ov,iv] (setItem ov iv v)
   release [v,ov,iv] []):=by intro _; rfl):PG X (.Subscript o i pos) (JpD to ti t):=by
 intro pins s σ H v u Q I r h;rw [ha];refine wpAny_bind (wpAny_holding (JJ (ho pins s σ H _ I h) fun ov s1 ⟨x,H1,I1,r1,q1⟩=>?_));refine wpAny_bind (wpAny_holding (JJ (hi pins s1 σ H1 _ I1 q1) fun iv s2 ⟨y,H2,I2,r2,q2⟩=>?_));refine wpAny_bind (wpAny_standAt (wpAny_bind (wpAny_holding (JJ (hs pins s2 σ H2 x y v ov iv u _ I2 r1 r2 r q2) fun _ s3 ⟨H3,I3,q3⟩=>?_))));exact wpAny_release ⟨σ,H3,I3,q3⟩
def Jls (te:TE) (g:TG):TS:=fun D σ H=>te σ H fun x H1=>g x σ H1 D.nx
theorem Jn1 {tg e:Expr} {te:TE} {g:TG} (he:PE X e te) (hg:PG X tg g) (hs:swapsWithSole [tg] e pos.line X.env=pure false:=by rfl) (hw:swappedStores [tg] e X.env=pure none:=by rfl)
  (h1:(assignEach [tg] X.env).map (·.2)=[assign tg X.env]:=by rfl):PS X (.Assign [tg] e pos) (Jls te g):=by
 intro pins s σ H D I h;refine wpAny_Assign_stores (JJ (he pins s σ H _ I h) fun v s1 ⟨x,H1,I1,r1,q1⟩=>?_) hs hw;rw [h1];exact JJ (hg pins s1 σ H1 x v _ I1 r1 q1) fun _ s2 q=>q
theorem Jt {i:Nat} {x:Str} {e:Expr} {te:TE} {pos':Pos} (hN:X.N.Nodup) (hi:X.N[i]?=some x) (hx:Loc X.env.scope x) (he:PE X e te) (hs:swapsWith e (some (.Name x pos')) pos.line X.env=pure false:=by rfl) (hf:X.fn x=true∨X.env.scope.names.lookup x=some .local:=by first | exact .inl rfl | exact .inr rfl | assumption) :
  PS X (.Assign [.Name x pos'] e pos) (Jls te (Z7 i)):=by
 intro pins s σ H D I h;refine wpAny_Assign_Name (JJ (he pins s σ H _ I h) fun v s1 ⟨y,H1,I1,r1,q1⟩=>?_) hs;exact JhI I1 hN hi hx r1 (fun s2 I2=>⟨_,H1,I2,q1⟩) hf
end
structure It where
 go:Nat→Hp→Prop
 yld:Nat→Hp→V→Hp→Prop
 stop:Nat→Hp→Prop
def Jc7 (X:Cx) (pins:List (Addr×Obj)) (H:Hp) (b:Addr):Prop :=
 H b=none∧b≠X.env.locals∧b∉X.fs∧(b∈X.ex∨X.s₀.heap.objs.size≤b)∧(∀ x c,X.env.cells.lookup x=some c→c≠b)∧∀ p∈X.pn ++ pins,p.1≠b
theorem Jk.fpOk {X:Cx} {pins:List (Addr×Obj)} {σ:St} {H H':Hp} {s:Shared} {b:Addr} (I:Jk X pins σ H s) (hb:s.heap.objs.size≤b) (hn:H' b=none):Jc7 X pins H' b:=by
 refine ⟨hn,Nat.ne_of_gt (Nat.lt_of_lt_of_le I.lt hb),I.nofs hb,.inr (Nat.le_trans I.sz hb),fun x c e z=>?_,fun p hp z=>?_⟩
 ·obtain ⟨v,q⟩:=I.cell x c e;exact absurd (Nat.lt_of_lt_of_le q.lt (by rw [z]; exact hb)) (Nat.lt_irrefl _)
 ·exact absurd (Nat.lt_of_lt_of_le (Heap.lt_size (I.pin p hp).1) (by rw [z]; exact hb)) (Nat.lt_irrefl _)
structure JgM (P:Program) (w:World) (K:PySem.W.Frag) (tg:Expr) (J:It) (fp:List Addr) (it:Addr) (tn:Nat→Heap→Prop):Prop where
 mem:it∈fp
 obj:∀ i h,tn i h→∀ b∈fp,∃ o,h.get? b=some o∧∀ v,o.data≠.cell v
 keep:∀ i h h',tn i h→(∀ b∈fp,∀ o,h.get? b=some o→h'.get? b=some o)→tn i h'
 item:∀ (X:Cx),X.prog=P→X.w=w→X.K=K→X.calm=true→∀ (i:Nat) (pins:List (Addr×Obj)) (s:Shared) (σ:St) (H:Hp) (E:Value→Shared→Prop),Jk X pins σ H s→(∀ b∈fp,Jc7 X pins H b)→tn i s.heap→J.go i H →
  wpAny (model P w) X.A (pyNext (.ref it)) (fun r s1=>∃ u,r=some u ∧
   wpAny (model P w) X.A (letOwnedTupleGo tg (.ref it) u) (fun _ s2=>∃ x H',Jk X pins σ H' s2∧JG x u∧J.yld i H x H'∧tn (i + 1) s2.heap∧∀ b∈fp,H' b=none) E s1) E s
 done:∀ (X:Cx),X.prog=P→X.w=w→X.K=K→X.calm=true→∀ (i:Nat) (pins:List (Addr×Obj)) (s:Shared) (σ:St) (H:Hp) (E:Value→Shared→Prop),Jk X pins σ H s→(∀ b∈fp,Jc7 X pins H b)→tn i s.heap→J.stop i H →
  wpAny (model P w) X.A (pyNext (.ref it)) (fun r s1=>r=none∧Jk X pins σ H s1) E s
 self:∀ (A:Around) (i:Nat) (s:Shared) (Q:Value→Shared→Prop) (E:Value→Shared→Prop),tn i s.heap→Q (.ref it) s→wpAny (model P w) A (pyIter (.ref it)) Q E s
abbrev TI:=St→Hp→(It→Hp→Prop)→Prop
def PIE (X:Cx) (pins:List (Addr×Obj)) (σ:St) (tg:Expr) (R:It→Hp→Prop) (itv:Value) (s2:Shared):Prop :=
 ∃ (it:Addr) (fp:List Addr) (tn:Nat→Heap→Prop) (J:It) (H':Hp),itv=.ref it∧Jk X pins σ H' s2∧JgM X.prog X.w X.K tg J fp it tn∧tn 0 s2.heap∧(∀ b∈fp,Jc7 X pins H' b)∧R J H'
def PI (X:Cx) (tg iter:Expr) (wi:TI):Prop :=
 ∀ (pins:List (Addr×Obj)) (s:Shared) (σ:St) (H:Hp) (R:It→Hp→Prop),Jk X pins σ H s→wi σ H R →
  wpAny (model X.prog X.w) X.A (eval iter X.env) (fun v s1=>wpAny (model X.prog X.w) X.A (pyIter v) (PIE X pins σ tg R) X.xe s1) X.xe s
theorem JhC {M:Model} {A:Around} {E:Value→Shared→Prop} {s:Shared} {tg:Expr} {it:Addr} {u:Value} {o:Obj} {n:String} {vs:Array Value} {Q:Unit→Shared→Prop} (ho:s.heap.get? it=some o) (hc:o.cls=.type n) (hd:o.data=.fields vs)
    (hn:["enumerate", "zip", "dict_itemiterator", "dict_reverseitemiterator", "odict_iterator", "itertools.zip_longest", "itertools.pairwise"].contains n=false) (hQ:Q () s):wpAny M A (letOwnedTupleGo tg (.ref it) u) Q E s:=by
  unfold letOwnedTupleGo;cases tg <;> first
    | exact wpAny_pure hQ
    | (cases u <;> first
        | exact wpAny_pure hQ
        | (refine wpAny_bind (wpAny_load ho ?_)
           rw [hc,hd];show wpAny M A (if (["enumerate", "zip", "dict_itemiterator", "dict_reverseitemiterator", "odict_iterator", "itertools.zip_longest", "itertools.pairwise"].contains n && vs[0]? == some (rawInt _))=true then _ else _) Q E s;rw [if_neg (by intro h; rw [hn,Bool.false_and] at h; cases h)];exact wpAny_pure hQ))
def Itl (K:PySem.W.Frag) (a:Addr):It :=
 ⟨fun i H=>∃ xs x,Jo K H a xs∧xs[i]?=some x,fun i H x H'=>H'=H∧∀ xs,Jo K H a xs→xs[i]?=some x,fun i H=>∃ xs,Jo K H a xs∧xs.length≤i⟩
def Itt (K:PySem.W.Frag) (a:Addr):It :=
 ⟨fun i H=>∃ xs x,JT K H a xs∧xs[i]?=some x,fun i H x H'=>H'=H∧∀ xs,JT K H a xs→xs[i]?=some x,fun i H=>∃ xs,JT K H a xs∧xs.length≤i⟩
def Itr (lo:Int) (n:Nat):It:=⟨fun i _=>i < n,fun i H x H'=>H'=H∧x=.int (lo + i),fun i _=>n≤i⟩
theorem Jke {P:Program} {w:World} {K:PySem.W.Frag} {tg:Expr} (a it:Addr):JgM P w K tg (Itl K a) [it] it (fun i h=>h.IsListIter it a i) where
 mem:=by simp
 obj:=fun i h st b hb=>by
  have e:b=it:=by simpa using hb
  subst e;obtain ⟨o,e,c,d⟩:=st;exact ⟨o,e,fun v z=>by rw [d] at z; cases z⟩
 keep:=fun i h h' st k=>st.at fun o e=>k it (by simp) o e
 item:=by
  intro X hP hw hK hc i pins s σ H E I hf st hg;subst hP hw hK;obtain ⟨xs,x,hq,hx⟩:=hg;obtain ⟨its,rv,p,hz⟩:=I.list hq;obtain ⟨u,hu,ru⟩:=rv.get hx;obtain ⟨f0,f1,f2,f3,f4,f5⟩:=hf it (by simp);refine wpAny_pyNext_list_item st p.isList (x:=u) (by simpa using hu) fun h' st' sb=>?_
  have I1:Jk X pins σ H { s with heap:=h' }:=I.turned (t':=s.toks) (fun b o hb e=>(sb.2 b hb).trans e) f0 f1 f3 f4 f5;obtain ⟨o,e,c,d⟩:=id st';exact ⟨u,rfl,JhC (s:={ s with heap:=h' }) e c d (by decide) ⟨x,H,I1,ru,⟨rfl,fun ys hy=>by rw [I.list_inj hy hq]; exact hx⟩,st',fun b hb=>(hf b hb).1⟩⟩
 done:=by
  intro X hP hw hK hc i pins s σ H E I hf st hg;subst hP hw hK;obtain ⟨xs,hq,hx⟩:=hg;obtain ⟨its,rv,p,hz⟩:=I.list hq;obtain ⟨f0,f1,f2,f3,f4,f5⟩:=hf it (by simp);have hl:=rv.length;exact wpAny_pyNext_list_end (I.ok.hd hc) st p.isList (by simp; omega) fun h' eb=>⟨rfl,I.turned (t':=s.toks) (fun b o hb e=>eb b o hb e) f0 f1 f3 f4 f5⟩
 self:=fun _ _ _ _ _ st h=>wpAny_pyIter_listiter st h
theorem Jjo {P:Program} {w:World} {K:PySem.W.Frag} {tg:Expr} (a it:Addr):JgM P w K tg (Itt K a) [it] it (fun i h=>h.IsTupleIter it a i) where
 mem:=by simp
 obj:=fun i h st b hb=>by
  have e:b=it:=by simpa using hb
  subst e;obtain ⟨o,e,c,d⟩:=st;exact ⟨o,e,fun v z=>by rw [d] at z; cases z⟩
 keep:=fun i h h' st k=>st.at fun o e=>k it (by simp) o e
 item:=by
  intro X hP hw hK hc i pins s σ H E I hf st hg;subst hP hw hK;obtain ⟨xs,x,hq,hx⟩:=hg;obtain ⟨its,rv,p,hz⟩:=I.tuple hq;obtain ⟨u,hu,ru⟩:=rv.get hx;obtain ⟨f0,f1,f2,f3,f4,f5⟩:=hf it (by simp);refine wpAny_pyNext_tuple_item st (show s.heap.IsTuple a its.toArray from p) (x:=u) (by simpa using hu) fun h' st' sb=>?_
  have I1:Jk X pins σ H { s with heap:=h' }:=I.turned (t':=s.toks) (fun b o hb e=>(sb.2 b hb).trans e) f0 f1 f3 f4 f5;obtain ⟨o,e,c,d⟩:=id st';exact ⟨u,rfl,JhC (s:={ s with heap:=h' }) e c d (by decide) ⟨x,H,I1,ru,⟨rfl,fun ys hy=>by rw [I.tuple_inj hy hq]; exact hx⟩,st',fun b hb=>(hf b hb).1⟩⟩
 done:=by
  intro X hP hw hK hc i pins s σ H E I hf st hg;subst hP hw hK;obtain ⟨xs,hq,hx⟩:=hg;obtain ⟨its,rv,p,hz⟩:=I.tuple hq;obtain ⟨f0,f1,f2,f3,f4,f5⟩:=hf it (by simp);have hl:=rv.length;exact wpAny_pyNext_tuple_end (I.ok.hd hc) st (show s.heap.IsTuple a its.toArray from p) (by simp; omega) fun h' eb=>⟨rfl,I.turned (t':=s.toks) (fun b o hb e=>eb b o hb e) f0 f1 f3 f4 f5⟩
 self:=fun _ _ _ _ _ st h=>wpAny_pyIter_tupleiter st h
theorem Jjp {P:Program} {w:World} {K:PySem.W.Frag} {tg:Expr} (it:Addr) (lo:Int) (n:Nat):JgM P w K tg (Itr lo n) [it] it (fun i h=>IsRangeIter h it (lo + (i:Nat) * 1) ((n:Int) - (i:Nat)) 1) where
 mem:=by simp
 obj:=fun i h st b hb=>by
  have e:b=it:=by simpa using hb
  subst e;exact ⟨_,st,fun v z=>by
   have z':Data.fields _=Data.cell v:=z;cases z'⟩
 keep:=fun i h h' st k=>k it (by simp) _ st
 item:=by
  intro X hP hw hK hc i pins s σ H E I hf st hg;subst hP hw hK;obtain ⟨f0,f1,f2,f3,f4,f5⟩:=hf it (by simp);have W:=Walks.range (prog:=X.prog) (w:=X.w) (I.ok.hd hc) it lo 1 n;refine W.item i s _ _ hg st fun v h' tk hv st' kk=>?_
  obtain ⟨t,rfl⟩:=hv;have I1:Jk X pins σ H { s with heap:=h',toks:=tk }:=I.turned (fun b o hb e=>kk b o (by simpa using hb) e) f0 f1 f3 f4 f5;refine ⟨_,rfl,JhC (s:={ s with heap:=h',toks:=tk }) (n := "range_iterator") st' rfl rfl (by decide) ⟨.int (lo + i),H,I1,⟨t,?_⟩,⟨rfl,rfl⟩,st',fun b hb=>(hf b hb).1⟩⟩;rw [Int.mul_one]
 done:=by
  intro X hP hw hK hc i pins s σ H E I hf st hg;subst hP hw hK;obtain ⟨f0,f1,f2,f3,f4,f5⟩:=hf it (by simp);exact wpAny_pyNext_range_end (I.ok.hd hc) st (by have:n≤i:=hg; omega) fun h' eb=>⟨rfl,I.turned (t':=s.toks) (fun b o hb e=>eb b o hb e) f0 f1 f3 f4 f5⟩
 self:=fun _ _ _ _ _ st h=>wpAny_pyIter_rangeiter st h
end L2
namespace L2
open PySem PySem.Spec PyProof.Rows
section
variable {X:Cx} {tg:Expr}
def JoZ (K:PySem.W.Frag) (tl:TE):TI:=fun σ H R=>tl σ H fun x H1=>∃ a,x=.ref a∧(∃ xs,Jo K H1 a xs)∧R (Itl K a) H1
def JpB (K:PySem.W.Frag) (tl:TE):TI:=fun σ H R=>tl σ H fun x H1=>∃ a,x=.ref a∧(∃ xs,JT K H1 a xs)∧R (Itt K a) H1
theorem Yr {l:Expr} {tl:TE} (hl:PE X l tl):PI X tg l (JoZ X.K tl):=by
 intro pins s σ H R I h;refine JJ (hl pins s σ H _ I h) fun v s1 ⟨x,H1,I1,r1,q1⟩=>?_
 obtain ⟨a,e,⟨xs,hq⟩,q⟩:=q1;subst e;cases r1;obtain ⟨its,rv,p,hz⟩:=I1.list hq;refine wpAny_pyIter_list p.isList ?_;refine ⟨s1.heap.objs.size,[s1.heap.objs.size],_,_,H1,rfl,I1.kept (t':=s1.toks) fun b o e=>Heap.get?_push_of_some _ e,Jke a _,⟨_,Heap.get?_push_size _ rfl,rfl,rfl⟩,fun b hb=>?_,q⟩;have e:b=s1.heap.objs.size:=by simpa using hb
 subst e;exact I1.fpOk (Nat.le_refl _) (I1.hok.fresh (Nat.le_refl _))
theorem JcQ {l:Expr} {tl:TE} (hl:PE X l tl):PI X tg l (JpB X.K tl):=by
 intro pins s σ H R I h;refine JJ (hl pins s σ H _ I h) fun v s1 ⟨x,H1,I1,r1,q1⟩=>?_
 obtain ⟨a,e,⟨xs,hq⟩,q⟩:=q1;subst e;cases r1;obtain ⟨its,rv,p,hz⟩:=I1.tuple hq;refine wpAny_pyIter_tuple (show s1.heap.IsTuple a its.toArray from p) ?_;refine ⟨s1.heap.objs.size,[s1.heap.objs.size],_,_,H1,rfl,I1.kept (t':=s1.toks) fun b o e=>Heap.get?_push_of_some _ e,Jjo a _,⟨_,Heap.get?_push_size _ rfl,rfl,rfl⟩,fun b hb=>?_,q⟩;have e:b=s1.heap.objs.size:=by simpa using hb
 subst e;exact I1.fpOk (Nat.le_refl _) (I1.hok.fresh (Nat.le_refl _))
theorem JhY {pins:List (Addr×Obj)} {σ:St} {H:Hp} {s:Shared} {R:It→Hp→Prop} {E:Value→Shared→Prop} {lo hi:Int} {t u v:Tok} {tk:Nat} (I:Jk X pins σ H s) (h1:-(2 ^ 62)≤lo) (h2:lo < 2 ^ 62) (h3:-(2 ^ 62)≤hi) (h4:hi < 2 ^ 62)
  (q:R (Itr lo (hi - lo).toNat) H):wpAny (model X.prog X.w) X.A (pyIter (.ref s.heap.objs.size)) (PIE X pins σ tg R) E { s with heap:=s.heap.push { cls:=.type "range",data:=.fields #[.int lo t,.int hi u,.int 1 v] },toks:=tk }:=by
 refine wpAny_pyIter_range (IsRange.new ..) (small_one h1 h2 h3 h4) ?_;have I1:Jk X pins σ H { s with heap:=s.heap.push { cls:=.type "range",data:=.fields #[.int lo t,.int hi u,.int 1 v] },toks:=tk }:=I.kept fun b o e=>Heap.get?_push_of_some _ e
 refine ⟨(s.heap.push { cls:=.type "range",data:=.fields #[.int lo t,.int hi u,.int 1 v] }).objs.size,[(s.heap.push { cls:=.type "range",data:=.fields #[.int lo t,.int hi u,.int 1 v] }).objs.size],_,_,H,rfl,
  I1.kept (t':=tk) fun b o e=>Heap.get?_push_of_some _ e,Jjp _ lo (hi - lo).toNat,?_,fun b hb=>?_,q⟩
 ·have e1:lo + ((0:Nat):Int) * 1=lo:=by simp
  have e2:(((hi - lo).toNat:Nat):Int) - ((0:Nat):Int)=Builtin.Range.rangeSize lo hi 1:=by rw [rangeSize_one]; split <;> omega
  show IsRangeIter _ _ (lo + ((0:Nat):Int) * 1) ((((hi - lo).toNat:Nat):Int) - ((0:Nat):Int)) 1;rw [e1,e2];exact Heap.get?_push_size _ rfl
 ·have e:b=(s.heap.push { cls:=.type "range",data:=.fields #[.int lo t,.int hi u,.int 1 v] }).objs.size:=by simpa using hb
  subst e;exact I1.fpOk (Nat.le_refl _) (I1.hok.fresh (Nat.le_refl _))
def JoY (ta:TA):TI:=fun σ H R=>ta σ H fun vs H1=>∃ j:Int,vs=[.int j]∧-(2 ^ 62)≤j∧j < 2 ^ 62∧R (Itr 0 j.toNat) H1
def JoX (ta:TA):TI:=fun σ H R=>ta σ H fun vs H1=>∃ i j:Int,vs=[.int i,.int j]∧(-(2 ^ 62)≤i∧i < 2 ^ 62∧-(2 ^ 62)≤j∧j < 2 ^ 62)∧R (Itr i (j - i).toNat) H1
theorem Ze {a:Expr} {ta:TA} {p pos:Pos} (hg:Gl X "range") (hm:X.mg "range" = none) (ha:PA X [a] ta) (hs:starEach [a] X.env=[(false,eval a X.env)]:=by rfl):PI X tg (.Call (.Name "range" p) [a] [] pos) (JoY ta):=by
 intro pins s σ H R I h;refine Call_ (Jei I hg hm boot_range (PyProof.Rows.callWith_type1 (JJ (ha pos pins s σ H _ I h) fun us s1 ⟨vs,H1,I1,r1,q1⟩=>?_) hs rfl));obtain ⟨j,e,q1,q2,q⟩:=q1;subst e;cases r1 with
 | cons r rr =>
  cases rr;obtain ⟨t,rfl⟩:=r;exact call_range_1 (JhY I1 (by omega) (by omega) q1 q2 (by simpa using q))
theorem Jky {a b:Expr} {ta:TA} {p pos:Pos} (hg:Gl X "range") (hm:X.mg "range" = none) (ha:PA X [a,b] ta) (hs:starEach [a,b] X.env=[(false,eval a X.env),(false,eval b X.env)]:=by rfl) (hs2:starEach [b] X.env=[(false,eval b X.env)]:=by rfl) :
  PI X tg (.Call (.Name "range" p) [a,b] [] pos) (JoX ta):=by
 intro pins s σ H R I h;refine Call_ (Jei I hg hm boot_range (PyProof.Rows.callWith_type1 (JJ (ha pos pins s σ H _ I h) fun us s1 ⟨vs,H1,I1,r1,q1⟩=>?_) (by rw [hs,hs2]) (by rw [hs2]; rfl)));obtain ⟨i,j,e,⟨q1,q2,q3,q4⟩,q⟩:=q1;subst e;cases r1 with
 | cons r rr =>
  cases rr with
  | cons r' rr =>
   cases rr;obtain ⟨t,rfl⟩:=r;obtain ⟨t',rfl⟩:=r';exact call_range_2 (JhY I1 q1 q2 q3 q4 q)
def Jps (wi:TI) (g:TG) (tb:TS):TS:=fun D σ H=>@Jey.rec (fun _=>Prop) (fun dn dr _ _=>wi σ H fun J H1=>∃ W:Nat→Nat→St→Hp→Prop,(∃ m,W 0 m σ H1)∧∀ i m σ H,W i m σ H →
 (J.stop i H∧dn σ H)∨(J.go i H∧∃ N:St→Hp→Prop,(∀ σ' H',N σ' H'→∃ m',m' < m∧W (i + 1) m' σ' H')∧∀ x H',J.yld i H x H'→g x σ H' fun σ2 H2=>tb ⟨N,dr,dn,N⟩ σ2 H2)) D
def Jd9 (fp:List Addr) (h:Heap):List (Addr×Obj):=fp.filterMap fun b=>(h.get? b).map fun o=>(b,o)
theorem Jct {fp:List Addr} {h:Heap} {b:Addr} {o:Obj} (hb:b∈fp) (e:h.get? b=some o):(b,o)∈Jd9 fp h:=List.mem_filterMap.mpr ⟨b,hb,by rw [e]; rfl⟩
theorem JkD {fp:List Addr} {h:Heap} {p:Addr×Obj} (hp:p∈Jd9 fp h):p.1∈fp∧h.get? p.1=some p.2:=by
 obtain ⟨b,hb,e⟩:=List.mem_filterMap.mp hp;cases q:h.get? b with
 | none=>rw [q] at e; cases e
 | some o =>
  rw [q] at e;have e':(b,o)=p:=Option.some.inj e;subst e';exact ⟨hb,q⟩
theorem Jk.pinned {pins:List (Addr×Obj)} {σ:St} {H:Hp} {s:Shared} {fp:List Addr} (I:Jk X pins σ H s) (hf:∀ b∈fp,Jc7 X pins H b) (ho:∀ b∈fp,∃ o,s.heap.get? b=some o∧∀ v,o.data≠.cell v):Jk X (pins ++ Jd9 fp s.heap) σ H s :=
 I.pins_of fun p hp=>(List.mem_append.mp hp).elim (fun z=>I.pin p (List.mem_append_right _ z)) fun z=>by
  obtain ⟨hb,e⟩:=JkD z;obtain ⟨f0,f1,f2,_⟩:=hf p.1 hb;obtain ⟨o,e',d⟩:=ho p.1 hb;rw [e] at e'; cases e';exact ⟨e,f0,f1,f2,d⟩
theorem Jk.unpinned {pins pl:List (Addr×Obj)} {σ:St} {H:Hp} {s:Shared} (I:Jk X (pins ++ pl) σ H s):Jk X pins σ H s:=I.pins_of fun p hp=>I.pin p (List.mem_append_right _ (List.mem_append_left _ hp))
theorem Yt {iter:Expr} {body:List Stmt} {wi:TI} {g:TG} {tb:TS} {pos:Pos} (hp:PassesOwn (model X.prog X.w) X.A X.env X.xe) (hc:X.calm=true) (hi:PI X tg iter wi) (hg:PG X tg g) (hb:PSs X body tb)
  (hs:∀ x,foldedSetIterable iter X.env x=pure x:=by intro _; rfl):PS X (.For tg iter body [] pos) (Jps wi g tb):=by
 intro pins s σ H D I h;refine wpAny_For (JJ (hi pins s σ H _ I h) fun v s1 h1=>JJ h1 fun itv s2 h2=>?_) hs;obtain ⟨it,fp,tn,J,H2,e,I2,T,st2,f2,W,⟨m0,w0⟩,turn⟩:=h2;subst e;have stat:∀ {H':Hp},(∀ b∈fp,H' b=none)→∀ b∈fp,Jc7 X pins H' b:=fun hn b hb=>⟨hn b hb,(f2 b hb).2⟩
 refine codeAny_forLoop_any (fun n s'=>∃ i σ' H',Jk X pins σ' H' s'∧tn i s'.heap∧(∀ b∈fp,H' b=none)∧W i n σ' H') ?_ m0 ⟨0,σ,H2,I2,st2,fun b hb=>(f2 b hb).1,w0⟩;rintro n s3 ⟨i,σ3,H3,I3,st3,fr3,w3⟩;rcases turn i n σ3 H3 w3 with ⟨stop,qn⟩ | ⟨go,N,hN,step⟩
 ·refine wpAny_passesOwn hp (JJ (T.done X rfl rfl rfl hc i pins s3 σ3 H3 X.xe I3 (stat fr3) st3 stop) fun r s4 ⟨hr,I4⟩=>?_);subst hr;exact wpAny_execs_nil ⟨σ3,H3,I4,qn⟩
 ·refine wpAny_passesOwn hp (JJ (T.item X rfl rfl rfl hc i pins s3 σ3 H3 X.xe I3 (stat fr3) st3 go) fun r s4 ⟨u,hr,h4⟩=>?_);subst hr;refine wpAny_passesOwn hp (JJ h4 fun _ s5 ⟨x,H5,I5,r5,y5,st5,fr5⟩=>?_);have I5':=I5.pinned (stat fr5) (T.obj _ _ st5);refine wpAny_passesOwn hp (JJ (hg _ s5 σ3 H5 x u _ I5' r5 (step x H5 y5)) fun _ s6 ⟨σ6,H6,I6,q6⟩=>?_);refine wpAny_passesOwn hp (JJ (hb _ s6 σ6 H6 _ I6 q6) fun f s7 q7=>?_);have again:∀ {σ7:St} {H7:Hp},Jk X (pins ++ Jd9 fp s5.heap) σ7 H7 s7→N σ7 H7→∃ m,m < n∧∃ i σ' H',Jk X pins σ' H' s7∧tn i s7.heap∧(∀ b∈fp,H' b=none)∧W i m σ' H':=fun {σ7 H7} I7 n7=>by
   obtain ⟨m',hm,w7⟩:=hN σ7 H7 n7;refine ⟨m',hm,i + 1,σ7,H7,I7.unpinned,T.keep _ _ _ st5 fun b hb o e=>(I7.pin (b,o) (List.mem_append_right _ (List.mem_append_right _ (Jct hb e)))).1,fun b hb=>?_,w7⟩;obtain ⟨o,e,d⟩:=T.obj _ _ st5 b hb;exact (I7.pin (b,o) (List.mem_append_right _ (List.mem_append_right _ (Jct hb e)))).2.1
  cases f with
  | next=>obtain ⟨σ7,H7,I7,n7⟩:=q7; exact again I7 n7
  | cont=>obtain ⟨σ7,H7,I7,n7⟩:=q7; exact again I7 n7
  | brk=>obtain ⟨σ7,H7,I7,q7⟩:=q7; exact ⟨σ7,H7,I7.unpinned,q7⟩
  | ret v=>obtain ⟨x7,σ7,H7,I7,r7,q7⟩:=q7; exact ⟨x7,σ7,H7,I7.unpinned,r7,q7⟩
end
theorem Jan {K:PySem.W.Frag} {a:Addr} {xs:List V} {g:TG} {tb:TS} {dn:St→Hp→Prop} {dr:VK} {σ:St} {H:Hp} (Pv:Nat→St→Hp→Prop) (h0:Pv 0 σ H) (hl:∀ i σ H,i≤xs.length→Pv i σ H→Jo K H a xs)
  (hs:∀ i x σ H,xs[i]?=some x→Pv i σ H→g x σ H fun σ2 H2=>tb ⟨Pv (i + 1),dr,dn,Pv (i + 1)⟩ σ2 H2) (hd:∀ σ H,Pv xs.length σ H→dn σ H) :
  ∃ W:Nat→Nat→St→Hp→Prop,(∃ m,W 0 m σ H)∧∀ i m σ H,W i m σ H →
   ((Itl K a).stop i H∧dn σ H)∨((Itl K a).go i H∧∃ N:St→Hp→Prop,(∀ σ' H',N σ' H'→∃ m',m' < m∧W (i + 1) m' σ' H')∧∀ x H',(Itl K a).yld i H x H'→g x σ H' fun σ2 H2=>tb ⟨N,dr,dn,N⟩ σ2 H2):=by
 refine ⟨fun i m σ H=>m=xs.length - i∧i≤xs.length∧Pv i σ H,⟨xs.length,by simp,Nat.zero_le _,h0⟩,?_⟩;rintro i m σ H ⟨rfl,hi,p⟩;have q:=hl i σ H hi p;by_cases hlt:i < xs.length
 ·refine .inr ⟨⟨xs,xs[i],q,by simp [hlt]⟩,Pv (i + 1),fun σ' H' p'=>⟨xs.length - (i + 1),by omega,rfl,hlt,p'⟩,fun x H' y=>?_⟩;obtain ⟨e,y⟩:=y;subst e;exact hs i x σ _ (y xs q) p
 ·have e:i=xs.length:=by omega
  subst e;exact .inl ⟨⟨xs,q,Nat.le_refl _⟩,hd σ H p⟩
theorem JeP {K:PySem.W.Frag} {a:Addr} {xs:List V} {g:TG} {tb:TS} {dn:St→Hp→Prop} {dr:VK} {σ:St} {H:Hp} (Pv:Nat→St→Hp→Prop) (h0:Pv 0 σ H) (hl:∀ i σ H,i≤xs.length→Pv i σ H→JT K H a xs)
  (hs:∀ i x σ H,xs[i]?=some x→Pv i σ H→g x σ H fun σ2 H2=>tb ⟨Pv (i + 1),dr,dn,Pv (i + 1)⟩ σ2 H2) (hd:∀ σ H,Pv xs.length σ H→dn σ H) :
  ∃ W:Nat→Nat→St→Hp→Prop,(∃ m,W 0 m σ H)∧∀ i m σ H,W i m σ H →
   ((Itt K a).stop i H∧dn σ H)∨((Itt K a).go i H∧∃ N:St→Hp→Prop,(∀ σ' H',N σ' H'→∃ m',m' < m∧W (i + 1) m' σ' H')∧∀ x H',(Itt K a).yld i H x H'→g x σ H' fun σ2 H2=>tb ⟨N,dr,dn,N⟩ σ2 H2):=by
 refine ⟨fun i m σ H=>m=xs.length - i∧i≤xs.length∧Pv i σ H,⟨xs.length,by simp,Nat.zero_le _,h0⟩,?_⟩;rintro i m σ H ⟨rfl,hi,p⟩;have q:=hl i σ H hi p;by_cases hlt:i < xs.length
 ·refine .inr ⟨⟨xs,xs[i],q,by simp [hlt]⟩,Pv (i + 1),fun σ' H' p'=>⟨xs.length - (i + 1),by omega,rfl,hlt,p'⟩,fun x H' y=>?_⟩;obtain ⟨e,y⟩:=y;subst e;exact hs i x σ _ (y xs q) p
 ·have e:i=xs.length:=by omega
  subst e;exact .inl ⟨⟨xs,q,Nat.le_refl _⟩,hd σ H p⟩
theorem Zf {lo:Int} {n:Nat} {g:TG} {tb:TS} {dn:St→Hp→Prop} {dr:VK} {σ:St} {H:Hp} (Pv:Nat→St→Hp→Prop) (h0:Pv 0 σ H)
  (hs:∀ i σ H,i < n→Pv i σ H→g (.int (lo + i)) σ H fun σ2 H2=>tb ⟨Pv (i + 1),dr,dn,Pv (i + 1)⟩ σ2 H2) (hd:∀ σ H,Pv n σ H→dn σ H) :
  ∃ W:Nat→Nat→St→Hp→Prop,(∃ m,W 0 m σ H)∧∀ i m σ H,W i m σ H →
   ((Itr lo n).stop i H∧dn σ H)∨((Itr lo n).go i H∧∃ N:St→Hp→Prop,(∀ σ' H',N σ' H'→∃ m',m' < m∧W (i + 1) m' σ' H')∧∀ x H',(Itr lo n).yld i H x H'→g x σ H' fun σ2 H2=>tb ⟨N,dr,dn,N⟩ σ2 H2):=by
 refine ⟨fun i m σ H=>m=n - i∧i≤n∧Pv i σ H,⟨n,by simp,Nat.zero_le _,h0⟩,?_⟩;rintro i m σ H ⟨rfl,hi,p⟩;by_cases hlt:i < n
 ·refine .inr ⟨hlt,Pv (i + 1),fun σ' H' p'=>⟨n - (i + 1),by omega,rfl,hlt,p'⟩,fun x H' y=>?_⟩;obtain ⟨e,y⟩:=y;subst e y;exact hs i σ _ hlt p
 ·have e:i=n:=by omega
  subst e;exact .inl ⟨Nat.le_refl _,hd σ H p⟩
end L2
namespace L2
open PySem PySem.Spec PyProof.Rows
abbrev R2:=V→V→Hp→VK→Prop
def ZO (X:Cx) (f:Value→Value→Sem Value) (r:R2):Prop :=
 ∀ (pins:List (Addr×Obj)) (s:Shared) (σ:St) (H:Hp) (x y:V) (v u:Value) (Q:VK),Jk X pins σ H s→JG x v→JG y u→r x y H Q →
  wpAny (model X.prog X.w) X.A (f v u) (EP X pins σ Q) X.xe s
def Zd (X:Cx) (f:Value) (r:List V→Hp→VK→Prop):Prop :=
 ∀ (pins:List (Addr×Obj)) (s:Shared) (σ:St) (H:Hp) (xs:List V) (us:List Value) (Q:VK),Jk X pins σ H s→Jw xs us→r xs H Q →
  wpAny (model X.prog X.w) X.A (call f us) (EP X pins σ Q) X.xe s
def tOp (r:R2) (ta tb:TE):TE:=fun σ H Q=>ta σ H fun x H1=>tb σ H1 fun y H2=>r x y H2 Q
def rI (C:Int→Int→Prop) (g:Int→Int→V):R2:=fun x y H Q=>∃ i j,x=.int i∧y=.int j∧C i j∧Q (g i j) H
def rI0 (g:Int→Int→V):R2:=fun x y H Q=>∃ i j,x=.int i∧y=.int j∧Q (g i j) H
section
variable {X:Cx} {a b c:Expr} {ta tb tc:TE} {pos:Pos}
theorem Jmu (ha:PE X a ta) (hb:PE X b tb) {pins:List (Addr×Obj)} {s:Shared} {σ:St} {H:Hp} {R:V→V→Hp→Prop} (I:Jk X pins σ H s)
  (h:ta σ H fun x H1=>tb σ H1 fun y H2=>R x y H2) {Q:Value→Shared→Prop} {f:Value→Value→Sem Value}
  (hf:∀ v u s2 x y H2,Jk X pins σ H2 s2→JG x v→JG y u→R x y H2→wpAny (model X.prog X.w) X.A (f v u) Q X.xe s2) :
  wpAny (model X.prog X.w) X.A (eval a X.env) (fun v s₁=>wpAny (model X.prog X.w) X.A (eval b X.env) (fun u s₂=>wpAny (model X.prog X.w) X.A (f v u) Q X.xe s₂) X.xe s₁) X.xe s:=by
 refine JJ (ha pins s σ H _ I h) fun v s1 ⟨x,H1,I1,r1,q1⟩=>?_
 refine JJ (hb pins s1 σ H1 _ I1 q1) fun u s2 ⟨y,H2,I2,r2,q2⟩=>?_
 exact hf v u s2 x y H2 I2 r1 r2 q2
theorem Jj {op:Operator} {r:R2} (ho:ZO X (binaryOp op) r) (ha:PE X a ta) (hb:PE X b tb):PE X (.BinOp a op b pos) (tOp r ta tb):=by
 intro pins s σ H Q I h;exact wpAny_BinOp (Jmu ha hb I h fun v u s2 x y H2 I2 rx ry q=>ho pins s2 σ H2 x y v u Q I2 rx ry q)
theorem opI {f:Value→Value→Sem Value} {C:Int→Int→Prop} {g:Int→Int→Int}
  (rule:∀ (i j:Int) (t u:Tok) (s:Shared) (Q:Value→Shared→Prop) (E:Value→Shared→Prop),C i j→Q (.int (g i j) s.toks) { s with toks:=s.toks + 1 }→wpAny (model X.prog X.w) X.A (f (.int i t) (.int j u)) Q E s) :
  ZO X f (rI C fun i j=>.int (g i j)):=by
 intro pins s σ H x y v u Q I rx ry h;obtain ⟨i,j,rfl,rfl,hc,q⟩:=h;obtain ⟨t,rfl⟩:=rx;obtain ⟨t',rfl⟩:=ry;exact rule i j t t' s _ _ hc ⟨.int (g i j),H,I.tok _,⟨_,rfl⟩,q⟩
theorem Jn7 {f:Value→Value→Sem Value} {g:Int→Int→Int}
  (rule:∀ (i j:Int) (t u:Tok) (s:Shared) (Q:Value→Shared→Prop) (E:Value→Shared→Prop),Q (.int (g i j) s.toks) { s with toks:=s.toks + 1 }→wpAny (model X.prog X.w) X.A (f (.int i t) (.int j u)) Q E s) :
  ZO X f (rI0 fun i j=>.int (g i j)):=by
 intro pins s σ H x y v u Q I rx ry h;obtain ⟨i,j,rfl,rfl,q⟩:=h;obtain ⟨t,rfl⟩:=rx;obtain ⟨t',rfl⟩:=ry;exact rule i j t t' s _ _ ⟨.int (g i j),H,I.tok _,⟨_,rfl⟩,q⟩
theorem JjJ {f:Value→Value→Sem Value} {g:Int→Int→Bool}
  (rule:∀ (i j:Int) (t u:Tok) (s:Shared) (Q:Value→Shared→Prop) (E:Value→Shared→Prop),Q (.bool (g i j)) s→wpAny (model X.prog X.w) X.A (f (.int i t) (.int j u)) Q E s) :
  ZO X f (rI0 fun i j=>.bl (g i j)):=by
 intro pins s σ H x y v u Q I rx ry h;obtain ⟨i,j,rfl,rfl,q⟩:=h;obtain ⟨t,rfl⟩:=rx;obtain ⟨t',rfl⟩:=ry;exact rule i j t t' s _ _ ⟨.bl (g i j),H,I,rfl,q⟩
def JpG (i j:Int):Prop:=0 < j∧j < 1073741824
def JmC (i j:Int):Prop:=(-(2 ^ 64) < i∧i < 2 ^ 64)∨(-(2 ^ 64) < j∧j < 2 ^ 64)
theorem JmC.ok {i j:Int} (h:JmC i j):IntMulOk i j:=by
 rcases h with ⟨h1,h2⟩ | ⟨h1,h2⟩
 ·exact .of_left (intBits_le_64 h1 h2)
 ·exact .of_right (intBits_le_64 h1 h2)
theorem JP:ZO X (binaryOp .Add) (rI0 fun i j=>.int (i + j)):=Jn7 fun _ _ _ _ _ _ _ q=>add_int q
theorem Y2:ZO X (binaryOp .Sub) (rI0 fun i j=>.int (i - j)):=Jn7 fun _ _ _ _ _ _ _ q=>sub_int q
theorem ZU:ZO X (binaryOp .Mult) (rI JmC fun i j=>.int (i * j)):=opI fun _ _ _ _ _ _ _ hc q=>mul_int q hc.ok
theorem YE:ZO X (binaryOp .FloorDiv) (rI JpG fun i j=>.int (i / j)):=opI fun i j _ _ _ _ _ hc q=>by
 have h1:(0:Int) < j:=hc.1;have h2:j < 1073741824:=hc.2;exact floordiv_int (by omega) (by rw [Int.fdiv_eq_ediv_of_nonneg i (by omega)]; exact q) (.inl (PyProof.noPylong_small (by omega)))
theorem JQ:ZO X (binaryOp .Mod) (rI (fun _ j=>0 < j) fun i j=>.int (i % j)):=opI fun i j _ _ _ _ _ hc q=>by
 have h1:(0:Int) < j:=hc;exact mod_int' (by omega) (by rw [Int.fmod_eq_emod_of_nonneg i (by omega)]; exact q)
end
def JnQ:V→V→Bool
 | .non,.non=>true | .non,.int _=>true | .int _,.non=>true | .non,.bl _=>true | .bl _,.non=>true | .non,.str _=>true | .str _,.non=>true
 | .int _,.int _=>true | .bl _,.bl _=>true | .str _,.str _=>true | .byt _,.byt _=>true
 | .int _,.str _=>true | .str _,.int _=>true | .bl _,.str _=>true | .str _,.bl _=>true
 | _,_=>false
def rEq:R2:=fun x y H Q=>JnQ x y=true∧Q (.bl (decide (x=y))) H
def rNe:R2:=fun x y H Q=>JnQ x y=true∧Q (.bl (!decide (x=y))) H
theorem Jjf {i j:Int}:decide (V.int i=V.int j)=(i == j):=by
 rw [Bool.eq_iff_iff];simp
theorem Jk3 {i j:Bool}:decide (V.bl i=V.bl j)=(i == j):=by
 rw [Bool.eq_iff_iff];simp
theorem Jje {i j:Str}:decide (V.str i=V.str j)=(i == j):=by
 rw [Bool.eq_iff_iff];simp
theorem Jjg {i j:Array UInt8}:decide (V.byt i=V.byt j)=(i.toList == j.toList):=by
 rw [Bool.eq_iff_iff];cases i;cases j;simp
section
variable {X:Cx} {a b c:Expr} {ta tb tc:TE} {pos:Pos}
theorem J3 {pins:List (Addr×Obj)} {σ:St} {H:Hp} {s:Shared} {Q:VK} {k k':Bool} (I:Jk X pins σ H s) (q:Q (.bl k) H) (e:k=k'):EP X pins σ Q (.bool k') s:=by
 subst e;exact ⟨.bl k,H,I,rfl,q⟩
theorem Yc:ZO X (compareOp .Eq) rEq:=by
 intro pins s σ H x y v u Q I rx ry h;obtain ⟨hs,q⟩:=h;cases x with
 | non =>
  cases rx;cases y with
  | non=>cases ry; exact PySem.EqNone.eq_none_none (J3 I q (by simp))
  | bl j=>cases ry; exact PySem.EqNone.eq_none_bool (J3 I q (by simp))
  | int j=>obtain ⟨t',rfl⟩:=ry; exact PySem.EqNone.eq_none_int (J3 I q (by simp))
  | str j=>obtain ⟨t',rfl⟩:=ry; exact PySem.EqNone.eq_none_str (J3 I q (by simp))
  | _=>exact absurd (show false=true from hs) Bool.false_ne_true
 | bl i =>
  cases rx;cases y with
  | non=>cases ry; exact PySem.EqNone.eq_bool_none (J3 I q (by simp))
  | bl j=>cases ry; exact eq_bool (J3 I q Jk3)
  | str j=>obtain ⟨t',rfl⟩:=ry; exact PySem.EqMixed.eq_bool_str (J3 I q (by simp))
  | _=>exact absurd (show false=true from hs) Bool.false_ne_true
 | int i =>
  obtain ⟨t,rfl⟩:=rx;cases y with
  | non=>cases ry; exact PySem.EqNone.eq_int_none (J3 I q (by simp))
  | int j=>obtain ⟨t',rfl⟩:=ry; exact eq_int (J3 I q Jjf)
  | str j=>obtain ⟨t',rfl⟩:=ry; exact PySem.EqMixed.eq_int_str (J3 I q (by simp))
  | _=>exact absurd (show false=true from hs) Bool.false_ne_true
 | str i =>
  obtain ⟨t,rfl⟩:=rx;cases y with
  | non=>cases ry; exact PySem.EqNone.eq_str_none (J3 I q (by simp))
  | bl j=>cases ry; exact PySem.EqMixed.eq_str_bool (J3 I q (by simp))
  | int j=>obtain ⟨t',rfl⟩:=ry; exact PySem.EqMixed.eq_str_int (J3 I q (by simp))
  | str j=>obtain ⟨t',rfl⟩:=ry; exact eq_str (J3 I q Jje)
  | _=>exact absurd (show false=true from hs) Bool.false_ne_true
 | byt i =>
  obtain ⟨t,rfl⟩:=rx;cases y with
  | byt j=>obtain ⟨t',rfl⟩:=ry; exact PySem.W.eq_bytes (J3 I q Jjg)
  | _=>exact absurd (show false=true from hs) Bool.false_ne_true
 | _=>cases y <;> exact absurd (show false=true from hs) Bool.false_ne_true
theorem JoT:ZO X (compareOp .NotEq) rNe:=by
 intro pins s σ H x y v u Q I rx ry h;obtain ⟨hs,q⟩:=h;cases x with
 | non =>
  cases rx;cases y with
  | non=>cases ry; exact PySem.EqNone.ne_none_none (J3 I q (by simp))
  | bl j=>cases ry; exact PySem.EqNone.ne_none_bool (J3 I q (by simp))
  | int j=>obtain ⟨t',rfl⟩:=ry; exact PySem.EqNone.ne_none_int (J3 I q (by simp))
  | str j=>obtain ⟨t',rfl⟩:=ry; exact PySem.EqNone.ne_none_str (J3 I q (by simp))
  | _=>exact absurd (show false=true from hs) Bool.false_ne_true
 | bl i =>
  cases rx;cases y with
  | non=>cases ry; exact PySem.EqNone.ne_bool_none (J3 I q (by simp))
  | bl j=>cases ry; exact ne_bool (J3 I q (congrArg not Jk3))
  | str j=>obtain ⟨t',rfl⟩:=ry; exact PySem.EqMixed.ne_bool_str (J3 I q (by simp))
  | _=>exact absurd (show false=true from hs) Bool.false_ne_true
 | int i =>
  obtain ⟨t,rfl⟩:=rx;cases y with
  | non=>cases ry; exact PySem.EqNone.ne_int_none (J3 I q (by simp))
  | int j=>obtain ⟨t',rfl⟩:=ry; exact ne_int (J3 I q (congrArg not Jjf))
  | str j=>obtain ⟨t',rfl⟩:=ry; exact PySem.EqMixed.ne_int_str (J3 I q (by simp))
  | _=>exact absurd (show false=true from hs) Bool.false_ne_true
 | str i =>
  obtain ⟨t,rfl⟩:=rx;cases y with
  | non=>cases ry; exact PySem.EqNone.ne_str_none (J3 I q (by simp))
  | bl j=>cases ry; exact PySem.EqMixed.ne_str_bool (J3 I q (by simp))
  | int j=>obtain ⟨t',rfl⟩:=ry; exact PySem.EqMixed.ne_str_int (J3 I q (by simp))
  | str j=>obtain ⟨t',rfl⟩:=ry; exact ne_str (J3 I q (congrArg not Jje))
  | _=>exact absurd (show false=true from hs) Bool.false_ne_true
 | byt i =>
  obtain ⟨t,rfl⟩:=rx;cases y with
  | byt j=>obtain ⟨t',rfl⟩:=ry; exact PySem.W.ne_bytes (J3 I q (congrArg not Jjg))
  | _=>exact absurd (show false=true from hs) Bool.false_ne_true
 | _=>cases y <;> exact absurd (show false=true from hs) Bool.false_ne_true
theorem Jcq:ZO X (compareOp .Lt) (rI0 fun i j=>.bl (decide (i < j))):=JjJ fun _ _ _ _ _ _ _ q=>lt_int q
theorem JoU:ZO X (compareOp .LtE) (rI0 fun i j=>.bl (decide (i≤j))):=JjJ fun _ _ _ _ _ _ _ q=>le_int q
theorem Jcr:ZO X (compareOp .Gt) (rI0 fun i j=>.bl (decide (j < i))):=JjJ fun _ _ _ _ _ _ _ q=>gt_int q
theorem JoV:ZO X (compareOp .GtE) (rI0 fun i j=>.bl (decide (j≤i))):=JjJ fun _ _ _ _ _ _ _ q=>ge_int q
theorem JC (b:Expr) {op:CmpOp} (h:op≠.In:=by decide) (h2:op≠.NotIn:=by decide):behindInMarks op b=false:=by
 have e1:(op == CmpOp.In)=false:=by cases op <;> first | rfl | exact absurd rfl h
 have e2:(op == CmpOp.NotIn)=false:=by cases op <;> first | rfl | exact absurd rfl h2
 cases b <;> simp [behindInMarks,e1,e2]
theorem JeL {op:CmpOp} {r:R2} (ho:ZO X (compareOp op) r) (ha:PE X a ta) (hb:PE X b tb) (hm:behindInMarks op b=false):PE X (.Compare a [op] [b] pos) (tOp r ta tb):=by
 intro pins s σ H Q I h;exact wpAny_Compare1 (Jmu ha hb I h fun v u s2 x y H2 I2 rx ry q=>ho pins s2 σ H2 x y v u Q I2 rx ry q) hm
def Joz (t:TE):TT:=fun σ H Q=>t σ H fun x H'=>∃ k,x=.bl k∧Q k H'
theorem Js {op:CmpOp} {r:R2} (ho:ZO X (compareOp op) r) (ha:PE X a ta) (hb:PE X b tb) (hm:behindInMarks op b=false):PT X (.Compare a [op] [b] pos) (Joz (tOp r ta tb)):=by
 intro pins s σ H Q I h;refine wpAny_isTrue_Compare1 (JJ (ha pins s σ H _ I h) fun v s1 ⟨x,H1,I1,r1,q1⟩=>JJ (hb pins s1 σ H1 _ I1 q1) fun u s2 ⟨y,H2,I2,r2,q2⟩ =>
  JJ (ho pins s2 σ H2 x y v u _ I2 r1 r2 q2) fun c s3 ⟨z,H3,I3,r3,k,e,q3⟩=>?_) hm
 subst e;cases r3;exact wpAny_truthy_bool ⟨H3,I3,q3⟩
def JnI (r r':R2) (ta tb tc:TE):TE:=fun σ H Q=>ta σ H fun x H1=>tb σ H1 fun y H2=>r x y H2 fun z H3=>∃ k,z=.bl k ∧
 (if k=true then tc σ H3 fun w' H4=>r' y w' H4 Q else Q (.bl false) H3)
theorem Jl5 {op op':CmpOp} {r r':R2} (ho:ZO X (compareOp op) r) (ho':ZO X (compareOp op') r') (ha:PE X a ta) (hb:PE X b tb) (hc:PE X c tc)
  (hm:lastMarks [op,op'] [b,c]=false:=by with_unfolding_all rfl):PE X (.Compare a [op,op'] [b,c] pos) (JnI r r' ta tb tc):=by
 intro pins s σ H Q I h;refine Compare_chain (JJ (ha pins s σ H _ I h) fun v s1 ⟨x,H1,I1,r1,q1⟩=>chain_link (JJ (hb pins s1 σ H1 _ I1 q1) fun u s2 ⟨y,H2,I2,r2,q2⟩ =>
  JJ (ho pins s2 σ H2 x y v u _ I2 r1 r2 q2) fun d s3 ⟨z,H3,I3,r3,k,e,q3⟩=>?_)) hm
 subst e;cases r3;refine wpAny_truthy_bool ?_;cases k with
 | false=>exact ite_ff ⟨.bl false,H3,I3,rfl,q3⟩
 | true=>exact ite_tt (chain_last (JJ (hc pins s3 σ H3 _ I3 q3) fun w' s4 ⟨z',H4,I4,r4,q4⟩=>ho' pins s4 σ H4 y z' u w' Q I4 r2 r4 q4))
theorem JdA:(sizeLine:Nat) < 2 ^ 63:=by rw [sizeLine_eq]; decide
theorem JjI:ZO X (binaryOp .Add) (fun x y H Q=>∃ i j,x=.str i∧y=.str j∧i.length + j.length≤sizeLine∧Q (.str (i ++ j)) H):=by
 intro pins s σ H x y v u Q I rx ry h;obtain ⟨i,j,rfl,rfl,hz,q⟩:=h;obtain ⟨t,rfl⟩:=rx;obtain ⟨t',rfl⟩:=ry;exact add_str (fun t' tk=>⟨.str (i ++ j),H,I.tok _,⟨_,rfl⟩,q⟩) hz
theorem JeD {x:V} {us:List Value} (r:Jw [x] us):∃ u,us=[u]∧JG x u:=by
 cases r with
 | cons r1 r2=>cases r2; exact ⟨_,rfl,r1⟩
theorem JmD {x y:V} {us:List Value} (r:Jw [x,y] us):∃ u w',us=[u,w']∧JG x u∧JG y w':=by
 cases r with
 | cons r1 r2 =>
  cases r2 with
  | cons r3 r4=>cases r4; exact ⟨_,_,rfl,r1,r3⟩
theorem JbW (hc:X.calm=true):Zd X (.builtin "max") (fun xs H Q=>∃ i j,xs=[.int i,.int j]∧Q (.int (if j > i then j else i)) H):=by
 intro pins s σ H xs us Q I r h;obtain ⟨i,j,rfl,q⟩:=h;obtain ⟨u,w',rfl,⟨t,rfl⟩,⟨t',rfl⟩⟩:=JmD r;refine max_two_ints (I.ok.hd hc) fun h' tk k=>⟨_,H,I.kept k,?_,q⟩
 by_cases hj:j > i
 ·rw [if_pos hj,if_pos hj]; exact ⟨_,rfl⟩
 ·rw [if_neg hj,if_neg hj]; exact ⟨_,rfl⟩
theorem Jlb (hc:X.calm=true):Zd X (.builtin "min") (fun xs H Q=>∃ i j,xs=[.int i,.int j]∧Q (.int (if j < i then j else i)) H):=by
 intro pins s σ H xs us Q I r h;obtain ⟨i,j,rfl,q⟩:=h;obtain ⟨u,w',rfl,⟨t,rfl⟩,⟨t',rfl⟩⟩:=JmD r;refine min_two_ints (I.ok.hd hc) fun h' tk k=>⟨_,H,I.kept k,?_,q⟩
 by_cases hj:j < i
 ·rw [if_pos hj,if_pos hj]; exact ⟨_,rfl⟩
 ·rw [if_neg hj,if_neg hj]; exact ⟨_,rfl⟩
theorem Jld:Zd X (.type "int") (fun xs H Q=>(∃ i,xs=[.int i]∧Q (.int i) H)∨∃ k,xs=[.bl k]∧Q (.int (if k then 1 else 0)) H):=by
 intro pins s σ H xs us Q I r h;rcases h with ⟨i,rfl,q⟩ | ⟨k,rfl,q⟩
 ·obtain ⟨u,rfl,t,rfl⟩:=JeD r;exact call_int_int ⟨.int i,H,I,⟨_,rfl⟩,q⟩
 ·obtain ⟨u,rfl,r1⟩:=JeD r;cases r1;exact call_int_bool ⟨.int (if k then 1 else 0),H,I.tok _,⟨_,rfl⟩,q⟩
end
end L2
namespace L2
open PySem PySem.Spec PyProof.Rows
structure Jfu (h:Heap) (x dx C:Addr) (mA:Str→Option Value):Prop where
 obj:h.get? x=some (PySem.W.instObj C dx)
 ns:h.Ns1 dx mA
 ne:dx≠x
theorem JkL {h:Heap} {dx:Addr} {mA:Str→Option Value} (n:h.Ns1 dx mA):∃ od,h.get? dx=some od∧∀ name,PySem.W.lookIn name od=some (mA name):=by
 obtain ⟨o,es,ep,ho,hd,hk,_,hm⟩:=n;refine ⟨o,ho,fun name=>?_⟩;have e:=hm name;unfold nsFind findBy at e;rw [← Array.find?_toList] at e;unfold PySem.W.lookIn;rw [hd];dsimp only;split
 ·rename_i y q;rw [q] at e;exact congrArg some e
 ·rename_i q;rw [q] at e;have a:es.toList.any (·.refKey)=false:=by
   rw [List.any_eq_false];intro y hy;obtain ⟨z,t,hkey⟩:=hk y (Array.mem_toList_iff.mp hy);simp [DictEntry.refKey,hkey]
  have a':¬ es.toList.any (·.refKey)=true:=by rw [a]; exact Bool.false_ne_true
  rw [if_neg a'];exact congrArg some e
theorem Jfu.look {h:Heap} {x dx C:Addr} {mA:Str→Option Value} (I:Jfu h x dx C mA):∃ od,PySem.W.InstAt h x (PySem.W.instObj C dx) C (some od)∧∀ name,PySem.W.lookIn name od=some (mA name) :=
 let ⟨od,ho,hl⟩:=JkL I.ns
 ⟨od,⟨I.obj,rfl,rfl,ho⟩,hl⟩
section
variable {prog:Program} {w:World} {A:Around} {E:Value→Shared→Prop} {s:Shared} {K:PySem.W.Frag} {x dx C f:Addr} {mA:Str→Option Value} {name:Str} {v:Value}
theorem Jnu {expr:Bool} {Q:Value→Shared→Prop} (X:K.In s.heap) (I:Jfu s.heap x dx C mA) (hg:PySem.W.plainGet K C name=true) (hh:PySem.W.hasDictIn K C=true)
  (ha:PySem.W.findIn K (.ref C) name=some none) (hv:mA name=some v) (hv':PySem.W.handedIn v=true) (h:Q v { s with toks:=s.toks + 1 }) :
  wpAny (model prog w) A (getAttr (.ref x) name expr) Q E s:=by
 obtain ⟨od,J,hl⟩:=I.look;exact PySem.W.get_value X J (PySem.W.plainGet_of hg).1 (PySem.W.findObj_own hh ha rfl (by rw [hl,hv])) hv' h
theorem Jmm {pl:Sem Bool} {Q:Value×List Value→Shared→Prop} (X:K.In s.heap) (I:Jfu s.heap x dx C mA) (hg:PySem.W.plainGet K C name=true)
  (hf:PySem.W.findIn K (.ref C) name=some (some (.ref f))) (ht:PySem.W.isFn K (.ref f)=true) (hv:mA name=none) (h:Q (.ref f,[.ref x]) s) :
  wpAny (model prog w) A (getMethod (.ref x) name pl) Q E s:=by
 obtain ⟨od,J,hl⟩:=I.look;exact PySem.W.method_fn X J (PySem.W.plainGet_of hg).1 (PySem.W.plainGet_of hg).2 hf (beq_iff_eq.mp ht) (by show (PySem.W.lookIn name od).map (·.isSome)=some false; rw [hl,hv]; rfl) h
theorem Jm7 {ns:List Str} {Q:Unit→Shared→Prop} (X:K.In s.heap) (I:Jfu s.heap x dx C mA)
  (hs:PySem.W.findIn K (.ref C) "__setattr__" = some (some (.builtin "object.__setattr__"))) (hp:PySem.W.plainOver K C=true) (ht:PySem.W.takerIn K C name=some none) (hh:PySem.W.hasDictIn K C=true)
  (hw:PySem.Within mA ns) (hsz:ns.length≤sizeLine)
  (h:∀ h',Jfu h' x dx C (fun y=>if y=name then some v else mA y)→Heap.SameBut dx s.heap h'→Q () { s with heap:=h',toks:=s.toks + 2 }) :
  wpAny (model prog w) A (setAttr (.ref x) name v) Q E s:=by
 obtain ⟨od,J,hl⟩:=I.look;refine PySem.W.set_plain X J hs (PySem.W.osa_open (s:={ s with toks:=s.toks + 1 }) (r:=none) X J hp ht fun b=>?_);obtain ⟨cd,hc,hd'⟩:=PySem.W.any_some hh;have hx:s.heap.get? x=some ⟨.ref C,some dx,.plain,#[]⟩:=I.obj;refine wpAny_bind (wpAny_pure (wpAny_bind (wpAny_bind (wpAny_loadPart hx (wpAny_bind (PySem.W.Looks.here (s:={ s with toks:=s.toks + 1 }) (PySem.W.looks_clsIn X hc) ?_))))));rw [hd'];refine wpAny_pure (a:=some dx) (wpAny_bind (wpAny_pure (wpAny_bind ?_)));refine wpAny_nsSet1 (s:={ s with toks:=s.toks + 1 }) I.ns fun h' hn2 hs2=>?_
 obtain ⟨oD,esD,epD,hoD,hdD,hcD⟩:=hn2.count (PySem.Within.cons name v hw);refine wpAny_bind (wpAny_lookBehind hoD (by rw [hdD]; exact pastItsLine_dict (Nat.le_trans hcD (by rw [List.length_cons]; omega))) ?_);exact wpAny_pure (h _ ⟨(hs2.2 _ (Ne.symm I.ne)).trans I.obj,hn2,I.ne⟩ hs2)
theorem Jmf {R:Result→Shared→Prop} {vs:List Value} {kw:List (Str×Value)} (X:K.In s.heap) (hm:PySem.W.makesIn K C=true)
  (hi:PySem.W.findIn K (.ref C) "__init__" = some (some (.ref f))) (hf:PySem.W.typeIn K (.ref f)=some (.type "function"))
  (h:codeAny (model prog w) (A.under (.builtin "type.__call__" ⟨.ref C :: vs,kw⟩)) (.call (.ref f) ⟨.ref (s.heap.objs.size + 1) :: vs,kw⟩) (PySem.W.InitBack (s.heap.objs.size + 1) R)
   { s with heap:=(s.heap.push PySem.W.emptyDict).push (PySem.W.instObj C s.heap.objs.size) }) :
  codeAny (model prog w) A (.call (.ref C) ⟨vs,kw⟩) R s:=by
 obtain ⟨hh,g,d,t,os⟩:=s;exact PySem.W.make_core (PySem.W.makes_of X hm) (PySem.W.looks_findIn X hi) (fun self=>PySem.W.bind_fn X self hf) (.inl rfl) h
end
def Yb (f:Str) (v:V):List (Str×V)→List (Str×V)
 | []=>[(f,v)]
 | (g,x) :: r=>if g=f then (g,v) :: r else (g,x) :: Yb f v r
theorem Je0 (f g:Str) (v:V):∀ fs:List (Str×V),(Yb f v fs).lookup g=if g=f then some v else fs.lookup g
 | []=>by
  show List.lookup g [(f,v)]=_;by_cases h:g=f
  ·have hb:(g == f)=true:=beq_iff_eq.mpr h;simp only [List.lookup,hb,if_pos h]
  ·have hb:(g == f)=false:=beq_eq_false_iff_ne.mpr h;simp only [List.lookup,hb,if_neg h]
 | (k,x) :: r=>by
  have ih:=Je0 f g v r;rw [show Yb f v ((k,x) :: r)=(if k=f then (k,v) :: r else (k,x) :: Yb f v r) from rfl];by_cases hk:k=f
  ·rw [if_pos hk];by_cases h:g=k
   ·have hb:(g == k)=true:=beq_iff_eq.mpr h;simp only [List.lookup,hb,if_pos (h.trans hk)]
   ·have hb:(g == k)=false:=beq_eq_false_iff_ne.mpr h;simp only [List.lookup,hb,if_neg (fun e:g=f=>h (e.trans hk.symm))]
  ·rw [if_neg hk];by_cases h:g=k
   ·have hb:(g == k)=true:=beq_iff_eq.mpr h;simp only [List.lookup,hb,if_neg (fun e:g=f=>hk (h.symm.trans e))]
   ·have hb:(g == k)=false:=beq_eq_false_iff_ne.mpr h;simp only [List.lookup,hb];exact ih
theorem Jej (f:Str) (v:V):∀ fs:List (Str×V),f∈(Yb f v fs).map (·.1)∧∀ g,g∈fs.map (·.1)→g∈(Yb f v fs).map (·.1)
 | []=>⟨by simp [Yb],fun g h=>by simp at h⟩
 | (k,x) :: r=>by
  obtain ⟨i1,i2⟩:=Jej f v r;rw [show Yb f v ((k,x) :: r)=(if k=f then (k,v) :: r else (k,x) :: Yb f v r) from rfl];by_cases hk:k=f
  ·rw [if_pos hk];subst hk;exact ⟨by simp,fun g h=>by simpa using h⟩
  ·rw [if_neg hk];refine ⟨?_,fun g h=>?_⟩
   ·rw [List.map_cons];exact List.mem_cons_of_mem _ i1
   ·rw [List.map_cons] at h ⊢;rcases List.mem_cons.mp h with e | e
    ·exact List.mem_cons.mpr (.inl e)
    ·exact List.mem_cons_of_mem _ (i2 g e)
theorem Je2 (f:Str) (v:V):∀ fs:List (Str×V),(Yb f v fs).length≤fs.length + 1
 | []=>by simp [Yb]
 | (k,x) :: r=>by
  have ih:=Je2 f v r;rw [show Yb f v ((k,x) :: r)=(if k=f then (k,v) :: r else (k,x) :: Yb f v r) from rfl];by_cases hk:k=f
  ·rw [if_pos hk,List.length_cons,List.length_cons]; omega
  ·rw [if_neg hk,List.length_cons,List.length_cons]; omega
theorem Z2.some_of {v:V} {o:Option Value} (r:Z2 (some v) o):∃ u,o=some u∧JG v u:=by
 cases o with
 | none=>exact (show False from r).elim
 | some u=>exact ⟨u,rfl,r⟩
theorem Z2.none_of {o:Option Value} (r:Z2 none o):o=none:=by
 cases o with
 | none=>rfl
 | some u=>exact (show False from r).elim
theorem JkX {v:V} {u:Value} (r:JG v u):PySem.W.handedIn u=true:=by
 cases v with
 | non=>cases (show u=Value.none from r); rfl
 | bl b=>cases (show u=Value.bool b from r); rfl
 | int i=>obtain ⟨t,e⟩:=(show ∃ t,u=Value.int i t from r); cases e; rfl
 | str x=>obtain ⟨t,e⟩:=(show ∃ t,u=Value.str x t from r); cases e; rfl
 | byt b=>obtain ⟨t,e⟩:=(show ∃ t,u=Value.bytes b t from r); cases e; rfl
 | flt b=>obtain ⟨t,e⟩:=(show ∃ t,u=Value.float b t from r); cases e; rfl
 | ref a=>cases (show u=Value.ref a from r); rfl
 | ty n=>cases (show u=Value.type n from r); rfl
section
variable {P:Program} {w:World} {H H':Hp} {h h':Heap} {a C dx:Addr} {fs fs':List (Str×V)}
theorem JeO (hok:Zo P w H h) (e:H a=some (.ins C dx fs)):∃ mA,Jfu h a dx C mA∧(∀ f,Z2 (fs.lookup f) (mA f))∧PySem.Within mA (fs.map (·.1))∧fs.length≤1000∧H dx=some (.own a):=by
 obtain ⟨d,z,ne,ob,mA,n,r,q⟩:=(show J9 P w H h a (.ins C dx fs) from hok a _ e)
 exact ⟨mA,⟨ob,n,ne⟩,r,q,z,d⟩
end
structure Cls (K:PySem.W.Frag) (C:Addr):Prop where
 pg:PySem.W.plainGet K C Str.empty=true
 hd:PySem.W.hasDictIn K C=true
 po:PySem.W.plainOver K C=true
 sa:PySem.W.findIn K (.ref C) "__setattr__" = some (some (.builtin "object.__setattr__"))
theorem Cls.get {K:PySem.W.Frag} {C:Addr} (c:Cls K C) (f:Str):PySem.W.plainGet K C f=true:=c.pg
def ZM (K:PySem.W.Frag) (C:Addr) (f:Str):Prop:=PySem.W.findIn K (.ref C) f=some none
theorem ZM.taker {K:PySem.W.Frag} {C:Addr} {f:Str} (n:ZM K C f):PySem.W.takerIn K C f=some none:=by
 unfold PySem.W.takerIn;rw [show PySem.W.findIn K (.ref C) f=some none from n];rfl
structure JmB (K:PySem.W.Frag) (C:Addr) (m:Str) (f:Addr):Prop where
 at_:PySem.W.findIn K (.ref C) m=some (some (.ref f))
 fn:PySem.W.isFn K (.ref f)=true
 kp:PySem.W.keepIn K (.ref f)=true
section
variable {X:Cx} {pins:List (Addr×Obj)} {σ:St} {H:Hp} {s:Shared} {a C dx:Addr} {fs:List (Str×V)} {f:Str} {v:V} {A:Around} {E:Value→Shared→Prop}
theorem JjU {b:Bool} {Q:Value→Shared→Prop} (I:Jk X pins σ H s) (e:H a=some (.ins C dx fs)) (c:Cls X.K C) (n:ZM X.K C f) (l:fs.lookup f=some v)
  (h:∀ u s',Jk X pins σ H s'→JG v u→Q u s'):wpAny (model X.prog X.w) A (getAttr (.ref a) f b) Q E s:=by
 obtain ⟨mA,O,r,_,_,_⟩:=JeO I.hok e;obtain ⟨u,hu,ru⟩:=Z2.some_of (v:=v) (o:=mA f) (by rw [← l]; exact r f);exact Jnu I.kIn O (c.get f) c.hd n hu (JkX ru) (h u _ (I.tok _) ru)
theorem JjT {m:Str} {g:Addr} {pl:Sem Bool} {Q:Value×List Value→Shared→Prop} (I:Jk X pins σ H s) (e:H a=some (.ins C dx fs)) (c:Cls X.K C) (k:JmB X.K C m g) (l:fs.lookup m=none)
  (h:Q (.ref g,[.ref a]) s):wpAny (model X.prog X.w) A (getMethod (.ref a) m pl) Q E s:=by
 obtain ⟨mA,O,r,_,_,_⟩:=JeO I.hok e;have hn:mA m=none:=Z2.none_of (by rw [← l]; exact r m);exact Jmm I.kIn O (c.get m) k.at_ k.fn hn h
theorem Jjz {y:V} {u:Value} {Q:Unit→Shared→Prop} (I:Jk X pins σ H s) (e:H a=some (.ins C dx fs)) (c:Cls X.K C) (n:ZM X.K C f) (hl:fs.length < 1000) (ry:JG y u)
  (h:∀ s',Jk X pins σ (upd H a (.ins C dx (Yb f y fs))) s'→Q () s'):wpAny (model X.prog X.w) A (setAttr (.ref a) f u) Q E s:=by
 obtain ⟨mA,O,r,wi,_,ho⟩:=JeO I.hok e;have hz:(fs.map (·.1)).length≤sizeLine:=by rw [List.length_map,sizeLine_eq]; omega
 refine Jm7 I.kIn O c.sa c.po n.taker c.hd wi hz fun h' O' sb=>h _ ?_
 have hd:∃ o,h'.get? dx=some o:=let ⟨o,_,_,e',_⟩:=O'.ns; ⟨o,e'⟩;refine I.write (x:=a) (e:=dx) (by rw [e]; exact True.intro) (.inr ho) (fun b q hb z=>(sb.2 b hb).trans z) hd ?_;refine ⟨by rw [Jq O.ne]; exact ho,?_,O.ne,O'.obj,_,O'.ns,fun g=>?_,fun g hg=>?_⟩
 ·have:=Je2 f y fs; omega
 ·show Z2 ((Yb f y fs).lookup g) (if g=f then some u else mA g);rw [Je0];by_cases q:g=f
  ·rw [if_pos q,if_pos q]; exact ry
  ·rw [if_neg q,if_neg q]; exact r g
 ·by_cases q:g=f
  ·rw [q]; exact (Jej f y fs).1
  ·refine (Jej f y fs).2 g (wi g fun z=>hg ?_);show (if g=f then some u else mA g)=none;rw [if_neg q]; exact z
theorem Jk.made (I:Jk X pins σ H s):Jk X pins σ (upd (upd H s.heap.objs.size (.own (s.heap.objs.size + 1))) (s.heap.objs.size + 1) (.ins C s.heap.objs.size []))
  { s with heap:=(s.heap.push PySem.W.emptyDict).push (PySem.W.instObj C s.heap.objs.size) }:=by
 have e1:(s.heap.push PySem.W.emptyDict).get? s.heap.objs.size=some PySem.W.emptyDict:=Heap.get?_push_size s.heap rfl;have e2:((s.heap.push PySem.W.emptyDict).push (PySem.W.instObj C s.heap.objs.size)).get? (s.heap.objs.size + 1)=some (PySem.W.instObj C s.heap.objs.size):=by
  have:=Heap.get?_push_size (s.heap.push PySem.W.emptyDict) (o:=PySem.W.instObj C s.heap.objs.size) rfl;rwa [Heap.size_push] at this
 have e3:(s.heap.push PySem.W.emptyDict).Ns s.heap.objs.size (fun _=>none):=⟨PySem.W.emptyDict,#[],_,e1,rfl,(fun e he=>absurd he (by simp)),fun _=>rfl⟩
 have I1:=I.laid (a:=s.heap.objs.size) (o:=.own (s.heap.objs.size + 1)) (h':=s.heap.push PySem.W.emptyDict) (t':=s.toks) (fun b u q=>Heap.get?_push_of_some _ q) (Nat.le_refl _) ⟨_,e1⟩;refine I1.laid (a:=s.heap.objs.size + 1) (o:=.ins C s.heap.objs.size []) (t':=s.toks) (fun b u q=>Heap.get?_push_of_some _ q) (Nat.le_of_eq (Heap.size_push _ _)) ?_;have ne:s.heap.objs.size≠s.heap.objs.size + 1:=Nat.ne_of_lt (Nat.lt_succ_self _);refine ⟨by rw [Jq ne,Jf],Nat.zero_le _,ne,e2,fun _=>none,(Heap.Ns1.of_empty e3).at fun o q=>Heap.get?_push_of_some _ q,fun _=>True.intro,fun y hy=>absurd rfl hy⟩
theorem Jny {prog:Program} {w:World} {env:Env} {e:Expr} {f:Str} {pos:Pos} {s:Shared} {Q:Value→Shared→Prop} (hb:attributeBase e f env (eval e env)=eval e env)
  (h:wpAny (model prog w) A (eval e env) (fun o s₁=>wpAny (model prog w) A (getAttr o f true) Q E s₁) E s):wpAny (model prog w) A (eval (.Attribute e f pos) env) Q E s :=
 Attribute_any_ h (by rw [arm_eval_Attribute,hb])
end
def Jpt (K:PySem.W.Frag) (ta:TE) (f:Str):TE:=fun σ H Q=>ta σ H fun x H1=>∃ a C dx fs v,x=.ref a∧H1 a=some (.ins C dx fs)∧Cls K C∧ZM K C f∧fs.lookup f=some v∧Q v H1
def Jpv (K:PySem.W.Frag) (ta tv:TE) (f:Str):TS:=fun D σ H=>tv σ H fun y H1=>ta σ H1 fun x H2=>∃ a C dx fs,x=.ref a∧H2 a=some (.ins C dx fs)∧Cls K C∧ZM K C f∧fs.length < 1000 ∧
 D.nx σ (upd H2 a (.ins C dx (Yb f y fs)))
section
variable {X:Cx} {o e value:Expr} {f:Str} {pos pos' tpos:Pos} {ta tv:TE}
theorem Yk (he:PE X e ta) (hb:attributeBase e f X.env (eval e X.env)=eval e X.env):PE X (.Attribute e f pos) (Jpt X.K ta f):=by
 intro pins s σ H Q I h;refine Jny hb (JJ (he pins s σ H _ I h) fun u s1 ⟨x,H1,I1,rx,a,C,dx,fs,v,ex,ea,c,n,l,q⟩=>?_);subst ex;obtain rfl:u=Value.ref a:=rx;exact JjU I1 ea c n l fun u' s2 I2 ru=>⟨v,H1,I2,ru,q⟩
theorem JcP (ha:PE X o ta) (hv:PE X value tv) (hs:swapsWith value (some (.Attribute o f pos')) pos.line X.env=pure false):PS X (.Assign [.Attribute o f pos'] value pos) (Jpv X.K ta tv f):=by
 intro pins s σ H D I h;refine plainObj_wpAny_Assign_Attribute (JJ (hv pins s σ H _ I h) fun u s1 ⟨y,H1,I1,ry,q⟩=>JJ (ha pins s1 σ H1 _ I1 q) fun ov s2 ⟨x,H2,I2,rx,a,C,dx,fs,ex,ea,c,n,l,q2⟩=>?_) hs;subst ex;obtain rfl:ov=Value.ref a:=rx;exact Jjz I2 ea c n l ry fun s3 I3=>⟨σ,_,I3,q2⟩
end
section
variable {X:Cx} {pins:List (Addr×Obj)} {σ:St} {H:Hp} {s:Shared} {A:Around} {E:Value→Shared→Prop} {Q:Value→Shared→Prop} {c:Value} {b:Bool}
inductive JbI (K:PySem.W.Frag) (H:Hp):V→Value→Prop where
 | non:JbI K H .non (.type "NoneType")
 | bl (x:Bool):JbI K H (.bl x) (.type "bool")
 | int (i:Int):JbI K H (.int i) (.type "int")
 | str (x:Str):JbI K H (.str x) (.type "str")
 | flt (x:UInt64):JbI K H (.flt x) (.type "float")
 | lst {a:Addr} {xs:List V} (e:H a=some (.lst xs)):JbI K H (.ref a) (.type "list")
 | frz {a:Addr} {o:Obj} {xs:List V} (e:H a=some (.frz o (.lst xs))):JbI K H (.ref a) (.type "list")
 | tup {a:Addr} {xs:List V} (e:H a=some (.tup xs)):JbI K H (.ref a) (.type "tuple")
 | dK {a:Addr} {kvs:List (JO×V)} (e:H a=some (.dK kvs)):JbI K H (.ref a) (.type "dict")
 | dT {a:Addr} {kvs:List (List JO×V)} (e:H a=some (.dT kvs)):JbI K H (.ref a) (.type "dict")
 | ins {a C dx:Addr} {fs:List (Str×V)} (e:H a=some (.ins C dx fs)) (cl:Cls K C) (ha:PySem.W.findIn K (.ref C) "__class__" = some (some (.builtin "object.__class__")))
   (hn:PySem.W.specialIn K (.builtin "object.__class__") "__get__" = some (some (.builtin "getset_descriptor.__get__"))) (htk:PySem.W.takesIn K (.builtin "object.__class__")=some true)
   (hm:PySem.W.mroIn K C (.type "object")=some true):JbI K H (.ref a) (.ref C)
theorem JkT {x:V} {u t:Value} (I:Jk X pins σ H s) (rx:JG x u) (ty:JbI X.K H x t) (e:PySem.W.kitOne X.K t c=some b) (h:∀ tk,Q (.bool b) { s with toks:=tk }) :
  wpAny (model X.prog X.w) A (call (.builtin "isinstance") [u,c]) Q E s:=by
 cases ty with
 | non=>cases (show u=Value.none from rx); exact PySem.W.kia_one PySem.W.kitx_none I.kIn True.intro e (fun z=>nomatch z) h
 | bl y=>cases (show u=Value.bool y from rx); exact PySem.W.kia_one PySem.W.kitx_bool I.kIn True.intro e (fun z=>nomatch z) h
 | int i=>obtain ⟨t,q⟩:=(show ∃ t,u=Value.int i t from rx); cases q; exact PySem.W.kia_one PySem.W.kitx_int I.kIn True.intro e (fun z=>nomatch z) h
 | str y=>obtain ⟨t,q⟩:=(show ∃ t,u=Value.str y t from rx); cases q; exact PySem.W.kia_one PySem.W.kitx_str I.kIn True.intro e (fun z=>nomatch z) h
 | flt y=>obtain ⟨t,q⟩:=(show ∃ t,u=Value.float y t from rx); cases q; exact PySem.W.kia_one PySem.W.kitx_float I.kIn True.intro e (fun z=>nomatch z) h
 | @lst a xs ea =>
  cases (show u=Value.ref a from rx);obtain ⟨_,_,n,_,h1⟩:=(show J9 X.prog X.w H s.heap a (.lst xs) from I.hok a _ ea)
  exact PySem.W.kia_one PySem.W.kitx_list I.kIn ⟨_,h1,rfl⟩ e (fun z=>nomatch z) h
 | @frz a ob xs ea =>
  cases (show u=Value.ref a from rx);obtain ⟨_,_,_,n,_,h1⟩:=(show J9 X.prog X.w H s.heap a (.frz ob (.lst xs)) from I.hok a _ ea)
  exact PySem.W.kia_one PySem.W.kitx_list I.kIn ⟨_,h1,rfl⟩ e (fun z=>nomatch z) h
 | @tup a xs ea =>
  cases (show u=Value.ref a from rx);obtain ⟨_,_,_,p⟩:=(show J9 X.prog X.w H s.heap a (.tup xs) from I.hok a _ ea)
  obtain ⟨o,h1,h2,_⟩:=p;exact PySem.W.kia_one PySem.W.kitx_tuple I.kIn ⟨o,h1,h2⟩ e (fun z=>nomatch z) h
 | @dK a kvs ea =>
  cases (show u=Value.ref a from rx);obtain ⟨_,_,vs,_,p⟩:=(show J9 X.prog X.w H s.heap a (.dK kvs) from I.hok a _ ea)
  obtain ⟨o,es,ep,h1,h2,_⟩:=p;exact PySem.W.kia_one PySem.W.kitx_dict I.kIn ⟨o,h1,h2.1⟩ e (fun z=>nomatch z) h
 | @dT a kvs ea =>
  cases (show u=Value.ref a from rx);obtain ⟨_,_,xs,_,o,es,ep,h1,h2,_⟩:=(show J9 X.prog X.w H s.heap a (.dT kvs) from I.hok a _ ea)
  exact PySem.W.kia_one PySem.W.kitx_dict I.kIn ⟨o,h1,h2.1⟩ e (fun z=>nomatch z) h
 | @ins a C dx fs ea cl ha hn htk hm =>
  cases (show u=Value.ref a from rx);obtain ⟨mA,O,_⟩:=JeO I.hok ea;obtain ⟨od,J,_⟩:=O.look;exact PySem.W.kia_one (PySem.W.kitx_own (cl.get _) cl.hd ha hn htk hm) I.kIn J e (fun z=>nomatch z) h
end
end L2
namespace L2
open PySem PySem.Spec PyProof.Rows
structure YD (k:Nat) (A:Around):Prop where
 hd:A.handled=none
 dp:A.depth + 3 * k + 5 < recursionLimit
 un:A.units + 16 * k + 200 < cLine
theorem YD.mono {j k:Nat} {A:Around} (r:YD k A) (h:j≤k):YD j A:=⟨r.hd,by have:=r.dp; omega,by have:=r.un; omega⟩
theorem YD.deeper {k:Nat} {A:Around} (r:YD (k + 1) A) (env:Env):YD k (A.deeper env) :=
 ⟨r.hd,by have:=r.dp; show A.depth + 1 + 3 * k + 5 < _; omega,by have:=r.un; show A.units + 3 + 16 * k + 200 < _; omega⟩
theorem YD.in1 {k:Nat} {A:Around} (r:YD (k + 1) A):YD k A.in1 :=
 ⟨r.hd,by have:=r.dp; show A.depth + 3 * k + 5 < _; omega,by have:=r.un; show A.units + 1 + 16 * k + 200 < _; omega⟩
theorem JjR {A:Around} {C:Addr} {us:List Value} {kw:List (Str×Value)}:(A.under (.builtin "type.__call__" ⟨.ref C :: us,kw⟩)).depth=A.depth + 1:=by
 first | rfl | simp [Around.under,Code.weight,Code.isCreation,Code.isGuard,Code.isCaller,Code.frames,Code.isFrame,guardIds]
theorem JjQ {A:Around} {C:Addr} {us:List Value} {kw:List (Str×Value)}:(A.under (.builtin "type.__call__" ⟨.ref C :: us,kw⟩)).units=A.units + 1:=by
 first | rfl | simp [Around.under,Code.cUnits,Code.frames,Code.isFrame]
theorem YD.make {k:Nat} {A:Around} (r:YD (k + 1) A) (C:Addr) (us:List Value) (kw:List (Str×Value)):YD k (A.under (.builtin "type.__call__" ⟨.ref C :: us,kw⟩)) :=
 ⟨r.hd,by have:=r.dp; rw [JjR]; omega,by have:=r.un; rw [JjQ]; omega⟩
theorem YD.depth {k:Nat} {A:Around} (r:YD k A):A.depth < recursionLimit:=by have:=r.dp; omega
theorem YD.units {k:Nat} {A:Around} (r:YD k A):A.units + 64 < cLine:=by have:=r.un; omega
theorem YD.units0 {k:Nat} {A:Around} (r:YD k A):A.units < cLine:=by have:=r.un; omega
def Jpn:TA:=fun _ H Q=>Q [] H
def JoI (ta:TE) (tr:TA):TA:=fun σ H Q=>ta σ H fun x H1=>tr σ H1 fun xs H2=>Q (x :: xs) H2
section
variable {X:Cx} {e:Expr} {es:List Expr} {te:TE} {t:TA} {pos:Pos}
theorem Jc:PA X [] Jpn:=fun _ _ _ _ H Q I h=>Calls.spliced_nil ⟨[],H,I,.nil,h⟩
theorem Ja (ha:PE X e te) (hr:PA X es t) (hs:starEach (e :: es) X.env=(false,eval e X.env) :: starEach es X.env:=by rfl):PA X (e :: es) (JoI te t):=by
 intro pos pins s σ H Q I h;rw [hs];show wpAny _ _ (spliced ((false,eval e X.env) :: backTo pos (starEach es X.env))) _ _ s;refine Calls.spliced_cons (JJ (ha pins s σ H _ I h) fun u s1 ⟨x,H1,I1,r1,q1⟩=>?_);exact JJ (hr pos pins s1 σ H1 _ I1 q1) fun us s2 ⟨xs,H2,I2,r2,q2⟩=>⟨x :: xs,H2,I2,.cons r1 r2,q2⟩
def Jpj (t:TA):TE:=fun σ H Q=>t σ H fun xs H1=>xs.length≤sizeLine∧∀ p,H1 p=none→Q (.ref p) (upd H1 p (.tup xs))
def Jpp (t:TA):TE:=fun σ H Q=>t σ H fun xs H1=>xs.length≤sizeLine∧∀ p,H1 p=none→Q (.ref p) (upd H1 p (.lst xs))
theorem YX {x1} (h:PA X es t):PE X (.Tuple es x1 pos) (Jpj t):=by
 intro pins s σ H Q I hq;refine wpAny_Tuple_spliced (JJ (h pos pins s σ H _ I hq) fun us s1 ⟨xs,H1,I1,r,z,q⟩=>⟨by rw [← r.length]; exact z,?_⟩);have hf:H1 s1.heap.objs.size=none:=I1.hok.fresh (Nat.le_refl _);refine ⟨.ref s1.heap.objs.size,upd H1 s1.heap.objs.size (.tup xs),I1.laid (t':=s1.toks) (fun b u e=>Heap.get?_push_of_some _ e) (Nat.le_refl _) ?_,rfl,q _ hf⟩;exact ⟨z,us,r,⟨_,Heap.get?_push_size _ rfl,rfl,_,rfl⟩⟩
theorem Ye (h:PA X es t):PE X (.List es pos) (Jpp t):=by
 intro pins s σ H Q I hq;refine wpAny_List_spliced (JJ (h pos pins s σ H _ I hq) fun us s1 ⟨xs,H1,I1,r,z,q⟩=>⟨by rw [← r.length]; exact z,?_⟩);have hf:H1 s1.heap.objs.size=none:=I1.hok.fresh (Nat.le_refl _);refine ⟨.ref s1.heap.objs.size,upd H1 s1.heap.objs.size (.lst xs),I1.laid (t':=s1.toks) (fun b u e=>Heap.get?_push_of_some _ e) (Nat.le_refl _) ?_,rfl,q _ hf⟩;exact ⟨z,us,0,r,Heap.get?_push_size _ rfl⟩
end
abbrev Sp:=List V→Hp→VK→XK→Prop
abbrev CXT:=List Env→Hp→Shared→XK→Value→Shared→Prop
structure Jdp (P:Program) (w:World) (K:PySem.W.Frag) (mg:Str→Option Value) (base:Heap) (A:Around) (outer:List Env) (s:Shared) (H:Hp):Prop where
 frames:A.frames=some outer
 mod:Mod K mg base
 bs:∀ b o,base.get? b=some o→s.heap.get? b=some o∧H b=none
 bsz:base.objs.size≤s.heap.objs.size
 funs:s.heap.FunFrames base outer
 frf:∀ b∈Zn outer,H b=none
 hok:Zo P w H s.heap
 bare:AllBare s.gens
def CE (outer:List Env) (P:Program) (w:World) (H:Hp) (s:Shared) (Q:VK) (u:Value) (s':Shared):Prop :=
 ∃ v H',s'.os=s.os∧AllBare s'.gens∧Un (Zn outer) [] H H' s.heap s'.heap∧Zo P w H' s'.heap∧JG v u∧Q v H'
def CR (CX:CXT) (outer:List Env) (P:Program) (w:World) (H:Hp) (s:Shared) (Q:VK) (E:XK) (r:Result) (s':Shared):Prop :=
 match r with
 | .ok (.ret u)=>CE outer P w H s Q u s'
 | .ok _=>False
 | .error e=>CX outer H s E e s'
structure JM (P:Program) (w:World) (K:PySem.W.Frag) (mg:Str→Option Value) (base:Heap) (CX:CXT) (k:Nat) (f:Addr) (fd:FuncData) (ps:List Str) (sp:Sp):Prop where
 len:∀ vs H Q E,sp vs H Q E→vs.length=ps.length
 run:∀ (A:Around) (outer:List Env) (s:Shared) (H:Hp) (args:Args) (us:List Value) (vs:List V) (Q:VK) (E:XK),YD k A→Jdp P w K mg base A outer s H→BindsTo s fd args (ps.zip us)→Jw vs us→sp vs H Q E →
  codeAny (model P w) A (.call (.ref f) args) (CR CX outer P w H s Q E) s
theorem JM.mono {P:Program} {w:World} {K:PySem.W.Frag} {mg:Str→Option Value} {base:Heap} {CX:CXT} {j k:Nat} {f:Addr} {fd:FuncData} {ps:List Str} {sp:Sp} (F:JM P w K mg base CX j f fd ps sp) (h:j≤k) :
  JM P w K mg base CX k f fd ps sp:=⟨F.len,fun A outer s H args us vs Q E hr=>F.run A outer s H args us vs Q E (hr.mono h)⟩
theorem JM.imp {P:Program} {w:World} {K:PySem.W.Frag} {mg:Str→Option Value} {base:Heap} {CX:CXT} {k:Nat} {f:Addr} {fd:FuncData} {ps:List Str} {sp sp':Sp} (F:JM P w K mg base CX k f fd ps sp)
  (h:∀ vs H Q E,sp' vs H Q E→sp vs H Q E):JM P w K mg base CX k f fd ps sp' :=
 ⟨fun vs H Q E q=>F.len vs H Q E (h _ _ _ _ q),fun A outer s H args us vs Q E hr he hb hv hs=>F.run A outer s H args us vs Q E hr he hb hv (h _ _ _ _ hs)⟩
theorem Jdp.make {P:Program} {w:World} {K:PySem.W.Frag} {mg:Str→Option Value} {base:Heap} {A:Around} {outer:List Env} {s:Shared} {H:Hp} (e:Jdp P w K mg base A outer s H) (C:Addr) (us:List Value) (kw:List (Str×Value)) :
  Jdp P w K mg base (A.under (.builtin "type.__call__" ⟨.ref C :: us,kw⟩)) outer s H:=⟨by first | exact e.frames | (simpa [Around.under,Code.envs,Code.isFrame,pushEnvs] using e.frames),e.mod,e.bs,e.bsz,e.funs,e.frf,e.hok,e.bare⟩
theorem Jdp.in1 {P:Program} {w:World} {K:PySem.W.Frag} {mg:Str→Option Value} {base:Heap} {A:Around} {outer:List Env} {s:Shared} {H:Hp} (e:Jdp P w K mg base A outer s H) :
  Jdp P w K mg base A.in1 outer s H:=⟨e.frames,e.mod,e.bs,e.bsz,e.funs,e.frf,e.hok,e.bare⟩
section
variable {X:Cx} {pins:List (Addr×Obj)} {σ:St} {H:Hp} {s s':Shared}
theorem Jk.env0 (I:Jk X pins σ H s):Jdp X.prog X.w X.K X.mg X.base X.A X.stack s H :=
 ⟨I.ok.frames,I.ok.mod,I.bs,Nat.le_trans I.ok.bsz I.sz,I.stack,I.stkFree,I.hok,I.bare⟩
theorem Jk.after {Q:VK} {u:Value} (I:Jk X pins σ H s) (h:CE X.stack X.prog X.w H s Q u s'):EP X pins σ Q u s':=by
 obtain ⟨v,H',os,bare,un,hok,r,q⟩:=h;obtain ⟨hh,g,d,t,os'⟩:=s';obtain rfl:os'=s.os:=os;exact ⟨v,H',I.call (h':=hh) (g':=g) (d':=d) (t':=t) (ch:=[]) un hok bare (fun b z=>absurd z (by simp)),r,q⟩
end
def JmH (sp:Sp) (dvs:List V) (E:XK) (t:TA):TE:=fun σ H Q=>t σ H fun vs H1=>sp (vs ++ dvs) H1 Q E
def JoE (C:Addr) (m:Str) (sp:Sp) (dvs:List V) (E:XK) (ta:TE) (t:TA):TE:=fun σ H Q=>ta σ H fun x H1=>∃ a dx fs,x=.ref a∧H1 a=some (.ins C dx fs)∧fs.lookup m=none ∧
 t σ H1 fun vs H2=>sp (x :: (vs ++ dvs)) H2 Q E
def JoF (C:Addr) (sp:Sp) (dvs:List V) (E:XK) (t:TA):TE:=fun σ H Q=>t σ H fun vs H1=>∀ x dx,H1 x=none→H1 dx=none→dx≠x →
 sp (.ref x :: (vs ++ dvs)) (upd (upd H1 dx (.own x)) x (.ins C dx [])) (fun v H2=>v=.non∧Q (.ref x) H2) E
def JbS (K:PySem.W.Frag) (fd:FuncData) (ps:List Str) (ds:List Value):Prop :=
 ∀ (s:Shared) (us:List Value),K.In s.heap→(us ++ ds).length=ps.length→BindsTo s fd ⟨us,[]⟩ (ps.zip (us ++ ds))
theorem JbS.all {K:PySem.W.Frag} {fd:FuncData} {ps:List Str} (h:∀ us:List Value,us.length=ps.length→bindArgs fd ⟨us,[]⟩=pure (ps.zip us)):JbS K fd ps []:=fun s us _ hl=>by
 rw [List.append_nil] at hl ⊢;exact .of_eq (h us hl)
def Jbj (CX:CXT) (X:Cx) (E:XK):Prop:=∀ (pins:List (Addr×Obj)) (σ:St) (H:Hp) (s:Shared) (e:Value) (s':Shared),Jk X pins σ H s→CX X.stack H s E e s'→X.xe e s'
section
variable {X:Cx} {CX:CXT} {k:Nat} {f C:Addr} {fd:FuncData} {ps:List Str} {sp:Sp} {dvs:List V} {ds:List Value} {E:XK} {x m:Str} {p pos apos:Pos} {e o:Expr} {es:List Expr} {ta:TE} {t:TA}
theorem Jku {pins:List (Addr×Obj)} {σ:St} {H:Hp} {s:Shared} {Q:VK} {us:List Value} {vs:List V} (F:JM X.prog X.w X.K X.mg X.base CX k f fd ps sp) (hr:YD k X.A) (hb:JbS X.K fd ps ds) (hd:Jw dvs ds) (hx:Jbj CX X E)
  (I:Jk X pins σ H s) (r:Jw vs us) (h:sp (vs ++ dvs) H Q E):wpAny (model X.prog X.w) X.A (call (.ref f) us) (EP X pins σ Q) X.xe s:=by
 have r2:Jw (vs ++ dvs) (us ++ ds):=r.append hd;have hl:(us ++ ds).length=ps.length:=by rw [← r2.length]; exact F.len _ _ _ _ h
 refine wpAny_call (codeAny_mono (F.run X.A X.stack s H ⟨us,[]⟩ (us ++ ds) (vs ++ dvs) Q E hr I.env0 (hb s us I.kIn hl) r2 h) fun r s' hq=>?_);cases r with
 | error e=>exact hx pins σ H s e s' I hq
 | ok fl =>
  cases fl with
  | ret u=>exact I.after hq
  | next=>exact False.elim hq
  | brk=>exact False.elim hq
  | cont=>exact False.elim hq
theorem Jnc (F:JM X.prog X.w X.K X.mg X.base CX k f fd ps sp) (hr:YD k X.A) (hg:Gl X x) (hm:X.mg x=some (.ref f)) (hk:PySem.W.keepIn X.K (.ref f)=true) (hb:JbS X.K fd ps ds) (hd:Jw dvs ds) (hx:Jbj CX X E)
  (ha:PA X (e :: es) t) (hdb:(x == ("__debug__" : Str))=false:=by decide) (he:starEach (e :: es) X.env=(false,eval e X.env) :: starEach es X.env:=by rfl) (hpl:(backTo pos (starEach es X.env)).any (·.1)=false:=by rfl) :
  PE X (.Call (.Name x p) (e :: es) [] pos) (JmH sp dvs E t):=by
 intro pins s σ H Q I h;refine wpAny_Call_Name_kw (JeM I hg hm ?_ hdb);refine PySem.W.callWith_K (h₀:=X.base) I.ok.mod.kin hk (JJ (ha pos pins s σ H _ I h) fun us s1 ⟨vs,H1,I1,r,q⟩=>⟨I1.kIn,?_⟩) he hpl;exact Jku F hr hb hd hx I1 r q
theorem JV {pl:Sem Bool} (he:PE X o ta) (c:Cls X.K C) (hm:JmB X.K C m f) (F:JM X.prog X.w X.K X.mg X.base CX k f fd ps sp) (hr:YD k X.A) (hb:JbS X.K fd ps ds) (hd:Jw dvs ds) (hx:Jbj CX X E) (ha:PA X (e :: es) t)
  (hst:starEach (e :: es) X.env=(false,eval e X.env) :: starEach es X.env:=by rfl) (hpl:(backTo pos (starEach es X.env)).any (·.1)=false:=by rfl)
  (ht:eval (.Call (.Attribute o m apos) (e :: es) [] pos) X.env=(do
   let ov ← eval o X.env
   standAt apos.atName
   let (f,first) ← holding [ov] (getMethod ov m pl)
   callWith pos f first (backTo pos (starEach (e :: es) X.env)) (backToKw pos (keywordEach [] X.env))):=by rfl) :
  PE X (.Call (.Attribute o m apos) (e :: es) [] pos) (JoE C m sp dvs E ta t):=by
 intro pins s σ H Q I h;refine PySem.W.methodCall_KW (pl:=pl) (JJ (he pins s σ H _ I h) fun u s1 ⟨x,H1,I1,rx,a,dx,fs,ex,ea,l,q⟩=>?_) ht;subst ex;obtain rfl:u=Value.ref a:=rx;refine JjT I1 ea c hm l ?_;refine PySem.W.callWith_K (first:=[.ref a]) (h₀:=X.base) I.ok.mod.kin hm.kp (JJ (ha pos pins s1 σ H1 _ I1 q) fun us s2 ⟨vs,H2,I2,r,q2⟩=>⟨I2.kIn,?_⟩) hst hpl;exact Jku (us:=.ref a :: us) (vs:=.ref a :: vs) F hr hb hd hx I2 (.cons rfl r) q2
structure Mk (K:PySem.W.Frag) (C f:Addr):Prop where
 makes:PySem.W.makesIn K C=true
 init:PySem.W.findIn K (.ref C) "__init__" = some (some (.ref f))
 fn:PySem.W.isFn K (.ref f)=true
 kp:PySem.W.keepIn K (.ref C)=true
theorem JlY {pins:List (Addr×Obj)} {σ:St} {H:Hp} {s:Shared} {Q:VK} {us:List Value} {vs:List V} (M:Mk X.K C f) (F:JM X.prog X.w X.K X.mg X.base CX k f fd ps sp) (hr:YD (k + 1) X.A) (hb:JbS X.K fd ps ds) (hd:Jw dvs ds)
  (hx:Jbj CX X E) (I:Jk X pins σ H s) (r:Jw vs us)
  (h:∀ x dx,H x=none→H dx=none→dx≠x→sp (.ref x :: (vs ++ dvs)) (upd (upd H dx (.own x)) x (.ins C dx [])) (fun v H2=>v=.non∧Q (.ref x) H2) E) :
  wpAny (model X.prog X.w) X.A (call (.ref C) us) (EP X pins σ Q) X.xe s:=by
 have hq:=h (s.heap.objs.size + 1) s.heap.objs.size (I.hok.fresh (Nat.le_succ _)) (I.hok.fresh (Nat.le_refl _)) (Nat.ne_of_lt (Nat.lt_succ_self _));have I2:=Jk.made (C:=C) I;have r2:Jw (V.ref (s.heap.objs.size + 1) :: (vs ++ dvs)) (Value.ref (s.heap.objs.size + 1) :: (us ++ ds)):=.cons rfl (r.append hd);have hl:(Value.ref (s.heap.objs.size + 1) :: us ++ ds).length=ps.length:=by
  have e:=r2.length;rw [F.len _ _ _ _ hq] at e;exact e.symm
 refine wpAny_call (Jmf (f:=f) I.kIn M.makes M.init (beq_iff_eq.mp M.fn) (codeAny_mono (F.run _ X.stack _ _ ⟨Value.ref (s.heap.objs.size + 1) :: us,[]⟩ (Value.ref (s.heap.objs.size + 1) :: (us ++ ds)) _ _ E (hr.make C us [])
  (I2.env0.make C us []) (hb _ (Value.ref (s.heap.objs.size + 1) :: us) I2.kIn hl) r2 hq) fun r s' hq'=>?_))
 cases r with
 | error e=>exact hx pins σ _ _ e s' I2 hq'
 | ok fl =>
  cases fl with
  | ret u =>
   obtain ⟨v,H',I3,rv,ev,q3⟩:=I2.after hq';subst ev;exact ⟨rv,⟨V.ref (s.heap.objs.size + 1),H',I3,rfl,q3⟩⟩
  | next=>exact False.elim hq'
  | brk=>exact False.elim hq'
  | cont=>exact False.elim hq'
theorem Ji3 (M:Mk X.K C f) (F:JM X.prog X.w X.K X.mg X.base CX k f fd ps sp) (hr:YD (k + 1) X.A) (hg:Gl X x) (hm:X.mg x=some (.ref C)) (hb:JbS X.K fd ps ds) (hd:Jw dvs ds) (hx:Jbj CX X E)
  (ha:PA X (e :: es) t) (hdb:(x == ("__debug__" : Str))=false:=by decide) (he:starEach (e :: es) X.env=(false,eval e X.env) :: starEach es X.env:=by rfl) (hpl:(backTo pos (starEach es X.env)).any (·.1)=false:=by rfl) :
  PE X (.Call (.Name x p) (e :: es) [] pos) (JoF C sp dvs E t):=by
 intro pins s σ H Q I h;refine wpAny_Call_Name_kw (JeM I hg hm ?_ hdb);refine PySem.W.callWith_K (h₀:=X.base) I.ok.mod.kin M.kp (JJ (ha pos pins s σ H _ I h) fun us s1 ⟨vs,H1,I1,r,q⟩=>⟨I1.kIn,?_⟩) he hpl;exact JlY M F hr hb hd hx I1 r q
end
structure Jx (N P:List Str) (sc:Scope):Prop where
 kind:sc.kind=.function
 co:sc.isCoroutine=false
 gen:sc.isGenerator=false
 nd:N.Nodup
 pre:N.take P.length=P
 par:∀ x∈P,sc.names.lookup x=some .local∨sc.names.lookup x=some .cell
 nofree:∀ y∈sc.names,y.2≠.free
theorem Jhj {kindOf:Str→Option NameKind} {x:Str}:∀ {binds:List (Str×Value)} {m:Str→Option Value},(∀ v,(x,v)∉binds)→bindL kindOf binds m x=m x
 | [],_,_=>rfl
 | (n,v) :: r,m,h=>by
  unfold bindL;rw [Jhj fun w hw=>h w (List.mem_cons_of_mem _ hw)];split
  ·have:x≠n:=by rintro rfl; exact h v List.mem_cons_self
   simp [this]
  ·rfl
theorem Jhl {kindOf:Str→Option NameKind} {x:Str}:∀ {binds:List (Str×Value)} {m:Str→Option Value},(∀ v,(x,v)∉binds)→bindC kindOf binds m x=m x
 | [],_,_=>rfl
 | (n,v) :: r,m,h=>by
  unfold bindC;rw [Jhl fun w hw=>h w (List.mem_cons_of_mem _ hw)];split
  ·rfl
  ·have:x≠n:=by rintro rfl; exact h v List.mem_cons_self
   simp [this]
theorem Jhk {kindOf:Str→Option NameKind} {x:Str} {v:Value}:∀ {P:List Str} {vs:List Value} {i:Nat} {m:Str→Option Value},P.Nodup→P[i]?=some x→vs[i]?=some v→kindOf x=some .local →
  bindL kindOf (P.zip vs) m x=some v
 | [],_,_,_,_,h,_,_=>by simp at h
 | _ :: _,[],_,_,_,_,h,_=>by simp at h
 | p :: P,w :: vs,0,m,nd,h1,h2,hk=>by
  simp at h1 h2; subst h1; subst h2;show bindL kindOf ((p,w) :: P.zip vs) m p=_;unfold bindL;rw [Jhj fun v hv=>(List.nodup_cons.mp nd).1 (List.of_mem_zip hv).1,if_pos hk];simp
 | p :: P,w :: vs,i + 1,m,nd,h1,h2,hk=>by
  show bindL kindOf ((p,w) :: P.zip vs) m x=_;unfold bindL;exact Jhk (i:=i) (List.nodup_cons.mp nd).2 (by simpa using h1) (by simpa using h2) hk
theorem Jhm {kindOf:Str→Option NameKind} {x:Str} {v:Value}:∀ {P:List Str} {vs:List Value} {i:Nat} {m:Str→Option Value},P.Nodup→P[i]?=some x→vs[i]?=some v→kindOf x≠some .local →
  bindC kindOf (P.zip vs) m x=some v
 | [],_,_,_,_,h,_,_=>by simp at h
 | _ :: _,[],_,_,_,_,h,_=>by simp at h
 | p :: P,w :: vs,0,m,nd,h1,h2,hk=>by
  simp at h1 h2; subst h1; subst h2;show bindC kindOf ((p,w) :: P.zip vs) m p=_;unfold bindC;rw [Jhl fun v hv=>(List.nodup_cons.mp nd).1 (List.of_mem_zip hv).1,if_neg hk];simp
 | p :: P,w :: vs,i + 1,m,nd,h1,h2,hk=>by
  show bindC kindOf ((p,w) :: P.zip vs) m x=_;unfold bindC;exact Jhm (i:=i) (List.nodup_cons.mp nd).2 (by simpa using h1) (by simpa using h2) hk
def Yj (N:List Str) (vs:List V):St:=vs.map some ++ List.replicate (N.length - vs.length) none
def Zt (CX:CXT) (P:Program) (w:World) (K:PySem.W.Frag) (mg:Str→Option Value) (base:Heap) (N:List Str) (qual:Str) (scope:Scope) (f:Addr) (cd:Value) (A:Around) (outer:List Env) (s:Shared) (H:Hp) (E:XK):Cx where
 prog:=P
 w:=w
 K:=K
 mg:=mg
 base:=base
 A:=A.deeper (envOfC qual scope s.heap.objs.size f cd)
 N:=N
 s₀:=s
 H₀:=H
 env:=envOfC qual scope s.heap.objs.size f cd
 outer:=outer
 stack:=envOfC qual scope s.heap.objs.size f cd :: outer
 ex:=[]
 calm:=true
 fn:=fun _=>true
 pn:=[]
 xe:=fun e s'=>wpAny (model P w) (A.deeper (envOfC qual scope s.heap.objs.size f cd)) (leaving (envOfC qual scope s.heap.objs.size f cd) e) (fun _ s''=>CX outer H s E e s'') (fun e' s''=>CX outer H s E e' s'') s'
theorem JiA {sc:Scope} {n:Nat} {x:Str} (h:sc.names.lookup x=some .cell):∃ c,(cellsFrom n sc.names []).lookup x=some c:=by
 have q:=PySem.W.cellsFrom_some sc.names n [] (.inl h);exact Option.isSome_iff_exists.mp q
theorem JkU {CX:CXT} {P:Program} {w:World} {K:PySem.W.Frag} {mg:Str→Option Value} {base:Heap} {N ps:List Str} {qual:Str} {scope:Scope} {f:Addr} {cd:Value} {A:Around} {outer:List Env} {s s1:Shared} {H:Hp} {E:XK} {us:List Value} {vs:List V}
  (S:Jx N ps scope) (hd:A.handled=none) (e0:Jdp P w K mg base A outer s H) (hl:vs.length=ps.length) (r:Jw vs us)
  (x:InCallC s s.heap.objs.size (bindL (envOfC qual scope s.heap.objs.size f cd).kindOf (ps.zip us) fun _=>none) (cellsFrom (s.heap.objs.size + 1) scope.names []) (bindC (envOfC qual scope s.heap.objs.size f cd).kindOf (ps.zip us) fun _=>none) s1) :
  Jk (Zt CX P w K mg base N qual scope f cd A outer s H E) [] (Yj N vs) H s1:=by
 have hpl:ps.length≤N.length:=by have:=congrArg List.length S.pre; rw [List.length_take] at this; omega
 obtain ⟨h1,tk,rfl,hk⟩:=x.done;have noA:∀ b:Addr,b∉(Zt CX P w K mg base N qual scope f cd A outer s H E).ex:=fun b z=>absurd (show b∈([]:List Addr) from z) (by simp)
 refine ⟨⟨e0.mod,S.kind,rfl,rfl,Nat.le_refl _,fun y z c h1 h2=>?_,fun y hy=>?_,fun y c _ h=>?_,fun _=>hd,Around.frames_deeper e0.frames,.inr ⟨rfl,rfl⟩,fun b z=>absurd z (noA b),e0.bs,e0.bsz,fun b _ _=>noA b,fun b z=>absurd z (noA b),e0.funs,e0.frf⟩,
  rfl,e0.bare,Un.kept hk,⟨_,x.toInCall.ns,fun i y v h1 h2 h3=>?_⟩,fun y c h=>⟨_,x.cell y c h⟩,e0.hok.fresh (Nat.le_refl _),fun y c h=>?_,fun p hp=>absurd (show p∈([]:List (Addr×Obj)) from hp) (by simp),e0.hok.kept hk,?_⟩
 ·exact name_of_addr x.apart (PySem.mem_of_lookup h1) (PySem.mem_of_lookup h2)
 ·have hy:scope.names.lookup y=some .cell∨scope.names.lookup y=some .free:=hy;rcases hy with hy | hy
  ·exact JiA hy
  ·exact absurd rfl (S.nofree _ (PySem.mem_of_lookup hy))
 ·exact Nat.le_of_lt (x.above y c (PySem.mem_of_lookup h))
 ·have hi:i < vs.length:=by
   unfold Yj at h2;by_cases hi:i < vs.length
   ·exact hi
   ·rw [List.getElem?_append_right (by simpa using hi)] at h2;rw [List.getElem?_replicate] at h2;split at h2 <;> cases h2
  have ha:vs[i]?=some v:=by
   unfold Yj at h2;rw [List.getElem?_append_left (by simpa using hi),List.getElem?_map] at h2;cases e:vs[i]? with
   | none=>rw [e] at h2; cases h2
   | some a=>rw [e] at h2; cases h2; rfl
  obtain ⟨u,hu,rv⟩:=r.get ha;have hp:ps[i]?=some y:=by
   rw [← S.pre,List.getElem?_take_of_lt (by omega)]; exact h1
  have ndP:ps.Nodup:=by rw [← S.pre]; exact S.nd.sublist (List.take_sublist _ _)
  refine ⟨u,rv,?_⟩;rcases S.par y (List.mem_of_getElem? hp) with k | k
  ·exact .inl ⟨k,Jhk ndP hp hu k⟩
  ·obtain ⟨c,e⟩:=JiA (n:=s.heap.objs.size + 1) k;refine .inr ⟨.inl k,c,e,?_⟩;have q:=x.cell y c e;rw [Jhm ndP hp hu (by show scope.names.lookup y≠_; rw [k]; decide)] at q;exact q
 ·exact e0.hok.fresh (Nat.le_of_lt (x.above y c (PySem.mem_of_lookup h)))
 ·unfold Yj;show _=N.length;rw [List.length_append,List.length_map,List.length_replicate];omega
theorem JmO {CX:CXT} {P:Program} {w:World} {K:PySem.W.Frag} {mg:Str→Option Value} {base:Heap} {k:Nat} {f:Addr} {name qual:Str} {params:Arguments} {body:List Stmt} {scope:Scope} {dV kV doc pm cdv ct oc:Value} {an od:Option Addr}
  {osl:Array (Option Value)} {N ps:List Str} {sp:Sp} (lk:K.lookup f=some ⟨oc,od,.func (PySem.W.fnOf name qual params body scope dV kV doc pm an cdv ct),osl⟩) (hcd:PySem.W.codeIn K cdv qual=true) (S:Jx N ps scope)
  (len:∀ vs H Q E,sp vs H Q E→vs.length=ps.length)
  (hbody:∀ (A:Around) (outer:List Env) (s:Shared) (H:Hp) (vs:List V) (Q:VK) (E:XK),YD k (A.deeper (envOfC qual scope s.heap.objs.size f cdv))→sp vs H Q E →
   ∃ t,PSs (Zt CX P w K mg base N qual scope f cdv A outer s H E) body t∧t { nx:=fun _ H'=>Q .non H',rt:=Q } (Yj N vs) H) :
  JM P w K mg base CX (k + 1) f (PySem.W.fnOf name qual params body scope dV kV doc pm an cdv ct) ps sp:=by
 refine ⟨len,fun A outer s H args us vs Q E hr e0 hb r hsp=>?_⟩;have hl:=len _ _ _ _ hsp;have KX:K.In s.heap:=e0.mod.kin.keeps fun b o e=>(e0.bs b o e).1
 have lim:s.heap.NoLimit:=e0.mod.nolimit.keeps fun b o e=>(e0.bs b o e).1
 have hkind:∀ y∈ps.zip us,scope.names.lookup y.1=some .local∨(scope.names.lookup y.1=some .cell∧((cellsFrom (s.heap.objs.size + 1) scope.names []).lookup y.1).isSome=true):=fun ⟨n,v⟩ hy=>by
  rcases S.par n (List.of_mem_zip hy).1 with q | q
  ·exact .inl q
  ·exact .inr ⟨q,PySem.W.cellsFrom_some _ _ _ (.inl q)⟩
 refine codeAny_call_function hr.depth (KX _ _ lk) rfl S.co S.gen rfl (PySem.W.codeRec_of KX hcd) (hb _ _ _ _ ?_);refine wpAny_newFunctionEnv_cells S.kind hkind fun env he s1 x=>?_
 subst he;refine ⟨lim.keeps x.toInCall.keep,codeAny_func ?_⟩;obtain ⟨t,ht,hq⟩:=hbody A outer s H vs Q E (hr.deeper _) hsp;have I:Jk (Zt CX P w K mg base N qual scope f cdv A outer s H E) [] (Yj N vs) H s1:=JkU S hr.hd e0 hl r x;refine wpAny_mono (ht [] s1 (Yj N vs) H _ I hq) (fun fl s' hs=>?_) fun e s' hs=>hs
 have fin:∀ {σ':St} {H':Hp} {v:V} {u:Value},Jk (Zt CX P w K mg base N qual scope f cdv A outer s H E) [] σ' H' s'→JG v u→Q v H'→CE outer P w H s Q u s' :=
  fun {σ' H' v u} J rv q=>⟨v,H',J.os,J.bare,J.base,J.hok,rv,q⟩
 cases fl with
 | ret u =>
  obtain ⟨v,σ',H',J,rv,q⟩:=hs;exact fin J rv q
 | next =>
  obtain ⟨σ',H',J,q⟩:=hs;exact fin (v:=V.non) (u:=Value.none) J rfl q
 | brk =>
  obtain ⟨_,_,_,q⟩:=hs;exact False.elim q
 | cont =>
  obtain ⟨_,_,_,q⟩:=hs;exact False.elim q
end L2
namespace L2
open PySem PySem.Spec PyProof.Rows
section
variable {X:Cx} {x:Str} {p pos:Pos} {e:Expr} {es:List Expr} {t:TA} {id T:String} {r:List V→Hp→VK→Prop}
def tCB (r:List V→Hp→VK→Prop) (t:TA):TE:=fun σ H Q=>t σ H fun vs H1=>r vs H1 Q
theorem JI (hc:Zd X (.builtin id) r) (hg:Gl X x) (hm:X.mg x=none) (hv:bootBuiltins x=some (.builtin id)) (ha:PA X (e :: es) t) (hn:x ≠ "__name__":=by decide) (hdb:(x == ("__debug__" : Str))=false:=by decide)
  (he:starEach (e :: es) X.env=(false,eval e X.env) :: starEach es X.env:=by rfl) (hpl:(backTo pos (starEach es X.env)).any (·.1)=false:=by rfl):PE X (.Call (.Name x p) (e :: es) [] pos) (tCB r t):=by
 intro pins s σ H Q I h;refine wpAny_Call_Name_kw (Jei I hg hm hv ?_ hn hdb);exact PyProof.Rows.callWith_builtin1 (JJ (ha pos pins s σ H _ I h) fun us s1 ⟨vs,H1,I1,r1,q1⟩=>hc pins s1 σ H1 vs us Q I1 r1 q1) he hpl
theorem ZC (hc:Zd X (.type T) r) (hg:Gl X x) (hm:X.mg x=none) (hv:bootBuiltins x=some (.type T)) (ha:PA X (e :: es) t) (hn:x ≠ "__name__":=by decide) (hdb:(x == ("__debug__" : Str))=false:=by decide)
  (he:starEach (e :: es) X.env=(false,eval e X.env) :: starEach es X.env:=by rfl) (hpl:(backTo pos (starEach es X.env)).any (·.1)=false:=by rfl):PE X (.Call (.Name x p) (e :: es) [] pos) (tCB r t):=by
 intro pins s σ H Q I h;refine wpAny_Call_Name_kw (Jei I hg hm hv ?_ hn hdb);exact PyProof.Rows.callWith_type1 (JJ (ha pos pins s σ H _ I h) fun us s1 ⟨vs,H1,I1,r1,q1⟩=>hc pins s1 σ H1 vs us Q I1 r1 q1) he hpl
end
end L2
namespace HT
open PySem PyProof.Rows
section
variable {prog:Program} {w:World} {A:Around} {E:Value→Shared→Prop} {s:Shared}
def sIx (n d:Nat):Option Int→Nat
 | none=>d
 | some v=>if v < 0 then (v + (n:Int)).toNat else min v.toNat n
theorem JlX (n d:Nat):sIx n d none=d:=rfl
theorem JiX (n d k:Nat):sIx n d (some (k:Int))=min k n:=by
 show (if (k:Int) < 0 then ((k:Int) + (n:Int)).toNat else min (k:Int).toNat n)=min k n;rw [if_neg (by omega),Int.toNat_natCast]
end
end HT
namespace L2
open PySem PySem.Spec PyProof.Rows
abbrev TO:=St→Hp→(Option Int→Hp→Prop)→Prop
def PO (X:Cx) (e:Option Expr) (t:TO):Prop :=
 ∀ (pins:List (Addr×Obj)) (s:Shared) (σ:St) (H:Hp) (Q:Option Int→Hp→Prop),Jk X pins σ H s→t σ H Q →
  wpAny (model X.prog X.w) X.A (evalPart e X.env) (fun u s'=>∃ o H',Jk X pins σ H' s'∧IsPart u o∧Q o H') X.xe s
def JmX:TO:=fun _ H Q=>Q none H
def JoA (t:TE):TO:=fun σ H Q=>t σ H fun x H1=>∃ i,x=.int i∧Q (some i) H1
section
variable {X:Cx} {e:Expr} {te:TE} {lo hi:Option Expr} {tl th:TO} {pos p2:Pos}
theorem Ji2:PO X none JmX:=by
 intro pins s σ H Q I h;rw [evalPart_none];exact wpAny_pure ⟨none,H,I,.none,h⟩
theorem JeJ (h:PE X e te):PO X (some e) (JoA te):=by
 intro pins s σ H Q I hw;rw [evalPart_some];refine JJ (h pins s σ H _ I hw) fun u s1 ⟨x,H1,I1,r1,q1⟩=>?_
 obtain ⟨i,rfl,q⟩:=q1;obtain ⟨t,rfl⟩:=r1;exact ⟨some i,H1,I1,.int i t,q⟩
def SlR (X:Cx) (r:V→Option Int→Option Int→Hp→VK→Prop):Prop :=
 ∀ (pins:List (Addr×Obj)) (s:Shared) (σ:St) (H:Hp) (x:V) (v vl vu:Value) (lo hi:Option Int) (sl:Addr) (Q:VK),Jk X pins σ H s→JG x v→s.heap.IsSliceOf sl vl vu .none→IsPart vl lo→IsPart vu hi→r x lo hi H Q →
  ∃ T id,typeLookup (.type T) "__getitem__" = pure (some (.builtin id))∧s.TypeIs v T∧wpAny (model X.prog X.w) X.A (getItem v (.ref sl)) (EP X pins σ Q) X.xe s
def tSl (r:V→Option Int→Option Int→Hp→VK→Prop) (te:TE) (tl th:TO):TE:=fun σ H Q=>te σ H fun x H1=>tl σ H1 fun l H2=>th σ H2 fun u H3=>r x l u H3 Q
theorem Jfa {r:V→Option Int→Option Int→Hp→VK→Prop} (hr:SlR X r) (he:PE X e te) (hl:PO X lo tl) (hu:PO X hi th):PE X (.Subscript e (.Slice lo hi none p2) pos) (tSl r te tl th):=by
 intro pins s σ H Q I h;refine Subscript_ (JJ (he pins s σ H _ I h) fun v s1 ⟨x,H1,I1,r1,q1⟩=>?_);refine wpAny_Slice (JJ (hl pins s1 σ H1 _ I1 q1) fun vl s2 ⟨l,H2,I2,pl,q2⟩=>JJ (hu pins s2 σ H2 _ I2 q2) fun vu s3 ⟨u,H3,I3,pu,q3⟩=>?_);rw [evalPart_none];refine wpAny_pure ?_;have I4:Jk X pins σ H3 { s3 with heap:=s3.heap.push { cls:=.type "slice",data:=.fields #[vl,vu,.none] } }:=I3.kept (t':=s3.toks) fun b ob q=>Heap.get?_push_of_some _ q
 obtain ⟨T,id,hT,ht,hg⟩:=hr pins { s3 with heap:=s3.heap.push { cls:=.type "slice",data:=.fields #[vl,vu,.none] } } σ H3 x v vl vu l u s3.heap.objs.size Q I4 r1 (Heap.IsSliceOf.new ..) pl pu q3;show wpAny (model X.prog X.w) X.A (subscriptTail e (.Slice lo hi none p2) v (.ref s3.heap.objs.size)) (EP X pins σ Q) X.xe { s3 with heap:=s3.heap.push { cls:=.type "slice",data:=.fields #[vl,vu,.none] } };exact tail_any (ops:=[.ref s3.heap.objs.size,v]) ht hT hg (by with_unfolding_all rfl)
def JaK (xs:List V) (lo hi:Option Int):List V:=(xs.drop (HT.sIx xs.length 0 lo)).take (HT.sIx xs.length xs.length hi - HT.sIx xs.length 0 lo)
theorem JiS (xs:List V) (lo hi:Option Int):(JaK xs lo hi).length≤xs.length:=by
 unfold JaK;rw [List.length_take,List.length_drop];omega
end
end L2
namespace L2
open PySem PySem.Spec PyProof.Rows
def ixN (n:Nat) (i:Int):Option Nat:=if 0≤i then (if i < n then some i.toNat else none) else if -(n:Int)≤i then some (i + n).toNat else none
def atI {α:Type} (xs:List α) (i:Int):Option α:=(ixN xs.length i).bind fun j=>xs[j]?
theorem Ji7 {n:Nat} {i:Int} {j:Nat} (h:ixN n i=some j):seqIndex? i n=some j∧j < n∧-(n:Int)≤i∧i < n:=by
 unfold ixN at h;by_cases h0:0≤i
 ·rw [if_pos h0] at h;by_cases h1:i < n
  ·rw [if_pos h1] at h;have e:i.toNat=j:=Option.some.inj h;exact ⟨by rw [seqIndex_of h0 h1,e],by omega,by omega,h1⟩
  ·rw [if_neg h1] at h; cases h
 ·rw [if_neg h0] at h;by_cases h1:-(n:Int)≤i
  ·rw [if_pos h1] at h;have e:(i + n).toNat=j:=Option.some.inj h;exact ⟨by rw [seqIndex_neg (by omega) h1,e],by omega,h1,by omega⟩
  ·rw [if_neg h1] at h; cases h
theorem JgL {α:Type} {xs:List α} {i:Int} {v:α} (h:atI xs i=some v):∃ j,seqIndex? i xs.length=some j∧xs[j]?=some v∧j < xs.length∧-(xs.length:Int)≤i∧i < xs.length:=by
 unfold atI at h;cases e:ixN xs.length i with
 | none=>rw [e] at h; cases h
 | some j =>
  rw [e] at h;obtain ⟨h1,h2,h3,h4⟩:=Ji7 e;exact ⟨j,h1,h,h2,h3,h4⟩
theorem Ys {α:Type} {xs:List α} {j:Nat} {v:α} (h:xs[j]?=some v):atI xs (j:Int)=some v:=by
 have hj:j < xs.length:=(List.getElem?_eq_some_iff.mp h).1;have e:ixN xs.length (j:Int)=some j:=by
  unfold ixN;rw [if_pos (by omega),if_pos (by omega)]; simp
 unfold atI; rw [e]; exact h
def JnB (b:Expr):Prop:=∀ o i,subscripted b false o i=operate [o,i] (getItem o i)
def IxR (X:Cx) (r:R2):Prop :=
 ∀ (value slice:Expr) (pins:List (Addr×Obj)) (s:Shared) (σ:St) (H:Hp) (x y:V) (v u:Value) (Q:VK),Jk X pins σ H s→JG x v→JG y u→r x y H Q →
  subscripted slice false v u=operate [v,u] (getItem v u)→wpAny (model X.prog X.w) X.A (subscriptTail value slice v u) (EP X pins σ Q) X.xe s
def MtR (X:Cx) (id:String) (r:V→List V→Hp→VK→Prop):Prop :=
 ∀ (pins:List (Addr×Obj)) (s:Shared) (σ:St) (H:Hp) (x:V) (xs:List V) (v:Value) (us:List Value) (Q:VK),Jk X pins σ H s→JG x v→Jw xs us→r x xs H Q →
  wpAny (model X.prog X.w) X.A (call (.builtin id) (v :: us)) (EP X pins σ Q) X.xe s
section
variable {X:Cx} {a b:Expr} {ta tb:TE} {pos:Pos}
theorem JB {r:R2} (hr:IxR X r) (ha:PE X a ta) (hb:PE X b tb) (hs:JnB b):PE X (.Subscript a b pos) (tOp r ta tb):=by
 intro pins s σ H Q I h;exact Subscript_ (Jmu ha hb I h fun v u s2 x y H2 I2 rx ry q=>hr a b pins s2 σ H2 x y v u Q I2 rx ry q (hs _ _))
def Jbs (K:PySem.W.Frag):R2:=fun x y H Q=>∃ p xs i v,x=.ref p∧y=.int i∧Jo K H p xs∧atI xs i=some v∧Q v H
def JlZ (K:PySem.W.Frag):R2:=fun x y H Q=>∃ p xs i v,x=.ref p∧y=.int i∧JT K H p xs∧atI xs i=some v∧Q v H
def Jpy:R2:=fun x y H Q=>∃ z i c,x=.str z∧y=.int i∧z.length≤sizeLine∧atI z.cps.toList i=some c∧Q (.str ⟨#[c]⟩) H
theorem JF:IxR X (Jbs X.K):=by
 intro value slice pins s σ H x y v u Q I rx ry h hs;obtain ⟨p,xs,i,z,rfl,rfl,hq,he,q⟩:=h;cases rx;obtain ⟨t,rfl⟩:=ry;obtain ⟨its,r,pl,hz⟩:=I.list hq;obtain ⟨j,h1,h2,h3,h4,h5⟩:=JgL he;obtain ⟨w,ew,rw'⟩:=r.get h2;have hl:=r.length;have hn:=JdA;have fin:EP X pins σ Q w s:=⟨z,H,I,rw',q⟩
 by_cases h0:0≤i
 ·have hj:i.toNat=j:=by
   rw [seqIndex_of h0 h5] at h1;exact Option.some.inj h1
  exact item_listR pl.isList h0 (by omega) (by rw [hj]; simpa using ew) fin hs
 ·have hj:(i + (its.toArray.size:Int)).toNat=j:=by
   rw [seqIndex_neg (by omega) h4] at h1;rw [List.size_toArray,← hl];exact Option.some.inj h1
  exact subscriptTail_builtinR (x:=w) pl.isList.typeIs slot_list_getitem.lookup
   (wpAny_getItem_list_neg (Q:=fun r s'=>r=w∧EP X pins σ Q r s') pl.isList (by omega) (by rw [List.size_toArray] <;> omega) (by omega) (by rw [hj]; simpa using ew) ⟨rfl,fin⟩) hs
theorem YF:IxR X (JlZ X.K):=by
 intro value slice pins s σ H x y v u Q I rx ry h hs;obtain ⟨p,xs,i,z,rfl,rfl,hq,he,q⟩:=h;cases rx;obtain ⟨t,rfl⟩:=ry;obtain ⟨its,r,pl,hz⟩:=I.tuple hq;obtain ⟨j,h1,h2,h3,h4,h5⟩:=JgL he;obtain ⟨w,ew,rw'⟩:=r.get h2;have hl:=r.length;have hn:=JdA;have fin:EP X pins σ Q w s:=⟨z,H,I,rw',q⟩
 exact subscriptTail_builtinR (x:=w) pl.typeIs slot_tuple_getitem.lookup
  (getItem_tuple (j:=j) (Q:=fun r s'=>r=w∧EP X pins σ Q r s') pl (by omega) (by omega) (by rw [List.size_toArray,← hl]; exact h1) (by simpa using ew) ⟨rfl,fin⟩) hs
theorem JkS:IxR X Jpy:=by
 intro value slice pins s σ H x y v u Q I rx ry h hs;obtain ⟨z,i,c,rfl,rfl,hz,he,q⟩:=h;obtain ⟨t,rfl⟩:=rx;obtain ⟨t',rfl⟩:=ry;obtain ⟨j,h1,h2,h3,h4,h5⟩:=JgL he;have hl:z.cps.toList.length=z.length:=by simp [Str.length]
 rw [hl] at h1 h4 h5;have hn:=JdA;exact tail_any (typeIs_str s z t) slot_str_getitem.lookup (getItem_str (c:=c) (by
  have e1:decide (i < -(2 ^ 63:Int))=false:=decide_eq_false (by omega);have e2:decide (i≥2 ^ 63)=false:=decide_eq_false (by omega);rw [e1,e2,Bool.or_false]) (by rw [h1]; simpa using h2) ⟨.str ⟨#[c]⟩,H,I.tok _,⟨_,rfl⟩,q⟩) hs
theorem JjP (its:List Value) (n j:Nat) (u:Value):Obj.mapSeq (·.setIfInBounds j u) { cls:=.type "list",data:=.seq its.toArray n }={ cls:=.type "list",data:=.seq (its.set j u).toArray n }:=by
 simp [Obj.mapSeq]
theorem Jk.lst {pins:List (Addr×Obj)} {σ:St} {H:Hp} {s:Shared} {p:Addr} {xs:List V} (I:Jk X pins σ H s) (h:H p=some (.lst xs)) :
  ∃ (its:List Value) (n:Nat),Jw xs its∧s.heap.get? p=some { cls:=.type "list",data:=.seq its.toArray n }∧xs.length≤sizeLine:=by
 obtain ⟨z,its,n,r,e⟩:=I.hok p _ h;exact ⟨its,n,r,e,z⟩
theorem Jk.lstUpd {pins:List (Addr×Obj)} {σ:St} {H:Hp} {s:Shared} {p:Addr} {xs ys:List V} {its its':List Value} {n n':Nat} {f:Obj→Obj} (I:Jk X pins σ H s) (h:H p=some (.lst xs))
  (ho:s.heap.get? p=some { cls:=.type "list",data:=.seq its.toArray n }) (hf:f { cls:=.type "list",data:=.seq its.toArray n }={ cls:=.type "list",data:=.seq its'.toArray n' }) (r:Jw ys its') (hz:ys.length≤sizeLine) (t:Nat) :
  Jk X pins σ (upd H p (.lst ys)) { s with heap:=s.heap.update p f,toks:=t }:=by
 have e:(s.heap.update p f).get? p=some { cls:=.type "list",data:=.seq its'.toArray n' }:=by
  rw [Heap.get?_update_self f ho (by rw [hf] <;> rfl),hf]
 refine I.write (x:=p) (e:=p) (by rw [h]; trivial) (.inl rfl) (fun b u hb q=>(Heap.get?_update_other _ _ (Ne.symm hb)).trans q) ⟨_,e⟩ ?_;exact ⟨hz,its',n',r,e⟩
def JoP:V→V→V→Hp→(Hp→Prop)→Prop:=fun o i v H Q=>∃ p xs k j,o=.ref p∧i=.int k∧H p=some (.lst xs)∧ixN xs.length k=some j∧Q (upd H p (.lst (xs.set j v)))
theorem JlJ:Jou X JoP:=by
 intro pins s σ H o i v ov iv u Q I ro ri rv h;obtain ⟨p,xs,k,j,rfl,rfl,hp,hj,q⟩:=h;cases ro;obtain ⟨t,rfl⟩:=ri;obtain ⟨its,n,r,ho,hz⟩:=I.lst hp;obtain ⟨h1,h2,h3,h4⟩:=Ji7 hj;have hl:=r.length;have hn:=JdA;have I':Jk X pins σ (upd H p (.lst (xs.set j v))) { s with heap:=s.heap.update p (Obj.mapSeq (·.setIfInBounds j u)) } :=
  I.lstUpd hp ho (JjP its n j u) (r.set rv j) (by rw [List.length_set]; exact hz) s.toks
 by_cases h0:0≤k
 ·have hk:k.toNat=j:=by
   rw [seqIndex_of h0 h4] at h1;exact Option.some.inj h1
  exact PySem.W.ki_setAt ho h0 (by omega) (by rw [List.size_toArray,← hl]; exact h4) (by rw [hk]; exact ⟨_,I',q⟩)
 ·have hk:(k + (its.toArray.size:Int)).toNat=j:=by
   rw [seqIndex_neg (by omega) h3] at h1;rw [List.size_toArray,← hl];exact Option.some.inj h1
  exact PySem.W.ki_setBack ho (by omega) (by rw [List.size_toArray,← hl]; exact h3) (by omega) (by rw [hk]; exact ⟨_,I',q⟩)
theorem JhP (lo hi:Option Int) (n:Nat):(sliceBounds lo hi none n).1=((HT.sIx n 0 lo:Nat):Int)∧(sliceBounds lo hi none n).2.1=((HT.sIx n n hi:Nat):Int)∧(sliceBounds lo hi none n).2.2=1:=by
 refine ⟨?_,?_,rfl⟩
 ·cases lo with
  | none=>simp [sliceBounds,HT.sIx]
  | some i =>
   simp only [sliceBounds,HT.sIx,Option.getD_none,show (1:Int) > 0 by decide,if_true];by_cases h:i < 0
   ·simp only [h,if_true] <;> omega
   ·simp only [h,if_false] <;> omega
 ·cases hi with
  | none=>simp [sliceBounds,HT.sIx]
  | some i =>
   simp only [sliceBounds,HT.sIx,Option.getD_none,show (1:Int) > 0 by decide,if_true];by_cases h:i < 0
   ·simp only [h,if_true] <;> omega
   ·simp only [h,if_false] <;> omega
theorem Jhs (its:List Value) (lo hi:Option Int):slicePick its.toArray lo hi none=((its.drop (HT.sIx its.length 0 lo)).take (HT.sIx its.length its.length hi - HT.sIx its.length 0 lo)).toArray:=by
 obtain ⟨h1,h2,h3⟩:=JhP lo hi its.toArray.size;unfold slicePick;rw [h1,h2,h3];simp only [sliceRange_one,pick_run,List.size_toArray] <;> rfl
def Jpw (K:PySem.W.Frag):V→Option Int→Option Int→Hp→VK→Prop:=fun x lo hi H Q=>∃ a xs,x=.ref a∧Jo K H a xs∧∀ p,H p=none→Q (.ref p) (upd H p (.lst (JaK xs lo hi)))
theorem Jgc:SlR X (Jpw X.K):=by
 intro pins s σ H x v vl vu lo hi sl Q I rx hs pl pu h;obtain ⟨a,xs,rfl,hx,q⟩:=h;cases rx;obtain ⟨its,r,ht,hz⟩:=I.list hx;have hlen:=r.length;refine ⟨"list",_,slot_list_getitem.lookup,ht.isList.typeIs,?_⟩;refine wpAny_getItem_list_slice ht.isList hs pl pu .none (by simp) ?_ (by rw [List.size_toArray] <;> omega);rw [Jhs,← hlen];refine ⟨.ref s.heap.objs.size,_,I.laid (t':=s.toks) (o:=.lst (JaK xs lo hi)) (fun b ob q=>Heap.get?_push_of_some _ q) (Nat.le_refl _) ?_,rfl,q _ (I.hok.fresh (Nat.le_refl _))⟩;exact ⟨Nat.le_trans (JiS xs lo hi) hz,_,0,(r.drop (HT.sIx xs.length 0 lo)).take (HT.sIx xs.length xs.length hi - HT.sIx xs.length 0 lo),Heap.get?_push_size _ rfl⟩
def Jcv:V→Bool
 | .non=>true
 | .bl _=>true
 | .int _=>true
 | .str _=>true
 | _=>false
def eqV:V→V→Bool
 | .non,.non=>true
 | .bl a,.bl b=>a == b
 | .bl a,.int b=>(if a then 1 else 0) == b
 | .int a,.bl b=>a == (if b then 1 else 0)
 | .int a,.int b=>a == b
 | .str a,.str b=>a == b
 | _,_=>false
theorem Jol {A:Around} {s:Shared} {y x:V} {u v:Value} (ry:JG y u) (rx:JG x v) (fy:Jcv y=true) (fx:Jcv x=true):SeqAt.EqAt A s u v (eqV y x):=by
 cases y with
 | non =>
  cases ry;cases x with
  | non=>cases rx; exact SeqAt.EqAt.same _
  | bl b=>cases rx; exact SeqAt.EqAt.none_bool b
  | int b=>obtain ⟨t,rfl⟩:=rx; exact SeqAt.EqAt.none_int b t
  | str b=>obtain ⟨t,rfl⟩:=rx; exact SeqAt.EqAt.none_str b t
  | _=>exact absurd (show false=true from fx) Bool.false_ne_true
 | bl a =>
  cases ry;cases x with
  | non=>cases rx; exact SeqAt.EqAt.bool_none a
  | bl b=>cases rx; exact SeqAt.EqAt.bool_bool a b
  | int b=>obtain ⟨t,rfl⟩:=rx; exact SeqAt.EqAt.bool_int a b t
  | str b=>obtain ⟨t,rfl⟩:=rx; exact SeqAt.EqAt.bool_str a b t
  | _=>exact absurd (show false=true from fx) Bool.false_ne_true
 | int a =>
  obtain ⟨t',rfl⟩:=ry;cases x with
  | non=>cases rx; exact SeqAt.EqAt.int_none a t'
  | bl b=>cases rx; exact SeqAt.EqAt.int_bool a t' b
  | int b=>obtain ⟨t,rfl⟩:=rx; exact SeqAt.EqAt.int_int a t' b t
  | str b=>obtain ⟨t,rfl⟩:=rx; exact SeqAt.EqAt.int_str a t' b t
  | _=>exact absurd (show false=true from fx) Bool.false_ne_true
 | str a =>
  obtain ⟨t',rfl⟩:=ry;cases x with
  | non=>cases rx; exact SeqAt.EqAt.str_none a t'
  | bl b=>cases rx; exact SeqAt.EqAt.str_bool a t' b
  | int b=>obtain ⟨t,rfl⟩:=rx; exact SeqAt.EqAt.str_int a t' b t
  | str b=>obtain ⟨t,rfl⟩:=rx; exact SeqAt.EqAt.str_str a t' b t
  | _=>exact absurd (show false=true from fx) Bool.false_ne_true
 | _=>exact absurd (show false=true from fy) Bool.false_ne_true
def eqU (x:V) (u:Value):Bool:=match u with
 | .none=>eqV .non x
 | .bool b=>eqV (.bl b) x
 | .int i _=>eqV (.int i) x
 | .str z _=>eqV (.str z) x
 | _=>false
theorem Jk1 {x y:V} {u:Value} (r:JG y u) (f:Jcv y=true):eqU x u=eqV y x:=by
 cases y with
 | non=>cases r; rfl
 | bl b=>cases r; rfl
 | int i=>obtain ⟨t,rfl⟩:=r; rfl
 | str z=>obtain ⟨t,rfl⟩:=r; rfl
 | _=>exact absurd (show false=true from f) Bool.false_ne_true
theorem JdC {x:V}:∀ {xs:List V} {us:List Value},Jw xs us→xs.all Jcv=true→us.any (eqU x)=xs.any fun y=>eqV y x
 | _,_,.nil,_=>rfl
 | y :: xs,u :: us,.cons r t,f=>by
  rw [List.all_cons,Bool.and_eq_true] at f;rw [List.any_cons,List.any_cons,Jk1 r f.1,JdC t f.2]
theorem JcV {A:Around} {s:Shared} {x:V} {v:Value} (rx:JG x v) (fx:Jcv x=true):∀ {xs:List V} {us:List Value},Jw xs us→xs.all Jcv=true→∀ u∈us,SeqAt.EqAt A s u v (eqU x u)
 | _,_,.nil,_=>fun u hu=>by cases hu
 | y :: xs,u :: us,.cons r t,f=>fun u' hu=>by
  rw [List.all_cons,Bool.and_eq_true] at f;rcases List.mem_cons.mp hu with rfl | hu
  ·rw [Jk1 r f.1]; exact Jol r rx f.1 fx
  ·exact JcV rx fx t f.2 u' hu
def inV (x:V) (xs:List V):Bool:=xs.any fun y=>eqV y x
def rIn (K:PySem.W.Frag) (neg:Bool):R2:=fun x y H Q=>∃ p xs,y=.ref p∧(Jo K H p xs∨JT K H p xs)∧Jcv x=true∧xs.all Jcv=true∧Q (.bl (if neg then !inV x xs else inV x xs)) H
theorem Jg2:ZO X (compareOp .In) (rIn X.K false):=by
 intro pins s σ H x y v u Q I rx ry h;obtain ⟨p,xs,rfl,hq,fx,fs,q⟩:=h;cases ry;rcases hq with hq | hq
 ·obtain ⟨its,r,pl,hz⟩:=I.list hq;refine SeqAt.in_listAt (eqU x) pl.isList (fun w hw=>JcV rx fx r fs w (by simpa using hw)) ⟨.bl _,H,I,rfl,?_⟩;rw [show its.toArray.any (eqU x)=its.any (eqU x) by simp,JdC r fs];exact q
 ·obtain ⟨its,r,pl,hz⟩:=I.tuple hq;refine SeqAt.in_tupleAt (eqU x) pl (fun w hw=>JcV rx fx r fs w (by simpa using hw)) ⟨.bl _,H,I,rfl,?_⟩;rw [show its.toArray.any (eqU x)=its.any (eqU x) by simp,JdC r fs];exact q
theorem Ja6:ZO X (compareOp .NotIn) (rIn X.K true):=by
 intro pins s σ H x y v u Q I rx ry h;obtain ⟨p,xs,rfl,hq,fx,fs,q⟩:=h;cases ry;rcases hq with hq | hq
 ·obtain ⟨its,r,pl,hz⟩:=I.list hq;refine SeqAt.notIn_listAt (eqU x) pl.isList (fun w hw=>JcV rx fx r fs w (by simpa using hw)) ⟨.bl _,H,I,rfl,?_⟩;rw [show its.toArray.any (eqU x)=its.any (eqU x) by simp,JdC r fs];exact q
 ·obtain ⟨its,r,pl,hz⟩:=I.tuple hq;refine SeqAt.notIn_tupleAt (eqU x) pl (fun w hw=>JcV rx fx r fs w (by simpa using hw)) ⟨.bl _,H,I,rfl,?_⟩;rw [show its.toArray.any (eqU x)=its.any (eqU x) by simp,JdC r fs];exact q
theorem Yp:Zd X (.builtin "len") (fun xs H Q=>∃ p ys,xs=[.ref p]∧(Jo X.K H p ys∨JT X.K H p ys)∧Q (.int ys.length) H):=by
 intro pins s σ H xs us Q I r h;obtain ⟨p,ys,rfl,hq,q⟩:=h;obtain ⟨u,rfl,rx⟩:=JeD r;cases rx;have hn:=JdA;rcases hq with hq | hq
 ·obtain ⟨its,r',pl,hz⟩:=I.list hq;have hlen:=r'.length;exact Calls.call_len_list pl.isList (by simp only [List.size_toArray] <;> omega) ⟨.int ys.length,H,I.tok _,⟨s.toks + 1,by rw [List.size_toArray,hlen]⟩,q⟩
 ·obtain ⟨its,r',pl,hz⟩:=I.tuple hq;have hlen:=r'.length;exact len_tuple pl (by simp only [List.size_toArray] <;> omega) ⟨.int ys.length,H,I.tok _,⟨s.toks + 1,by rw [List.size_toArray,hlen]⟩,q⟩
theorem Jev:Zd X (.builtin "len") (fun xs H Q=>∃ z,xs=[.str z]∧z.length≤sizeLine∧Q (.int z.length) H):=by
 intro pins s σ H xs us Q I r h;obtain ⟨z,rfl,hz,q⟩:=h;obtain ⟨u,rfl,t,rfl⟩:=JeD r;have hn:=JdA;exact len_str (by omega) ⟨.int z.length,H,I.tok _,⟨_,rfl⟩,q⟩
theorem Jc3:Zd X (.type "list") (fun xs H Q=>∃ p ys,xs=[.ref p]∧(Jo X.K H p ys∨JT X.K H p ys)∧∀ l,H l=none→Q (.ref l) (upd H l (.lst ys))):=by
 intro pins s σ H xs us Q I r h;obtain ⟨p,ys,rfl,hq,q⟩:=h;obtain ⟨u,rfl,rx⟩:=JeD r;cases rx;have fin:∀ (its:List Value),Jw ys its→ys.length≤sizeLine→∀ (h':Heap) (c':Nat),(∀ b o',s.heap.get? b=some o'→h'.get? b=some o') →
   h'.get? s.heap.objs.size=some { cls:=.type "list",dict:=none,data:=.seq its.toArray c',slots:=#[] }→EP X pins σ Q (.ref s.heap.objs.size) { s with heap:=h' }:=fun its r' hz h' c' kp e =>
  ⟨.ref s.heap.objs.size,_,I.laid (t':=s.toks) kp (Nat.le_refl _) (show J9 X.prog X.w _ h' _ (.lst ys) from ⟨hz,its,c',r',e⟩),rfl,q _ (I.hok.fresh (Nat.le_refl _))⟩
 rcases hq with hq | hq
 ·obtain ⟨its,r',pl,hz⟩:=I.list hq;have hlen:=r'.length;obtain ⟨o,ho,hc,n,hd⟩:=pl.isList;exact call_list_seq p (.inl rfl) ho hc hd (fun h' c' kp e=>fin its r' hz h' c' kp e) (by simp only [List.size_toArray] <;> omega)
 ·obtain ⟨its,r',pl,hz⟩:=I.tuple hq;have hlen:=r'.length;obtain ⟨o,ho,hc,n,hd⟩:=pl;exact call_list_seq p (.inr rfl) ho hc hd (fun h' c' kp e=>fin its r' hz h' c' kp e) (by simp only [List.size_toArray] <;> omega)
theorem JaQ:Zd X (.type "tuple") (fun xs H Q=>∃ p ys,xs=[.ref p]∧((Jo X.K H p ys∧∀ l,H l=none→Q (.ref l) (upd H l (.tup ys)))∨(JT X.K H p ys∧Q (.ref p) H))):=by
 intro pins s σ H xs us Q I r h;obtain ⟨p,ys,rfl,h⟩:=h;obtain ⟨u,rfl,rx⟩:=JeD r;cases rx;rcases h with ⟨hq,q⟩ | ⟨hq,q⟩
 ·obtain ⟨its,r',pl,hz⟩:=I.list hq;have hlen:=r'.length;refine call_tuple_list pl.isList (fun h' kp=>?_) (by simp only [List.size_toArray] <;> omega);have I1:Jk X pins σ H { s with heap:=h' }:=I.kept (t':=s.toks) kp;have I2:Jk X pins σ (upd H h'.objs.size (.tup ys)) { s with heap:=h'.push { cls:=.type "tuple",data:=.seq its.toArray } } :=
   I1.laid (t':=s.toks) (fun b o e=>Heap.get?_push_of_some _ e) (Nat.le_refl _) (show J9 X.prog X.w _ _ _ (.tup ys) from ⟨hz,its,r',IsTup.new _ _⟩)
  exact ⟨.ref h'.objs.size,_,I2,rfl,q _ (I1.hok.fresh (Nat.le_refl _))⟩
 ·obtain ⟨its,r',pl,hz⟩:=I.tuple hq;exact call_tuple_same pl ⟨.ref p,H,I,rfl,q⟩
def tyV (K:PySem.W.Frag) (T:String) (x:V) (H:Hp):Prop:=match x with
 | .str _=>T = "str"
 | .int _=>T = "int"
 | .ref p=>(T = "list"∧∃ xs,Jo K H p xs)∨(T = "tuple"∧∃ o,K.lookup p=some o∧o.cls=.type "tuple"∧o.dict=none) ∨
   (T = "dict"∧((∃ kvs,H p=some (.dK kvs))∨∃ kvs,H p=some (.dT kvs)))∨(T = "set"∧∃ S n,H p=some (.set S n))
 | _=>False
theorem JnC {pins:List (Addr×Obj)} {σ:St} {H:Hp} {s:Shared} {T:String} {x:V} {v:Value} (I:Jk X pins σ H s) (r:JG x v) (ty:tyV X.K T x H) :
  s.TypeIs v T∧∀ a,v=.ref a→∃ ob,s.heap.get? a=some ob∧ob.dict=none:=by
 cases x with
 | str z =>
  obtain ⟨t,rfl⟩:=r;cases (show T = "str" from ty);exact ⟨typeIs_str s z t,fun _ e=>nomatch e⟩
 | int i =>
  obtain ⟨t,rfl⟩:=r;cases (show T = "int" from ty);exact ⟨typeIs_int s i t,fun _ e=>nomatch e⟩
 | ref p =>
  cases r;rcases ty with ⟨rfl,xs,hq⟩ | ⟨rfl,o,hk,hc,hd⟩ | ⟨rfl,hk⟩ | ⟨rfl,S,n,hk⟩
  ·obtain ⟨its,_,pl,_⟩:=I.list hq;refine ⟨pl.isList.typeIs,fun a e=>?_⟩;cases e;obtain ⟨o,n,e,c,hd,_⟩:=pl;exact ⟨o,e,hd⟩
  ·refine ⟨⟨o,I.kIn p o hk,hc⟩,fun a e=>?_⟩;cases e;exact ⟨o,I.kIn _ o hk,hd⟩
  ·have z:∃ o,s.heap.get? p=some o∧o.ExactDict:=by
    rcases hk with ⟨kvs,hk⟩ | ⟨kvs,hk⟩
    ·obtain ⟨_,_,_,_,o,_,_,e,ex,_⟩:=I.hok p _ hk;exact ⟨o,e,ex⟩
    ·obtain ⟨_,_,_,_,o,_,_,e,ex,_⟩:=I.hok p _ hk;exact ⟨o,e,ex⟩
   obtain ⟨o,e,ex⟩:=z;refine ⟨⟨o,e,ex.1⟩,fun a e2=>?_⟩;cases e2;exact ⟨o,e,ex.2.1⟩
  ·obtain ⟨o,_,_,_,e,ex,_⟩:=I.hok p _ hk;refine ⟨⟨o,e,ex.1⟩,fun a e2=>?_⟩;cases e2;exact ⟨o,e,ex.2.1⟩
 | _=>exact False.elim ty
def tBM (K:PySem.W.Frag) (T:String) (r:V→List V→Hp→VK→Prop) (to:TE) (t:TA):TE:=fun σ H Q=>to σ H fun x H1=>tyV K T x H1∧t σ H1 fun xs H2=>r x xs H2 Q
variable {o e:Expr} {es:List Expr} {to:TE} {t:TA} {name:Str} {apos cpos:Pos} {T id:String} {r:V→List V→Hp→VK→Prop}
theorem Ja5 (pa:PlainAttrs T) (slot:Slot T name id) (hty:typeOf (.builtin id)=pure (.type "method_descriptor")) (hm:MtR X id r) (ho:PE X o to) (ha:PA X (e :: es) t)
  (hbase:attributeBase o name X.env (eval o X.env)=eval o X.env:=by rfl)
  (hfew:((backTo cpos (starEach (e :: es) X.env)).all (fun x=>!x.1) && (backToKw cpos (keywordEach [] X.env)).all (fun x=>x.1.isSome)
   && decide ((e :: es).length + ([]:List Keyword).length + (if ([]:List Keyword).isEmpty then 0 else 1) < 30))=true:=by rfl)
  (hline:(apos.endLine == cpos.line)=true:=by rfl) (hs:starEach (e :: es) X.env=(false,eval e X.env) :: starEach es X.env:=by rfl) (hplain:(backTo cpos (starEach es X.env)).any (·.1)=false:=by rfl) :
  PE X (.Call (.Attribute o name apos) (e :: es) [] cpos) (tBM X.K T r to t):=by
 intro pins s σ H Q I h;refine wpAny_Call_method_late hbase hfew hline rfl (JJ (ho pins s σ H _ I h) fun v s1 ⟨x,H1,I1,r1,ty,q1⟩=>?_);obtain ⟨h1,h2⟩:=JnC I1 r1 ty;refine ⟨T,id,pa,slot,hty,h1,h2,?_⟩;have hA:=ha cpos pins s1 σ H1 _ I1 q1;rw [hs] at hA ⊢;refine Calls.callWith_builtin (by show (false || (backTo cpos (starEach es X.env)).any (·.1))=false; rw [hplain] <;> rfl) (Calls.evalArgs_plain ?_);exact JJ hA fun us s2 ⟨vs,H2,I2,r2,q2⟩=>hm pins s2 σ H2 x vs v us Q I2 r1 r2 q2
end
end L2
namespace L2
open PySem PySem.Spec PyProof.Rows
def MtM (X:Cx) (id:String) (r:V→List V→Hp→VK→Prop):Prop :=
 ∀ (pins:List (Addr×Obj)) (s:Shared) (σ:St) (H:Hp) (x:V) (xs:List V) (v:Value) (us:List Value) (Q:VK),Jk X pins σ H s→JG x v→Jw xs us→r x xs H Q →
  wpAny (model X.prog X.w) X.A (call (.builtin id) (v :: us)) (EP X pins σ Q) X.xe s
theorem Jw.one:∀ {x:V} {us:List Value},Jw [x] us→∃ u,us=[u]∧JG x u
 | _,_,.cons r .nil=>⟨_,rfl,r⟩
theorem Jw.two:∀ {x y:V} {us:List Value},Jw [x,y] us→∃ u v,us=[u,v]∧JG x u∧JG y v
 | _,_,_,.cons r (.cons q .nil)=>⟨_,_,rfl,r,q⟩
theorem Jw.zero:∀ {us:List Value},Jw [] us→us=[]
 | _,.nil=>rfl
theorem Jw.rep {xs:List V} {us:List Value} (h:Jw xs us):∀ k:Nat,Jw (List.replicate k xs).flatten (List.replicate k us).flatten
 | 0=>.nil
 | k + 1=>by
  rw [List.replicate_succ,List.replicate_succ,List.flatten_cons,List.flatten_cons];exact Jw.append h (Jw.rep h k)
theorem Jhc (its:List Value):∀ (k:Nat) (acc:List Value),
  List.foldl (fun x1 x2=>x1 ++ x2) acc.toArray (List.replicate k its.toArray)=(acc ++ (List.replicate k its).flatten).toArray
 | 0,acc=>by simp
 | k + 1,acc=>by
  have e:acc.toArray ++ its.toArray=(acc ++ its).toArray:=by simp
  have e2:(acc ++ its) ++ (List.replicate k its).flatten=acc ++ (List.replicate (k + 1) its).flatten:=by
   rw [List.replicate_succ,List.flatten_cons,List.append_assoc]
  rw [← e2,← Jhc its k (acc ++ its),← e,List.replicate_succ,List.foldl_cons]
section
variable {X:Cx} {pins:List (Addr×Obj)} {σ:St} {H:Hp} {s:Shared} {l b:Addr} {xs ys zs:List V}
theorem Jk.lset {its its':List Value} {n:Nat} {f:Array Value→Array Value} {t':Nat} (I:Jk X pins σ H s) (hH:H l=some (.lst xs))
  (e:s.heap.get? l=some { cls:=.type "list",data:=.seq its.toArray n }) (hf:f its.toArray=its'.toArray) (hv:Jw ys its') (hz:ys.length≤sizeLine) :
  Jk X pins σ (upd H l (.lst ys)) { s with heap:=s.heap.update l (Obj.mapSeq f),toks:=t' }:=by
 have q:=PySem.IsL.update e f;rw [hf] at q;refine I.write (x:=l) (e:=l) (by rw [hH]; exact trivial) (.inl rfl) (fun b' u hb hu=>(Heap.get?_update_other s.heap (Obj.mapSeq f) (Ne.symm hb)).trans hu) ⟨_,q⟩ ?_;exact ⟨hz,its',_,hv,q⟩
theorem Jk.lnew {its:List Value} {t':Nat} (I:Jk X pins σ H s) (hv:Jw ys its) (hz:ys.length≤sizeLine) :
  Jk X pins σ (upd H s.heap.objs.size (.lst ys)) { s with heap:=s.heap.push { cls:=.type "list",data:=.seq its.toArray },toks:=t' } :=
 I.laid (fun _ _ q=>Heap.get?_push_of_some _ q) (Nat.le_refl _) ⟨hz,its,0,hv,Heap.get?_push_size _ rfl⟩
theorem Jk.fresh (I:Jk X pins σ H s):H s.heap.objs.size=none:=I.hok.fresh (Nat.le_refl _)
theorem Jk.lstM (I:Jk X pins σ H s) (hH:H l=some (.lst xs)):xs.length≤sizeLine∧∃ (its:List Value) (n:Nat),Jw xs its∧xs.length=its.length∧s.heap.get? l=some { cls:=.type "list",data:=.seq its.toArray n }:=by
 obtain ⟨z,its,n,r,e⟩:=I.hok l _ hH;exact ⟨z,its,n,r,r.length,e⟩
theorem Jmc {n:Nat} (h:n≤sizeLine):Builtin.List.listTooLong n=false:=by
 unfold Builtin.List.listTooLong;exact decide_eq_false (by omega)
end
section
variable {X:Cx}
def Jnb:V→List V→Hp→VK→Prop:=fun x vs H Q=>∃ l xs y,x=.ref l∧vs=[y]∧H l=some (.lst xs)∧xs.length < sizeLine∧Q .non (upd H l (.lst (xs ++ [y])))
theorem Y3:MtM X "list.append" Jnb:=by
 intro pins s σ H x vs v us Q I rx rv h;obtain ⟨l,xs,y,rfl,rfl,hH,hz,q⟩:=h;cases rx;obtain ⟨u,rfl,ru⟩:=rv.one;obtain ⟨z,its,n,r,hl,e⟩:=I.lstM hH;refine call_meets F.slot_list_append ⟨_,e,rfl⟩ F.entry_list_append (F.args_list_append_2 _ _) (PySem.list_append l its.toArray n u (by rw [List.size_toArray]; omega)) ⟨e,?_⟩;refine ⟨.non,_,I.lset (its':=its ++ [u]) hH e (by simp) (r.append (.cons ru .nil)) ?_,rfl,q⟩;rw [List.length_append,List.length_singleton];omega
def Jpx:R2:=fun x y H Q=>∃ l k xs,x=.ref l∧y=.int k∧H l=some (.lst xs)∧-(2 ^ 63)≤k∧k < 2 ^ 63∧xs.length * k.toNat≤sizeLine ∧
 ∀ p,H p=none→Q (.ref p) (upd H p (.lst (List.replicate k.toNat xs).flatten))
theorem Jnq {α:Type} (xs:List α) (k:Nat):(List.replicate k xs).flatten.length=k * xs.length:=by
 induction k with
 | zero=>simp
 | succ k ih=>rw [List.replicate_succ,List.flatten_cons,List.length_append,ih,Nat.succ_mul,Nat.add_comm]
theorem Jn6:ZO X (binaryOp .Mult) Jpx:=by
 intro pins s σ H x y v u Q I rx ry h;obtain ⟨l,k,xs,rfl,rfl,hH,h1,h2,hz,q⟩:=h;cases rx;obtain ⟨t,rfl⟩:=ry;obtain ⟨z,its,n,r,hl,e⟩:=I.lstM hH;have hlen:its.toArray.size * k.toNat≤sizeLine:=by rw [List.size_toArray,← hl]; exact hz
 have hcap:¬ its.toArray.size * k.toNat > (2 ^ 63 - 1) / 8:=by
  have:(sizeLine:Nat)≤(2 ^ 63 - 1) / 8:=by decide
  omega
 have hfit:¬ (!Builtin.List.listFitsIndex k)=true:=by
  rw [fitsIndex_both h1 h2];exact Bool.false_ne_true
 have hlong:¬ Builtin.List.listTooLong (its.toArray.size * k.toNat)=true:=by
  rw [Jmc hlen];exact Bool.false_ne_true
 have hnew:List.foldl (fun x1 x2=>x1 ++ x2) #[] (List.replicate (if its.toArray.isEmpty=true then 0 else k.toNat) its.toArray)=(List.replicate k.toNat its).flatten.toArray:=by
  have f0:∀ m:Nat,List.foldl (fun x1 x2=>x1 ++ x2) #[] (List.replicate m its.toArray)=(List.replicate m its).flatten.toArray:=fun m=>by
   have:=Jhc its m [];rw [List.nil_append] at this;exact this
  rw [f0];cases its with
  | nil=>simp
  | cons a r'=>rw [if_neg (by simp)]
 refine wpAny_binaryOp_repeat_ref (T := "list") (U := "int") (by decide) ⟨_,e,rfl⟩ (fun s'=>typeIs_int s' k t) noFill_list_mul F.fills_int_mul F.slot_int_rmul repeat_list F.slot_int_index.lookup
  (call_meets F.slot_int_rmul (typeIs_int s k t) F.entry_int_rmul (F.args_int_rmul_2 _ _) (int___rmul___int_list k t l its.toArray n)
   ⟨e,rfl,⟨_,e,rfl⟩,call_meets F.slot_list_mul ⟨_,e,rfl⟩ F.entry_list_mul (F.args_list_mul_2 _ _) (AutoListH.list___mul___list_int_3 l its.toArray n k t hfit hcap hlong) ⟨e,?_⟩⟩)
 rw [hnew];exact ⟨.ref _,_,I.lnew (t':=s.toks) (r.rep k.toNat) (by rw [Jnq,Nat.mul_comm]; exact hz),rfl,q _ I.fresh⟩
end
end L2
namespace L2
open PySem PySem.Spec PyProof.Rows
section
variable {κ:Type} [DecidableEq κ]
def YC (kvs:List (κ×V)) (k:κ):Option V:=(kvs.find? fun kv=>decide (kv.1=k)).map (·.2)
def Jah (kvs:List (κ×V)) (k:κ) (v:V):List (κ×V) :=
 if (kvs.any fun kv=>decide (kv.1=k))=true then kvs.map (fun kv=>if kv.1=k then (kv.1,v) else kv) else kvs ++ [(k,v)]
def JmQ (kvs:List (κ×V)) (k:κ):List (κ×V):=kvs.filter fun kv=>decide (kv.1≠k)
theorem Zi {p:κ×V} {r:List (κ×V)} {k:κ} (e:p.1=k):YC (p :: r) k=some p.2:=by simp [YC,List.find?_cons,e]
theorem Zj {p:κ×V} {r:List (κ×V)} {k:κ} (e:¬ p.1=k):YC (p :: r) k=YC r k:=by simp [YC,List.find?_cons,e]
theorem JdK (k:κ):∀ kvs:List (κ×V),(kvs.any fun kv=>decide (kv.1=k))=(YC kvs k).isSome
 | []=>rfl
 | p :: r=>by
  rw [List.any_cons];by_cases e:p.1=k
  ·simp only [Zi e,decide_eq_true e,Bool.true_or,Option.isSome_some]
  ·rw [Zj e,decide_eq_false e,Bool.false_or]; exact JdK k r
theorem JhE (k j:κ) (y:V):∀ kvs:List (κ×V),YC (kvs.map fun kv=>if kv.1=k then (kv.1,y) else kv) j=(YC kvs j).map fun x=>if j=k then y else x
 | []=>rfl
 | p :: r=>by
  have ih:=JhE k j y r;rw [List.map_cons];by_cases h:p.1=k
  ·rw [if_pos h];by_cases e:p.1=j
   ·rw [Zi (p:=(p.1,y)) e,Zi e,Option.map_some,if_pos (e.symm.trans h)]
   ·rw [Zj (p:=(p.1,y)) e,Zj e,ih]
  ·rw [if_neg h];by_cases e:p.1=j
   ·rw [Zi (p:=p) e,Zi e,Option.map_some,if_neg (fun z=>h (e.trans z))]
   ·rw [Zj (p:=p) e,Zj e,ih]
theorem JgV (k j:κ) (y:V):∀ kvs:List (κ×V),YC kvs k=none→YC (kvs ++ [(k,y)]) j=if j=k then some y else YC kvs j
 | [],_=>by
  by_cases e:k=j
  ·rw [if_pos e.symm]; exact Zi (p:=(k,y)) e
  ·rw [if_neg (fun z=>e z.symm)]; exact Zj (p:=(k,y)) e
 | p :: r,hn=>by
  rw [List.cons_append];have hk:¬ p.1=k:=fun z=>by rw [Zi z] at hn; cases hn
  rw [Zj hk] at hn;have ih:=JgV k j y r hn;by_cases e:p.1=j
  ·rw [Zi e,Zi e,if_neg (fun z=>hk (e.trans z))]
  ·rw [Zj e,Zj e,ih]
theorem JdJ (kvs:List (κ×V)) (k j:κ) (y:V):YC (Jah kvs k y) j=if j=k then some y else YC kvs j:=by
 unfold Jah;by_cases a:(kvs.any fun kv=>decide (kv.1=k))=true
 ·rw [if_pos a,JhE];rw [JdK] at a;by_cases e:j=k
  ·obtain ⟨x,hx⟩:=Option.isSome_iff_exists.mp a;rw [if_pos e,e,hx,Option.map_some,if_pos rfl]
  ·rw [if_neg e];cases YC kvs j with
   | none=>rfl
   | some x=>rw [Option.map_some,if_neg e]
 ·rw [if_neg a];refine JgV k j y kvs ?_;rw [JdK] at a;cases q:YC kvs k with
  | none=>rfl
  | some x=>rw [q] at a; exact (a rfl).elim
theorem Je1 (kvs:List (κ×V)) (k:κ) (v:V):(Jah kvs k v).length≤kvs.length + 1:=by
 unfold Jah;split
 ·rw [List.length_map]; omega
 ·rw [List.length_append,List.length_cons,List.length_nil]; omega
theorem Z2.isSome_eq {o:Option V} {u:Option Value} (r:Z2 o u):o.isSome=u.isSome:=by
 cases o with
 | none=>cases u with
  | none=>rfl
  | some _=>exact (show False from r).elim
 | some _=>cases u with
  | none=>exact (show False from r).elim
  | some _=>rfl
theorem Z2.getD {o:Option V} {u:Option Value} {d:V} {d':Value} (r:Z2 o u) (rd:JG d d'):JG (o.getD d) (u.getD d'):=by
 cases o with
 | none=>cases u with
  | none=>exact rd
  | some _=>exact (show False from r).elim
 | some _=>cases u with
  | none=>exact (show False from r).elim
  | some _=>exact r
theorem KV.val {kvs:List (κ×V)} {vs:List (κ×Value)} (r:KV kvs vs) (k:κ):Z2 (YC kvs k) (valueAt vs k):=by
 unfold KV at r
 induction r with
 | nil=>exact True.intro
 | @cons p q ps qs h t ih =>
  obtain ⟨h1,h2⟩:=h;by_cases e:p.1=k
  ·have e':q.1=k:=h1.symm.trans e;have b:valueAt (q :: qs) k=some q.2:=by simp [valueAt,List.find?_cons,e']
   rw [Zi e,b]; exact h2
  ·have e':¬ q.1=k:=fun z=>e (h1.trans z)
   have b:valueAt (q :: qs) k=valueAt qs k:=by simp [valueAt,List.find?_cons,e']
   rw [Zj e,b]; exact ih
theorem KV.any {kvs:List (κ×V)} {vs:List (κ×Value)} (r:KV kvs vs) (k:κ):(kvs.any fun kv=>decide (kv.1=k))=vs.any fun kv=>decide (kv.1=k):=by
 unfold KV at r
 induction r with
 | nil=>rfl
 | cons h t ih=>rw [List.any_cons,List.any_cons,ih,h.1]
theorem KV.repl {kvs:List (κ×V)} {vs:List (κ×Value)} (r:KV kvs vs) (k:κ) {y:V} {u:Value} (ry:JG y u) :
  KV (kvs.map fun kv=>if kv.1=k then (kv.1,y) else kv) (vs.map fun kv=>if kv.1=k then (kv.1,u) else kv):=by
 unfold KV at r ⊢
 induction r with
 | nil=>exact .nil
 | @cons p q ps qs h t ih =>
  rw [List.map_cons,List.map_cons];refine .cons ?_ ih;obtain ⟨h1,h2⟩:=h;by_cases e:p.1=k
  ·rw [if_pos e,if_pos (h1.symm.trans e)]; exact ⟨h1,ry⟩
  ·rw [if_neg e,if_neg (fun z=>e (h1.trans z))]; exact ⟨h1,h2⟩
theorem KV.put {kvs:List (κ×V)} {vs:List (κ×Value)} (r:KV kvs vs) (k:κ) {y:V} {u:Value} (ry:JG y u):KV (Jah kvs k y) (stored vs k u):=by
 unfold Jah stored;rw [r.any k];by_cases e:(vs.any fun kv=>decide (kv.1=k))=true
 ·rw [if_pos e,if_pos e]; exact r.repl k ry
 ·rw [if_neg e,if_neg e]; exact Paired.snoc r ⟨rfl,ry⟩
theorem KV.drop {kvs:List (κ×V)} {vs:List (κ×Value)} (r:KV kvs vs) (k:κ):KV (JmQ kvs k) (without vs k):=by
 unfold KV at r ⊢;unfold JmQ without
 induction r with
 | nil=>exact .nil
 | @cons p q ps qs h t ih =>
  obtain ⟨h1,h2⟩:=h;rw [List.filter_cons,List.filter_cons];by_cases e:p.1=k
  ·have a:¬ decide (p.1≠k)=true:=by simp [e]
   have b:¬ decide (q.1≠k)=true:=by simp [h1.symm.trans e]
   rw [if_neg a,if_neg b]; exact ih
  ·have e':¬ q.1=k:=fun z=>e (h1.trans z)
   have a:decide (p.1≠k)=true:=by simp [e]
   have b:decide (q.1≠k)=true:=by simp [e']
   rw [if_pos a,if_pos b]; exact .cons ⟨h1,h2⟩ ih
theorem KV.length {kvs:List (κ×V)} {vs:List (κ×Value)} (r:KV kvs vs):kvs.length=vs.length:=Paired.length r
end
theorem JfN {P:Program} {w:World} {k:JO} {u:Value} (r:JG (kV k) u):(J6 P w).is k u=true:=by
 cases k with
 | inl i=>obtain ⟨t,e⟩:=(show ∃ t,u=Value.int i t from r); subst e; exact JiP P w i t
 | inr x=>obtain ⟨t,e⟩:=(show ∃ t,u=Value.str x t from r); subst e; exact JaL P w x t
theorem Jg8 {P:Program} {w:World}:∀ {ks:List JO} {us:List Value},Jw (ks.map kV) us→ItemsAre (J6 P w) ks us
 | [],_,r=>by rw [List.map_nil] at r; cases r; exact .nil
 | k :: ks,_,r=>by
  rw [List.map_cons] at r;cases r with
  | cons h t=>exact .cons (JfN h) (Jg8 t)
abbrev KT (H:Hp):List (List JO×V)→List (List JO×Addr×Value)→Prop:=Paired fun p q=>p.1=q.1∧H q.2.1=some (.tup (p.1.map kV))∧JG p.2 q.2.2
theorem KT.val {H:Hp} {kvs:List (List JO×V)} {xs:List (List JO×Addr×Value)} (r:KT H kvs xs) (k:List JO):Z2 (YC kvs k) ((atKey xs k).map (·.2)):=by
 induction r with
 | nil=>exact True.intro
 | @cons p q ps qs h t ih =>
  obtain ⟨h1,_,h2⟩:=h;by_cases e:p.1=k
  ·have e':q.1=k:=h1.symm.trans e;have b:atKey (q :: qs) k=some q.2:=by simp [atKey,List.find?_cons,e']
   rw [Zi e,b]; exact h2
  ·have e':¬ q.1=k:=fun z=>e (h1.trans z)
   have b:atKey (q :: qs) k=atKey qs k:=by simp [atKey,List.find?_cons,e']
   rw [Zj e,b]; exact ih
theorem KT.repl {H:Hp} {kvs:List (List JO×V)} {xs:List (List JO×Addr×Value)} (r:KT H kvs xs) (k:List JO) {y:V} {u:Value} (ry:JG y u) :
  KT H (kvs.map fun kv=>if kv.1=k then (kv.1,y) else kv) (xs.map (putAt k u)):=by
 induction r with
 | nil=>exact .nil
 | @cons p q ps qs h t ih =>
  rw [List.map_cons,List.map_cons];refine .cons ?_ ih;obtain ⟨h1,h2,h3⟩:=h;unfold putAt;by_cases e:p.1=k
  ·rw [if_pos e,if_pos (h1.symm.trans e)]; exact ⟨h1,h2,ry⟩
  ·rw [if_neg e,if_neg (fun z=>e (h1.trans z))]; exact ⟨h1,h2,h3⟩
theorem KT.put {H:Hp} {kvs:List (List JO×V)} {xs:List (List JO×Addr×Value)} (r:KT H kvs xs) (k:List JO) {b:Addr} {y:V} {u:Value} (hb:H b=some (.tup (k.map kV))) (ry:JG y u) :
  KT H (Jah kvs k y) (storedH xs k b u):=by
 have e:(kvs.any fun kv=>decide (kv.1=k))=(atKey xs k).isSome:=by
  rw [JdK,(r.val k).isSome_eq,Option.isSome_map]
 unfold Jah storedH;rw [e];by_cases q:(atKey xs k).isSome=true
 ·rw [if_pos q,if_pos q]; exact r.repl k ry
 ·rw [if_neg q,if_neg q]; exact Paired.snoc r ⟨rfl,hb,ry⟩
theorem KT.keeps {H H':Hp} {kvs:List (List JO×V)} {xs:List (List JO×Addr×Value)} (r:KT H kvs xs) (ht:∀ b ys,H b=some (.tup ys)→H' b=some (.tup ys)):KT H' kvs xs :=
 Paired.mapP r fun _ _ z=>⟨z.1,ht _ _ z.2.1,z.2.2⟩
section
variable {P:Program} {w:World} {H:Hp} {h:Heap} {a:Addr}
theorem JmI {u:HO} (ok:Zo P w H h) (e:Rd H a u):J9 P w H h a u:=e.ok ok
theorem JfU {kvs:List (JO×V)} (ok:Zo P w H h) (e:Rd H a (.dK kvs)):kvs.length≤sizeLine∧(a == sysModules)=false∧∃ vs,KV kvs vs∧h.DictOf (J6 P w) a vs :=
 show J9 P w H h a (.dK kvs) from JmI ok e
theorem Jo2 {kvs:List (JO×V)} (ok:Zo P w H h) (e:H a=some (.dK kvs)):kvs.length≤sizeLine∧(a == sysModules)=false∧∃ vs,KV kvs vs∧h.DictOf (J6 P w) a vs:=JfU ok (.inl e)
theorem JfM {ks:List JO} (ok:Zo P w H h) (e:H a=some (.tup (ks.map kV))):(tupleKind (J6 P w)).is h ks a:=by
 obtain ⟨_,its,r,o,h1,h2,n,h3⟩:=(show J9 P w H h a (.tup (ks.map kV)) from ok a _ e)
 exact ⟨o,its.toArray,n,h1,h2,h3,by simpa using Jg8 r⟩
theorem JfT {kvs:List (List JO×V)} (ok:Zo P w H h) (e:Rd H a (.dT kvs)):kvs.length≤sizeLine∧(a == sysModules)=false ∧
  ∃ xs,KT H kvs xs∧h.DictOfH (tupleKind (J6 P w)) a xs:=by
 obtain ⟨z,y,xs,r,o,es,ep,h1,h2,h3,h4,h5⟩:=(show J9 P w H h a (.dT kvs) from JmI ok e)
 refine ⟨z,y,xs,r,o,es,ep,h1,h2,h3,h4,fun x hx=>?_,h5⟩;have all:∀ {l:List (List JO×V)} {m:List (List JO×Addr×Value)},KT H l m→∀ x∈m,(tupleKind (J6 P w)).is h x.1 x.2.1:=by
  intro l m q
  induction q with
  | nil=>intro x hx; exact nomatch hx
  | @cons p q ps qs hq t ih =>
   intro x hx;rcases List.mem_cons.mp hx with e | hx
   ·subst e;exact JfM ok (by rw [← hq.1]; exact hq.2.1)
   ·exact ih x hx
 exact all r x hx
theorem Jo1 {kvs:List (List JO×V)} (ok:Zo P w H h) (e:H a=some (.dT kvs)):kvs.length≤sizeLine∧(a == sysModules)=false ∧
  ∃ xs,KT H kvs xs∧h.DictOfH (tupleKind (J6 P w)) a xs:=JfT ok (.inl e)
end
def Jat (H:Hp) (a:Addr) (y:V) (r:Option V):Prop :=
 (∃ kvs k,Rd H a (.dK kvs)∧y=kV k∧r=YC kvs k)∨∃ kvs k b,Rd H a (.dT kvs)∧y=.ref b∧H b=some (.tup (k.map kV))∧r=YC kvs k
def JeA (H:Hp) (a:Addr) (y v:V) (H':Hp):Prop :=
 (∃ kvs k,H a=some (.dK kvs)∧y=kV k∧kvs.length < sizeLine∧H'=upd H a (.dK (Jah kvs k v))) ∨
 ∃ kvs k b,H a=some (.dT kvs)∧y=.ref b∧H b=some (.tup (k.map kV))∧kvs.length < sizeLine∧H'=upd H a (.dT (Jah kvs k v))
theorem Jat.k {H:Hp} {a:Addr} {kvs:List (JO×V)} {k:JO} (e:H a=some (.dK kvs)):Jat H a (kV k) (YC kvs k):=.inl ⟨kvs,k,.inl e,rfl,rfl⟩
theorem Jat.t {H:Hp} {a b:Addr} {kvs:List (List JO×V)} {k:List JO} (e:H a=some (.dT kvs)) (eb:H b=some (.tup (k.map kV))):Jat H a (.ref b) (YC kvs k):=.inr ⟨kvs,k,b,.inl e,rfl,eb,rfl⟩
theorem JeA.k {H:Hp} {a:Addr} {kvs:List (JO×V)} {k:JO} {v:V} (e:H a=some (.dK kvs)) (hl:kvs.length < sizeLine):JeA H a (kV k) v (upd H a (.dK (Jah kvs k v))):=.inl ⟨kvs,k,e,rfl,hl,rfl⟩
theorem JeA.t {H:Hp} {a b:Addr} {kvs:List (List JO×V)} {k:List JO} {v:V} (e:H a=some (.dT kvs)) (eb:H b=some (.tup (k.map kV))) (hl:kvs.length < sizeLine) :
  JeA H a (.ref b) v (upd H a (.dT (Jah kvs k v))):=.inr ⟨kvs,k,b,e,rfl,eb,hl,rfl⟩
section
variable {X:Cx} {pins:List (Addr×Obj)} {σ:St} {H:Hp} {s:Shared} {a:Addr} {y v:V} {u r:Value} {o:Option V} {A:Around} {E:Value→Shared→Prop}
theorem Jk.big (I:Jk X pins σ H s):sysModules < s.heap.objs.size:=by
 have h:mainGlobals < s.heap.objs.size:=(I.mod.glob.keeps I.bk).lt;exact Nat.lt_trans (by decide) h
theorem Jk5 {Q:Value→Shared→Prop} (hu:A.units + 1 < cLine) (I:Jk X pins σ H s) (g:Jat H a y (some v)) (ry:JG y u) (h:∀ w' s',Jk X pins σ H s'→JG v w'→Q w' s') :
  wpAny (model X.prog X.w) A (getItem (.ref a) u) Q E s:=by
 rcases g with ⟨kvs,k,e,ey,l⟩ | ⟨kvs,k,b,e,ey,eb,l⟩
 ·subst ey;obtain ⟨z,hd,vs,rel,dd⟩:=JfU I.hok e;obtain ⟨w',hw,rw'⟩:=Z2.some_of (v:=v) (o:=valueAt vs k) (by rw [l]; exact rel.val k);exact wpAny_getItem_of (JfN ry) dd.mapOf hw (h w' _ (I.tok _) rw')
 ·subst ey;cases (show u=Value.ref b from ry);obtain ⟨z,hd,xs,rel,dd⟩:=JfT I.hok e;obtain ⟨w',hw,rw'⟩:=Z2.some_of (v:=v) (o:=(atKey xs k).map (·.2)) (by rw [l]; exact rel.val k);obtain ⟨p,hp,hp2⟩:=Option.map_eq_some_iff.mp hw;refine wpAny_getItem_heap (tupleKind_room_in1 hu) (JfM I.hok eb) dd hp ?_;rw [hp2];exact h w' _ (I.tok _) rw'
theorem Jjh {h':Heap} {t':Nat} {ob:HO} (I:Jk X pins σ H s) (mu:Mut (H a)) (hs:Heap.SameBut a s.heap h') (he:∃ q,h'.get? a=some q) (new:J9 X.prog X.w (upd H a ob) h' a ob) :
  Jk X pins σ (upd H a ob) { s with heap:=h',toks:=t' } :=
 I.write (x:=a) (e:=a) mu (.inl rfl) (fun b q hb z=>(hs.2 b hb).trans z) he new
theorem Jom {P:Program} {w:World} {H':Hp} {h':Heap} {kvs:List (JO×V)} {vs:List (JO×Value)} (z:kvs.length≤sizeLine) (hd:(a == sysModules)=false) (rel:KV kvs vs) (dd:h'.DictOf (J6 P w) a vs) :
  J9 P w H' h' a (.dK kvs):=⟨z,hd,vs,rel,dd⟩
theorem Jk4 {H':Hp} {Q:Unit→Shared→Prop} (hu:A.units + 1 < cLine) (I:Jk X pins σ H s) (g:JeA H a y v H') (ry:JG y u) (rv:JG v r) (h:∀ s',Jk X pins σ H' s'→Q () s') :
  wpAny (model X.prog X.w) A (setItem (.ref a) u r) Q E s:=by
 rcases g with ⟨kvs,k,e,ey,l,eH⟩ | ⟨kvs,k,b,e,ey,eb,l,eH⟩
 ·subst ey eH;obtain ⟨z,hd,vs,rel,dd⟩:=Jo2 I.hok e;have hz:vs.length≤sizeLine:=by rw [← rel.length]; exact z
  have hl:(Jah kvs k v).length≤sizeLine:=by have:=Je1 kvs k v; omega
  refine wpAny_setItem_pairs (hsz:=hz) (JfN ry) dd fun h' dd' hs=>h _ ?_
  have he:∃ q,h'.get? a=some q:=let ⟨q,_,_,hq,_⟩:=dd'; ⟨q,hq⟩;exact Jjh I (by rw [e]; exact True.intro) hs he (Jom hl hd (rel.put k rv) dd')
 ·subst ey eH;cases (show u=Value.ref b from ry);obtain ⟨z,hd,xs,rel,dd⟩:=Jo1 I.hok e;have hz:xs.length≤sizeLine:=by rw [← Paired.length rel]; exact z
  have hl:(Jah kvs k v).length≤sizeLine:=by have:=Je1 kvs k v; omega
  refine wpAny_setItem_heap (hsz:=hz) (tupleKind_room_in1 hu) (JfM I.hok eb) dd fun h' dd' hs=>h _ ?_
  obtain ⟨q,es,ep,hq,h2,h3,h4,_,h5⟩:=dd';refine Jjh I (by rw [e]; exact True.intro) hs ⟨q,hq⟩ ⟨hl,hd,_,(rel.put k eb rv).keeps fun c ys ec=>?_,q,es,ep,hq,h2,h3,h4,h5⟩;rw [Jq (Z5 ec e (fun z=>nomatch z))];exact ec
end
def Jov (i:Expr):Prop:=∀ ov iv,subscripted i false ov iv=operate [ov,iv] (getItem ov iv)
theorem JmY {prog:Program} {w:World} {A:Around} {E:Value→Shared→Prop} {s:Shared} {env:Env} {value slice:Expr} {pos:Pos} {T id:String} {Q:Value→Shared→Prop}
  (hl:typeLookup (.type T) "__getitem__" = pure (some (.builtin id))) (hs:Jov slice)
  (h:wpAny (model prog w) A (eval value env) (fun o s₁=>wpAny (model prog w) A (eval slice env) (fun i s₂=>s₂.TypeIs o T∧wpAny (model prog w) A (getItem o i) Q E s₂) E s₁) E s) :
  wpAny (model prog w) A (eval (.Subscript value slice pos) env) Q E s:=by
 refine Subscript_ (wpAny_mono h (fun o s₁ h₁=>wpAny_mono h₁ (fun i s₂ h₂=>?_) fun _ _ x=>x) fun _ _ x=>x);obtain ⟨hT,h₂⟩:=h₂;unfold subscriptTail;refine wpAny_bind ?_;rw [getitemInPython_of_ne hT.not_modules];refine wpAny_bind (wpAny_specialOf hT hl ?_);have fin:wpAny (model prog w) A (subscripted slice false o i) (fun r s₃=>wpAny (model prog w) A (letTemporaryGo value o r >>= fun _=>pure r) Q E s₃) E s₂:=by
  rw [hs o i];exact wpAny_operating (wpAny_mono h₂ (fun r s₃ h₃=>wpAny_bind (wpAny_letTemporaryGo (wpAny_pure h₃))) fun _ _ x=>x)
 first
  | exact wpAny_pure (wpAny_bind fin)
  | exact wpAny_bind (wpAny_pure (wpAny_bind fin))
  | exact wpAny_bind fin
theorem JiR {X:Cx} {pins:List (Addr×Obj)} {σ:St} {H:Hp} {s:Shared} {a:Addr} {y:V} {o:Option V} (I:Jk X pins σ H s) (g:Jat H a y o):s.TypeIs (.ref a) "dict":=by
 rcases g with ⟨kvs,k,e,_,_⟩ | ⟨kvs,k,b,e,_,_,_⟩
 ·obtain ⟨_,_,vs,_,dd⟩:=JfU I.hok e;exact dd.typeIs
 ·obtain ⟨_,_,xs,_,dd⟩:=JfT I.hok e;exact dd.typeIs
def JoH (td ty:TE):TE:=fun σ H Q=>td σ H fun x H1=>ty σ H1 fun y H2=>∃ a v,x=.ref a∧Jat H2 a y (some v)∧Q v H2
def JoM (td ty tv:TE):TS:=fun D σ H=>tv σ H fun v H1=>td σ H1 fun x H2=>ty σ H2 fun y H3=>∃ a H4,x=.ref a∧JeA H3 a y v H4∧D.nx σ H4
section
variable {X:Cx} {o i e value:Expr} {pos pos' tpos:Pos} {td ty tv:TE}
theorem Jax (hu:X.A.units + 1 < cLine) (ho:PE X o td) (hi:PE X i ty) (hs:Jov i):PE X (.Subscript o i pos) (JoH td ty):=by
 intro pins s σ H Q I h;refine JmY PySem.F.slot_dict_getitem.lookup hs (JJ (ho pins s σ H _ I h) fun u s1 ⟨x,H1,I1,rx,q1⟩=>JJ (hi pins s1 σ H1 _ I1 q1) fun iv s2 ⟨y,H2,I2,ry,a,v,ex,g,q2⟩=>?_);subst ex;obtain rfl:u=Value.ref a:=rx;exact ⟨JiR I2 g,Jk5 hu I2 g ry fun w' s3 I3 rw'=>⟨v,H2,I3,rw',q2⟩⟩
theorem Ji1 (hu:X.A.units + 1 < cLine) (ho:PE X o td) (hi:PE X i ty) (hv:PE X value tv) (hs:swapsWith value (some (.Subscript o i pos')) pos.line X.env=pure false) :
  PS X (.Assign [.Subscript o i pos'] value pos) (JoM td ty tv):=by
 intro pins s σ H D I h;refine wpAny_Assign_Subscript (JJ (hv pins s σ H _ I h) fun r s1 ⟨v,H1,I1,rv,q1⟩=>JJ (ho pins s1 σ H1 _ I1 q1) fun u s2 ⟨x,H2,I2,rx,q2⟩=>JJ (hi pins s2 σ H2 _ I2 q2) fun iv s3 ⟨y,H3,I3,ry,a,H4,ex,g,q3⟩=>?_) hs;subst ex;obtain rfl:u=Value.ref a:=rx;exact Jk4 hu I3 g ry rv fun s4 I4=>⟨σ,H4,I4,q3⟩
end
theorem Jmr {P:Program} {w:World} {H:Hp} (h:Heap) (hb:sysModules < h.objs.size):J9 P w H (h.push { cls:=.type "dict",data:=.dict #[] }) h.objs.size (.dK []) :=
 ⟨Nat.zero_le _,beq_eq_false_iff_ne.mpr (Ne.symm (Nat.ne_of_lt hb)),[],.nil,Heap.DictOf.new h⟩
theorem Jmq {P:Program} {w:World} {H:Hp} (h:Heap) (hb:sysModules < h.objs.size):J9 P w H (h.push { cls:=.type "dict",data:=.dict #[] }) h.objs.size (.dT []) :=
 ⟨Nat.zero_le _,beq_eq_false_iff_ne.mpr (Ne.symm (Nat.ne_of_lt hb)),[],.nil,_,#[],0,Heap.get?_push_size _ rfl,⟨rfl,rfl,rfl⟩,rfl,rfl,List.nodup_nil⟩
def JnG:TE:=fun _ H Q=>∀ p,H p=none→Q (.ref p) (upd H p (.dK []))
def JnF:TE:=fun _ H Q=>∀ p,H p=none→Q (.ref p) (upd H p (.dT []))
section
variable {X:Cx} {pos:Pos}
theorem Jl3:PE X (.Dict [] [] pos) JnG:=fun pins s σ H Q I h =>
 wpAny_Dict_empty ⟨.ref s.heap.objs.size,_,I.laid (a:=s.heap.objs.size) (o:=.dK []) (t':=s.toks) (fun _ _ q=>Heap.get?_push_of_some _ q) (Nat.le_refl _) (Jmr s.heap I.big),rfl,h _ (I.hok.fresh (Nat.le_refl _))⟩
theorem Jl2:PE X (.Dict [] [] pos) JnF:=fun pins s σ H Q I h =>
 wpAny_Dict_empty ⟨.ref s.heap.objs.size,_,I.laid (a:=s.heap.objs.size) (o:=.dT []) (t':=s.toks) (fun _ _ q=>Heap.get?_push_of_some _ q) (Nat.le_refl _) (Jmq s.heap I.big),rfl,h _ (I.hok.fresh (Nat.le_refl _))⟩
end
structure M2 (X:Cx) (o:Expr) (m:Str) (apos:Pos) (e f:Expr) (cpos:Pos):Prop where
 base:attributeBase o m X.env (eval o X.env)=eval o X.env
 few:((backTo cpos (starEach [e,f] X.env)).all (fun x=>!x.1) && (backToKw cpos (keywordEach [] X.env)).all (fun x=>x.1.isSome)
  && decide (([e,f]:List Expr).length + ([]:List Keyword).length + (if ([]:List Keyword).isEmpty then 0 else 1) < 30))=true
 line:(apos.endLine == cpos.line)=true
 trees:backTo cpos (starEach [e,f] X.env)=[(false,eval e X.env),(false,eval f X.env)]
def IsD (H:Hp) (a:Addr):Prop:=(∃ kvs,Rd H a (.dK kvs))∨∃ kvs,Rd H a (.dT kvs)
theorem Joj {X:Cx} {pins:List (Addr×Obj)} {σ:St} {H:Hp} {s:Shared} {a:Addr} (I:Jk X pins σ H s) (d:IsD H a) :
  s.TypeIs (.ref a) "dict"∧(∀ b,Value.ref a=.ref b→∃ ob,s.heap.get? b=some ob∧ob.dict=none)∧(a == sysModules)=false:=by
 rcases d with ⟨kvs,e⟩ | ⟨kvs,e⟩
 ·obtain ⟨_,hd,vs,_,dd⟩:=JfU I.hok e;refine ⟨dd.typeIs,fun b q=>?_,hd⟩;cases q;obtain ⟨ob,_,_,h1,h2,_⟩:=dd;exact ⟨ob,h1,h2.2.1⟩
 ·obtain ⟨_,hd,xs,_,dd⟩:=JfT I.hok e;refine ⟨dd.typeIs,fun b q=>?_,hd⟩;cases q;obtain ⟨ob,_,_,h1,h2,_⟩:=dd;exact ⟨ob,h1,h2.2.1⟩
section
variable {X:Cx} {pins:List (Addr×Obj)} {σ:St} {H:Hp} {s:Shared} {a:Addr} {y d:V} {u r:Value} {o:Option V} {A:Around} {E:Value→Shared→Prop}
theorem Joo {Q:Value→Shared→Prop} (hu:A.units + 1 < cLine) (I:Jk X pins σ H s) (g:Jat H a y o) (ry:JG y u) (rd:JG d r) (h:∀ w' s',Jk X pins σ H s'→JG (o.getD d) w'→Q w' s') :
  wpAny (model X.prog X.w) A (call (.builtin "dict.get") [.ref a,u,r]) Q E s:=by
 rcases g with ⟨kvs,k,e,ey,l⟩ | ⟨kvs,k,b,e,ey,eb,l⟩
 ·subst ey;obtain ⟨z,hd,vs,rel,dd⟩:=JfU I.hok e;refine call_meetsIn PySem.F.slot_dict_get dd.typeIs PySem.F.entry_dict_get (PySem.F.args_dict_get_3 _ _ _) (meets_dict_get_default (J6 X.prog X.w) a (JfN ry) hd r) ⟨_,dd.mapOf,h _ _ (I.tok _) ?_⟩;rw [l];exact (rel.val k).getD rd
 ·subst ey;cases (show u=Value.ref b from ry);obtain ⟨z,hd,xs,rel,dd⟩:=JfT I.hok e;refine call_meetsIn PySem.F.slot_dict_get dd.typeIs PySem.F.entry_dict_get (PySem.F.args_dict_get_3 _ _ _) (meetsH_dict_get_default (tupleKind (J6 X.prog X.w)) a b hd r) ⟨tupleKind_room_in1 hu,k,xs,JfM I.hok eb,dd,h _ _ (I.tok _) ?_⟩;rw [l];exact (rel.val k).getD rd
end
def JnH (td ty tx:TE):TE:=fun σ H Q=>td σ H fun x H1=>∃ a,x=.ref a∧IsD H1 a∧ty σ H1 fun y H2=>tx σ H2 fun z H3=>∃ o,Jat H3 a y o∧Q (o.getD z) H3
section
variable {X:Cx} {o e f:Expr} {apos cpos:Pos} {td ty tx:TE}
theorem Jl4 (hu:X.A.units + 1 < cLine) (ho:PE X o td) (he:PE X e ty) (hf:PE X f tx) (m:M2 X o "get" apos e f cpos):PE X (.Call (.Attribute o "get" apos) [e,f] [] cpos) (JnH td ty tx):=by
 intro pins s σ H Q I h;refine wpAny_Call_method m.base m.few m.line PySem.F.plainAttrs_dict PySem.F.slot_dict_get PySem.F.type_dict_get (JJ (ho pins s σ H _ I h) fun u s1 ⟨x,H1,I1,rx,a,ex,d,q1⟩=>?_);subst ex;obtain rfl:u=Value.ref a:=rx;obtain ⟨t1,t2,_⟩:=Joj I1 d;refine ⟨t1,t2,?_⟩;rw [m.trees];refine Calls.callWith_builtin rfl (Calls.evalArgs_plain (Calls.spliced_cons (JJ (he pins s1 σ H1 _ I1 q1) fun iv s2 ⟨y,H2,I2,ry,q2⟩ =>
  Calls.spliced_cons (JJ (hf pins s2 σ H2 _ I2 q2) fun fv s3 ⟨z,H3,I3,rz,ov,g,q3⟩=>Calls.spliced_nil ?_))))
 exact Joo hu I3 g ry rz fun w' s4 I4 rw'=>⟨_,H3,I4,rw',q3⟩
end
end L2
namespace Att
open PySem PySem.W PySem.Calls PyProof.Rows
theorem JfQ {P:Params} {h:Heap}:∀ (ns:List Int) (vs:List Value),WellAll P h vs (ns.map WData.int)→IntsAre vs ns:=by
 intro ns
 induction ns with
 | nil =>
  intro vs w;rw [List.map_nil] at w;cases w;exact .nil
 | cons n ns ih =>
  intro vs w;rw [List.map_cons] at w;cases w with
  | cons a b =>
   cases a;exact .cons _ _ (ih _ b)
theorem Jks {l:OpenLaw} {n:Nat} (hn:l.most=some n) {P:Params} {h:Heap} {args:List WData} {vals:List Value}
  (hpre:l.row.toRowW.claim.pre args=true) (hwl:WellAll P h vals args) :
  ∃ a vs ns,vals=[Value.ref a]∧args=[WData.list (ns.map WData.int)]∧h.get? a=some { cls:=.type "list",data:=.seq vs.toArray }∧IntsAre vs ns∧ns.length≤n:=by
 have hsh:WShape.hasAll [] args [.list .int]=true:=(pre_splitW hpre).1;have hc:l.pre.holds [] { args:=args }=true:=(pre_splitW hpre).2;obtain ⟨d,r,rfl,h1,h2⟩:=hasAllW_cons hsh;obtain rfl:=hasAllW_nil h2;obtain ⟨xs,rfl,h3⟩:=hasW_list h1;obtain ⟨ns,rfl⟩:=items_int h3;have hlen:ns.length≤n:=by
  unfold OpenLaw.pre at hc;have h4:(WTm.not (.lt (.lit (.int (n:Int))) (.len (.arg 0)))).holds [] { args:=[.list (ns.map .int)] }=true:=by
   have h4:=(holds_andW hc).1;rw [hn] at h4;exact h4
  have h5:=condW_of h4 (w_not (w_lt w_lit (w_len_list (w_arg rfl))));rw [List.length_map] at h5;refine Nat.le_of_not_lt fun q=>?_
  have q':(n:Int) < ((ns.length:Nat):Int):=by omega
  first
   | (rw [decide_eq_true q'] at h5; exact absurd h5 (by decide))
   | (simp at h5; omega)
 cases hwl with
 | cons w1 w2 =>
  cases w2;cases w1 with
  | list ho hall=>exact ⟨_,_,ns,rfl,rfl,ho,JfQ ns _ hall,hlen⟩
theorem Jkw (l:OpenLaw) (args:List WData):l.row.toRowW.claim.post args (.bool true) args=true :=
 postW_of (r:=l.row.toRowW) (X:=(true == true))
  (show WShape.has [] (.bool true) .bool=true by first | rfl | decide | simp [WShape.has,WShape.arms,WShape.armsAll])
  (show (WTm.eq .res (.lit (.bool true))).value [] { args:=args,res:=some (.bool true),after:=args }=some (.bool (true == true)) from w_eq_bool (w_res rfl) w_lit) rfl
theorem JiU {l:OpenLaw} {n:Nat} {q:Program} {loose:List Str} {XP:(Str→Option Value)→Heap→Prop} {YP:World→Heap→Prop} {d:DefRec}
  (hn:l.most=some n) (hdf:d.params.defaults=[])
  (call:∀ (w:World) (s₀ s₁:Shared) (mg mb:Str→Option Value) (fa:Addr) (o:Obj) (pm cd doc:Value) (a:Addr) (vs:List Value) (ns:List Int),
   Ground q loose [] XP w s₀ mg mb s₁.heap→YP w s₁.heap →
   s₁.heap.get? fa=some o→o.data=.func (docDef d.name d.params d.body d.scope pm cd doc)→s₁.heap.CodeRec cd d.name→mg d.name=some (.ref fa) →
   s₁.heap.get? a=some { cls:=.type "list",data:=.seq vs.toArray }→IntsAre vs ns→ns.length≤n→s₁.gens=#[] →
   codeAny (model l.prog w) callerA (.call (.ref fa) ⟨[.ref a],[]⟩) (fun r s'=>r=.ok (.ret (.bool true))∧OldK s₁.heap s'.heap∧s'.os=s₁.os∧AllBare s'.gens) s₁) :
  WalkO q loose XP YP l.row.toRowW d [] (fun f vs=>PySem.call f vs):=by
 intro w s₀ s₁ mg mb G Y fa o pm cd doc dV kV ho hd hcd hD hmg hg args vals as hpre hlay hrd hwl hlo;obtain rfl:dV=.none:=Dflts.none hD hdf;obtain rfl:kV=.none:=Dflts.noKw hD;obtain ⟨a,vs,ns,rfl,rfl,hobj,hints,hlen⟩:=Jks hn hpre hwl;refine enter_call (codeAny_mono (call w s₀ s₁ mg mb fa o pm cd doc a vs ns G Y ho (fd_plain hd) hcd hmg hobj hints hlen hg) fun r s' hq=>?_);obtain ⟨rfl,h2,h3,h4⟩:=hq;exact ⟨.inl ⟨.bool true,.bool true,[],rfl,fun _=>rfl,.bool true,Jkw l _,fun _=>⟨List.Pairwise.nil,fun _ hm=>(nomatch hm)⟩⟩,h2,h3,h4⟩
end Att
namespace L2
open PySem PySem.Spec PyProof.Rows
theorem JgU:∀ {vs:List Value} {ns:List Int},IntsAre vs ns→Jw (ns.map V.int) vs
 | _,_,.nil=>.nil
 | _,_,.cons n t h=>.cons ⟨t,rfl⟩ (JgU h)
def JmA (H:Hp):Prop:=∀ b,H b=none∨∃ o xs,H b=some (.frz o (.lst xs))
theorem Jmh {P:Program} {w:World} {K:PySem.W.Frag} {mg mb:Str→Option Value} {CX:CXT} {k:Nat} {fa a:Addr} {fd:FuncData} {x:Str} {sp:Sp} {s₁:Shared} {vs:List Value} {ns:List Int}
  (KX:K.In s₁.heap) (hns:s₁.heap.Ns mainGlobals mg) (hb:s₁.heap.Ns builtinsNs mb) (hbb:∀ x:Str,x ≠ "__name__"→mb x=bootBuiltins x) (hlim:s₁.heap.NoLimit) (hg:s₁.gens=#[])
  (ha:s₁.heap.get? a=some { cls:=.type "list",data:=.seq vs.toArray }) (hi:IntsAre vs ns) (hl:ns.length≤sizeLine) (hr:YD k callerA)
  (F:∀ base:Heap,K.In base→base.Ns mainGlobals mg→JM P w K mg base CX k fa fd [x] sp) (hbind:∀ (s:Shared) (u:Value),BindsTo s fd ⟨[u],[]⟩ [(x,u)])
  (hsp:∀ H:Hp,JmA H→Jo K H a (ns.map V.int)→sp [.ref a] H (fun v _=>v=.bl true) fun _ _ _=>False)
  (hCX:∀ H e s',CX [] H s₁ (fun _ _ _=>False) e s'→False) :
  codeAny (model P w) callerA (.call (.ref fa) ⟨[.ref a],[]⟩) (fun r s'=>r=.ok (.ret (.bool true))∧OldK s₁.heap s'.heap∧s'.os=s₁.os∧AllBare s'.gens) s₁:=by
 have rv:=JgU hi;have lenV:=hi.length;have core:∀ H:Hp,JmA H→Jo K H a (ns.map V.int)→Zo P w H s₁.heap→(∀ b,H b≠none→b=a)→(H a≠none→K.lookup a=none) →
   codeAny (model P w) callerA (.call (.ref fa) ⟨[.ref a],[]⟩) (fun r s'=>r=.ok (.ret (.bool true))∧OldK s₁.heap s'.heap∧s'.os=s₁.os∧AllBare s'.gens) s₁:=by
  intro H hO hS hok hA hK;have base_of:∀ {b:Addr} {o:Obj},s₁.heap.get? b=some o→H b=none→(JdU s₁.heap H).get? b=some o:=fun e n=>Jmj e n
  have noA:∀ {b:Addr} {o:Obj} {es:Array DictEntry} {ep:Nat},s₁.heap.get? b=some o→o.data=.dict es ep→H b=none:=fun {b o es ep} e d=>by
   cases q:H b with
   | none=>rfl
   | some u =>
    have e':b=a:=hA b (by rw [q]; simp);subst e';rw [ha] at e; cases e;have d':Data.seq vs.toArray _=Data.dict es ep:=d;cases d'
  have nsK:∀ {b:Addr} {m:Str→Option Value},s₁.heap.Ns b m→(JdU s₁.heap H).Ns b m:=fun {b m} ⟨o,es,ep,e,d,r⟩=>⟨o,es,ep,base_of e (noA e d),d,r⟩
  have hKb:K.In (JdU s₁.heap H):=fun b o e=>base_of (KX b o e) (by
   cases q:H b with
   | none=>rfl
   | some u =>
    have e':b=a:=hA b (by rw [q]; simp);subst e';rw [hK (by rw [q]; simp)] at e; cases e)
  have hM:Mod K mg (JdU s₁.heap H):=⟨hKb,nsK hns,⟨mb,nsK hb,hbb⟩,let ⟨mc,h1,h2⟩:=hlim; ⟨mc,nsK h1,h2⟩⟩
  have e0:Jdp P w K mg (JdU s₁.heap H) callerA [] s₁ H:=⟨rfl,hM,fun b o e=>Jni e,Nat.le_of_eq (JkW _ _),trivial,fun b hb=>absurd (show b∈([]:List Addr) from hb) (by simp),hok,.of_eq hg⟩
  refine codeAny_mono ((F _ hKb (nsK hns)).run callerA [] s₁ H ⟨[.ref a],[]⟩ [.ref a] [.ref a] _ _ hr e0 (hbind s₁ (.ref a)) (.cons rfl .nil) (hsp H hO hS)) fun r s' h=>?_
  cases r with
  | error e=>exact (hCX H e s' h).elim
  | ok fl =>
   cases fl with
   | next=>exact False.elim h
   | brk=>exact False.elim h
   | cont=>exact False.elim h
   | ret u =>
    obtain ⟨v,H',os,bare,un,hok',r',q⟩:=h;have q':v=.bl true:=q;subst q';obtain rfl:u=Value.bool true:=r';refine ⟨rfl,OldK.of_keep fun b o e=>?_,os,bare⟩;cases q:H b with
    | none=>exact un.keep b o e q (by intro z; exact absurd (show b∈([]:List Addr) from z) (by simp)) (by simp)
    | some u =>
     rcases hO b with z | ⟨ob,xs,z⟩
     ·rw [q] at z; cases z
     ·have z2:=un.frzs b ob _ z;obtain ⟨e1,_⟩:=hok b _ z;obtain ⟨e2,_⟩:=hok' b _ z2;rw [e] at e1; cases e1;exact e2
 cases hk:K.lookup a with
 | some o =>
  have e:=KX a o hk;rw [ha] at e;cases e;refine core (fun _=>none) (fun _=>.inl rfl) (.inr ⟨_,vs.toArray,_,hk,rfl,rfl,rfl,by rw [List.size_toArray,lenV]; exact hl,by simpa using rv⟩) (fun b u z=>by have z':(none:Option HO)=some u:=z; cases z') (fun b z=>absurd rfl z) fun z=>absurd rfl z
 | none =>
  refine core (fun b=>if b=a then some (.frz { cls:=.type "list",data:=.seq vs.toArray } (.lst (ns.map V.int))) else none) (fun b=>?_) (.inl (.inr ⟨{ cls:=.type "list",data:=.seq vs.toArray },if_pos rfl⟩)) (fun b u z=>?_) (fun b z=>?_) fun _=>hk
  ·by_cases hb:b=a
   ·exact .inr ⟨_,_,if_pos hb⟩
   ·exact .inl (if_neg hb)
  ·by_cases hb:b=a
   ·have z':=(if_pos hb).symm.trans z;cases z';subst hb;exact ⟨ha,by rw [List.length_map]; exact hl,vs,_,rv,ha⟩
   ·have z':=(if_neg hb).symm.trans z;cases z'
  ·by_cases hb:b=a
   ·exact hb
   ·exact absurd (if_neg hb) z
end L2
namespace L2
open PySem PySem.Spec PyProof.Rows
abbrev Y6:CXT:=fun _ _ _ _ _ _=>False
abbrev E0:XK:=fun _ _ _=>False
theorem JL {X:Cx}:Jbj Y6 X E0:=fun _ _ _ _ _ _ _ h=>h.elim
structure Fun (K:PySem.W.Frag) (x qual:Str) (st:Stmt) (f:Addr) (fd:FuncData):Prop where
 ex:∃ (oc:Value) (od:Option Addr) (kV doc pm:Value) (an:Option Addr) (cdv ct:Value) (osl:Array (Option Value)),
  fd=PySem.W.fnOf x qual (JcC st) (JaX st) (Jl st) .none kV doc pm an cdv ct∧K.lookup f=some ⟨oc,od,.func fd,osl⟩∧PySem.W.codeIn K cdv qual=true
 kp:PySem.W.keepIn K (.ref f)=true
section
variable {P:Program} {w:World} {K:PySem.W.Frag} {mg:Str→Option Value} {base:Heap}
theorem Fun.ok {x qual:Str} {st:Stmt} {f:Addr} {fd:FuncData} {N ps:List Str} {k:Nat} {sp:Sp} (F:Fun K x qual st f fd) (S:Jx N ps (Jl st)) (len:∀ vs H Q E,sp vs H Q E→vs.length=ps.length)
  (hbody:∀ (cdv:Value) (A:Around) (outer:List Env) (s:Shared) (H:Hp) (vs:List V) (Q:VK) (E:XK),YD k (A.deeper (envOfC qual (Jl st) s.heap.objs.size f cdv))→sp vs H Q E →
   ∃ t,PSs (Zt Y6 P w K mg base N qual (Jl st) f cdv A outer s H E).nox (JaX st) t∧t { nx:=fun _ H'=>Q .non H',rt:=Q } (Yj N vs) H):JM P w K mg base Y6 (k + 1) f fd ps sp:=by
 obtain ⟨oc,od,kV,doc,pm,an,cdv,ct,osl,rfl,lk,hcd⟩:=F.ex;refine JmO lk hcd S len fun A outer s H vs Q E hr hsp=>?_
 obtain ⟨t,h,q⟩:=hbody cdv A outer s H vs Q E hr hsp;exact ⟨t,h.nox,q⟩
theorem Fun.binds {x qual:Str} {st:Stmt} {f:Addr} {fd:FuncData} {ps:List Str} (F:Fun K x qual st f fd)
  (h:∀ (kV doc pm:Value) (an:Option Addr) (cdv ct:Value) (us:List Value),us.length=ps.length→bindArgs (PySem.W.fnOf x qual (JcC st) (JaX st) (Jl st) .none kV doc pm an cdv ct) ⟨us,[]⟩=pure (ps.zip us)):JbS K fd ps []:=by
 obtain ⟨oc,od,kV,doc,pm,an,cdv,ct,osl,rfl,lk,hcd⟩:=F.ex;exact .all (h kV doc pm an cdv ct)
end
theorem Jcu {A:Around} {k:Nat} (hr:YD k A):A.units + 1 < cLine:=Nat.lt_of_le_of_lt (Nat.add_le_add_left (by decide:1≤64) _) hr.units
section
variable {X:Cx}
theorem pv (i:Nat) {x:Str} {pos:Pos} (hN:X.N[i]?=some x:=by rfl) (hv:Vis X.env.scope x:=by first | exact Or.inl rfl | exact Or.inr (Or.inl rfl) | exact Or.inr (Or.inr rfl)) (hd:(x == ("__debug__" : Str))=false:=by decide)
  (hcd:(x == ("__classdict__" : Str))=false:=by decide):PE X (.Name x pos) (Jjs i):=Jh1 hN hv hd hcd
end
theorem ZJ {A B:Prop} (h:B):if false=true then A else B:=by
 rw [if_neg Bool.false_ne_true];exact h
theorem Y9 {A B:Prop} (h:A):if true=true then A else B:=by
 rw [if_pos rfl];exact h
theorem Yw {c A B:Prop} [Decidable c] (h1:c→A) (h2:¬ c→B):if c then A else B:=by
 by_cases h:c
 ·rw [if_pos h];exact h1 h
 ·rw [if_neg h];exact h2 h
def Jg (H H':Hp):Prop:=∀ b o,H b=some o→H' b=some o
theorem Jg.refl (H:Hp):Jg H H:=fun _ _ h=>h
theorem Jg.trans {H H1 H2:Hp} (a:Jg H H1) (b:Jg H1 H2):Jg H H2:=fun c o h=>b c o (a c o h)
theorem Jg.free {H H':Hp} (e:Jg H H') {l:Addr} (h:H' l=Option.none):H l=Option.none:=by
 cases q:H l with
 | none=>rfl
 | some o =>
  rw [e l o q] at h;cases h
theorem Jg.seq {K:PySem.W.Frag} {H H':Hp} {a:Addr} {xs:List V} (e:Jg H H') (h:Jo K H a xs):Jo K H' a xs:=by
 rcases h with (h | ⟨o,h⟩) | h
 ·exact .inl (.inl (e _ _ h))
 ·exact .inl (.inr ⟨o,e _ _ h⟩)
 ·exact .inr h
end L2
namespace L2
open PySem PySem.Spec PyProof.Rows
structure Df (K:PySem.W.Frag) (mg:Str→Option Value) (x:Str) (st:Stmt) (ps:List Str) (f:Addr) (fd:FuncData):Prop where
 F:Fun K x x st f fd
 b:JbS K fd ps []
 m:mg x=some (.ref f)
section
variable {X:Cx} {CX:CXT} {k:Nat} {f C:Addr} {fd:FuncData} {ps:List Str} {sp:Sp} {E:XK} {x m:Str} {p pos apos:Pos} {st:Stmt} {e o:Expr} {es:List Expr} {te ta:TE} {t:TA}
theorem Jn (D:Df X.K X.mg x st ps f fd) (G:JM X.prog X.w X.K X.mg X.base CX k f fd ps sp) (hr:YD k X.A) (hx:Jbj CX X E) (ha:PA X (e :: es) t)
  (hg:Gl X x:=by rfl) (hdb:(x == ("__debug__" : Str))=false:=by decide) (he:starEach (e :: es) X.env=(false,eval e X.env) :: starEach es X.env:=by rfl) (hpl:(backTo pos (starEach es X.env)).any (·.1)=false:=by rfl) :
  PE X (.Call (.Name x p) (e :: es) [] pos) (JmH sp [] E t):=Jnc G hr hg D.m D.F.kp D.b .nil hx ha hdb he hpl
def Joq:V→Value
 | .ty n=>.type n
 | .ref a=>.ref a
 | _=>.none
theorem JbQ:Zd X (.builtin "isinstance") (fun xs H Q=>∃ x c t b,xs=[x,c]∧(∃ n,c=.ty n∨∃ a,c=.ref a)∧JbI X.K H x t∧PySem.W.kitOne X.K t (Joq c)=some b∧Q (.bl b) H):=by
 intro pins s σ H xs us Q I r h;obtain ⟨x,c,t,b,rfl,hc,ty,e,q⟩:=h;cases r with
 | cons r rr =>
  cases rr with
  | cons r' rr =>
   cases rr;rename_i u u';have e':u'=Joq c:=by
    obtain ⟨n,rfl | ⟨a,rfl⟩⟩:=hc
    ·exact r'
    ·exact r'
   subst e';exact JkT I r ty e fun tk=>⟨.bl b,H,I.tok _,rfl,q⟩
def JoW (S C:String):Option Bool:=if (Value.type S == Value.type C)=true then some true else if PySem.W.kitMeta C=true then (fastBuiltinMro S).map (·.contains (Value.type C)) else none
theorem JfL {K:PySem.W.Frag} {S C:String} {b:Bool} (h:JoW S C=some b):PySem.W.kitOne K (.type S) (.type C)=some b:=h
theorem Joe {K:PySem.W.Frag}:PySem.W.kitOne K (.type "int") (.type "int")=some true:=JfL (by decide +kernel)
theorem Jof {K:PySem.W.Frag}:PySem.W.kitOne K (.type "int") (.type "bool")=some false:=JfL (by decide +kernel)
theorem Jod {K:PySem.W.Frag}:PySem.W.kitOne K (.type "int") (.type "str")=some false:=JfL (by decide +kernel)
theorem JkO {K:PySem.W.Frag}:PySem.W.kitOne K (.type "str") (.type "str")=some true:=JfL (by decide +kernel)
end
def Jpo (t:TS):TS:=fun D σ H=>@Jey.rec (fun _=>Prop) (fun nx rt bk ct=>∃ R:St→Hp→Prop,t ⟨R,rt,bk,ct⟩ σ H∧∀ σ' H',R σ' H'→nx σ' H') D
theorem J2 {X:Cx} {st:Stmt} {t:TS} (h:PS X st t):PS X st (Jpo t):=by
 intro pins s σ H D I ⟨R,q,n⟩;refine JJ (h pins s σ H _ I q) fun f s1 z=>?_
 cases f with
 | next =>
  obtain ⟨σ',H',I',r⟩:=z;exact ⟨σ',H',I',n _ _ r⟩
 | brk=>exact z
 | cont=>exact z
 | ret u=>exact z
theorem Jg.upd {H:Hp} {p:Addr} {o:HO} (h:H p=none):Jg H (upd H p o):=fun b u e=>by
 rw [Jq (Jr e h)];exact e
theorem Jg.tup {K:PySem.W.Frag} {H H':Hp} {a:Addr} {xs:List V} (e:Jg H H') (h:JT K H a xs):JT K H' a xs:=by
 rcases h with (h | ⟨o,h⟩) | h
 ·exact .inl (.inl (e _ _ h))
 ·exact .inl (.inr ⟨o,e _ _ h⟩)
 ·exact .inr h
theorem Zr {c:Bool} {A B:Prop} (hc:c=true) (h:A):if c=true then A else B:=by rw [if_pos hc]; exact h
theorem YA {c:Bool} {A B:Prop} (hc:c=false) (h:B):if c=true then A else B:=by rw [hc,if_neg Bool.false_ne_true]; exact h
section
variable {X:Cx} {x:Str} {pos:Pos}
theorem JfE {S:String} (hg:Gl X x) (hm:X.mg x=none) (hv:bootBuiltins x=some (.type S)) (hn:x ≠ "__name__":=by decide) (hd:(x == ("__debug__" : Str))=false:=by decide):PE X (.Name x pos) (tC (.ty S)):=Jnd hg hm hv rfl hn hd
theorem Ji4 {a:Addr} (hg:Gl X x) (hm:X.mg x=some (.ref a)) (hd:(x == ("__debug__" : Str))=false:=by decide):PE X (.Name x pos) (tC (.ref a)):=Jaw hg hm rfl hd
end
end L2
namespace L2
open PySem PySem.Spec PyProof.Rows
structure ExC (K:PySem.W.Frag) (C:Addr):Prop where
 ex:PySem.W.excIn K C [.type "ValueError",.type "Exception",.type "BaseException",.type "object"] "ValueError.__new__" = true
 ga:PySem.W.findIn K (.ref C) "__getattribute__" = some (some (.builtin "BaseException.__getattribute__"))
 gt:PySem.W.findIn K (.ref C) "__getattr__" = some none
 cl:PySem.W.findIn K (.ref C) "__class__" = some (some (.builtin "object.__class__"))
 sp:PySem.W.specialIn K (.builtin "object.__class__") "__get__" = some (some (.builtin "getset_descriptor.__get__"))
 tk:PySem.W.takesIn K (.builtin "object.__class__")=some true
 mo:PySem.W.mroIn K C (.type "object")=some true
 mb:PySem.W.mroIn K C (.type "BaseException")=some true
 ci:(PySem.W.clsIn K C).isSome=true
section
variable {prog:Program} {w:World} {A:Around} {E:Value→Shared→Prop} {s:Shared} {K:PySem.W.Frag} {e C:Addr} {oe:Obj}
def Joy (h:Heap) (e C:Addr):Prop:=∃ oe,h.get? e=some oe∧oe.cls=.ref C
theorem Joy.type {h:Heap} {M:Model} (I:Joy h e C):PySem.W.Looks M h (typeOf (.ref e)) (.ref C):=by
 obtain ⟨oe,h1,h2⟩:=I;exact h2 ▸ (PySem.W.Looks.ld h1).andThen .now
end
structure Jka (P:Program) (w:World) (outer:List Env) (H:Hp) (h:Heap) (ea C:Addr) (B:Heap) (H':Hp) (h':Heap):Prop where
 fly:∃ a0,Heap.FlyingW B outer ea (.ref C) a0 h'
 hok:Zo P w H' B
 keep:∀ b o,h.get? b=some o→H b=none→b∉Zn outer→B.get? b=some o
 there:∀ b o,h.get? b=some o→b∉Zn outer→∃ o',B.get? b=some o'
 slot:∀ b o,h.get? b=some o→b∈Zn outer→∃ sl,h'.get? b=some { o with slots:=sl }
 free:∀ b o,h.get? b=some o→H b=none→H' b=none
 tups:∀ b xs,H b=some (.tup xs)→H' b=some (.tup xs)
 frzs:∀ b o u,H b=some (.frz o u)→H' b=some (.frz o u)
 tbls:∀ b ps,H b=some (.tbl ps)→∃ more,H' b=some (.tbl (ps ++ more))
theorem Jka.un {P:Program} {w:World} {outer:List Env} {H H':Hp} {h h' h'' B:Heap} {ea C:Addr} (F:Jka P w outer H h ea C B H' h') (st:B.StaysIn h'') (sl:∀ b o,h.get? b=some o→b∈Zn outer→∃ sl,h''.get? b=some { o with slots:=sl }) :
  Un (Zn outer) [] H H' h h'' where
 keep:=fun b o e n hb _=>st b o (F.keep b o e n hb)
 slot:=fun b o e n hb _=>sl b o e hb
 free:=fun b o e n _=>F.free b o e n
 there:=fun b o e _=>by
  by_cases hb:b∈Zn outer
  ·obtain ⟨s,q⟩:=sl b o e hb;exact ⟨_,q⟩
  ·obtain ⟨o',q⟩:=F.there b o e hb;exact ⟨o',st b o' q⟩
 tups:=F.tups
 frzs:=F.frzs
 tbls:=F.tbls
theorem JhO {h' h'' base:Heap} {l:List Env} (hl:h'.FunFrames base l) (k:h'.UpToSlots h'') {b:Addr} {o:Obj} {sl:Array (Option Value)} (e:h'.get? b=some { o with slots:=sl }) (hb:b∈Zn l):∃ sl,h''.get? b=some { o with slots:=sl }:=by
 obtain ⟨_,o',ho',hd⟩:=hl.mem hb;rw [e] at ho';cases ho';obtain ⟨s,q⟩:=k b _ e hd;exact ⟨s,q⟩
abbrev Y4 (P:Program) (w:World):CXT:=fun outer H s E e s'=>∃ (ea C:Addr) (B:Heap) (H':Hp),e=.ref ea∧s'.os=s.os∧AllBare s'.gens∧Jka P w outer H s.heap ea C B H' s'.heap∧E (.ref C) none H'
def Jlm (X:Cx) (E:XK):Prop:=∀ (pins:List (Addr×Obj)) (σ:St) (H:Hp) (s:Shared) (ea C:Addr) (vs:List Value) (h':Heap),Jk X pins σ H s→Heap.MadeExcOf s.heap h' ea (.ref C) vs→E (.ref C) none H→X.xe (.ref ea) { s with heap:=h' }
section
variable {P:Program} {w:World} {K:PySem.W.Frag} {mg:Str→Option Value} {base:Heap} {N:List Str} {qual:Str} {sc:Scope} {f:Addr} {cd:Value} {A:Around} {outer:List Env} {s:Shared} {H:Hp} {E:XK}
theorem Jdw:Jlm (Zt (Y4 P w) P w K mg base N qual sc f cd A outer s H E) E:=by
 intro pins σ H1 s1 ea C vs h' I hx q;have hstk:Zn (Zt (Y4 P w) P w K mg base N qual sc f cd A outer s H E).stack=s.heap.objs.size :: Zn outer:=rfl;have hin:∀ env∈(Zt (Y4 P w) P w K mg base N qual sc f cd A outer s H E).stack,∀ a,env.frame=some a→a∈Zn (Zt (Y4 P w) P w K mg base N qual sc f cd A outer s H E).stack:=fun env he a ha=>List.mem_filterMap.mpr ⟨env,he,ha⟩
 have notin:∀ {b:Addr} {o:Obj},s.heap.get? b=some o→b∉Zn outer→b∉Zn (Zt (Y4 P w) P w K mg base N qual sc f cd A outer s H E).stack:=fun {b o} e hb hm=>by
  rw [hstk] at hm;rcases List.mem_cons.mp hm with z | z
  ·exact absurd (Heap.lt_size e) (by rw [z]; exact Nat.lt_irrefl _)
  ·exact hb z
 have noex:∀ b:Addr,b∉(Zt (Y4 P w) P w K mg base N qual sc f cd A outer s H E).ex:=fun b z=>absurd (show b∈([]:List Addr) from z) (by simp)
 refine wpAny_leaves_madeW (base:=PySem.W.hideAll s1.heap (Zn (Zt (Y4 P w) P w K mg base N qual sc f cd A outer s H E).stack)) (h:=s1.heap) I.ok.frames rfl (fun b o e=>PySem.W.of_hideAll _ e) (PySem.W.funFrames_hide I.stack hin) hx fun h'' t x1 x2 x3 x4=>?_
 have hF0:s1.heap.FunFrames base outer:=I.funs;have hF1:h'.FunFrames base outer:=hF0.of_keeps fun b o e _=>⟨o,hx.keeps b o e,rfl⟩
 refine ⟨ea,C,_,H1,rfl,I.os,I.bare,⟨⟨_,x1⟩,fun a o e=>?_,fun b o e n hb=>?_,fun b o e hb=>?_,fun b o e hb=>?_,fun b o e n=>I.base.free b o e n (noex b),I.base.tups,I.base.frzs,I.base.tbls⟩,q⟩
 ·have tin:∀ b u,H1 b=some u→∀ o,s1.heap.get? b=some o→(PySem.W.hideAll s1.heap (Zn (Zt (Y4 P w) P w K mg base N qual sc f cd A outer s H E).stack)).get? b=some o:=fun b u hu o ho=>PySem.W.hideAll_get _ ho fun hm=>by
   rw [I.stkFree b hm] at hu; cases hu
  refine (I.hok a o e).stay (fun b u hb hq=>?_) (fun _ z=>z) fun _ _ z=>z
  rcases hb with rfl | hb
  ·exact tin _ _ e u hq
  ·exact tin _ _ hb u hq
 ·exact PySem.W.hideAll_get _ (I.base.keep b o e n hb (noex b)) (notin e hb)
 ·obtain ⟨o',e'⟩:=I.base.there b o e (noex b);exact ⟨o',PySem.W.hideAll_get _ e' (notin e hb)⟩
 ·obtain ⟨sl,e1⟩:=I.base.slot b o e (I.ok.frf b hb) hb (noex b);exact JhO hF1 x4 (hx.keeps _ _ e1) hb
theorem Yz:Jbj (Y4 P w) (Zt (Y4 P w) P w K mg base N qual sc f cd A outer s H E) E:=by
 intro pins σ H1 s1 e s' I hq;obtain ⟨ea,C,B,H2,rfl,os,bare,fl,q⟩:=hq;have hstk:Zn (Zt (Y4 P w) P w K mg base N qual sc f cd A outer s H E).stack=s.heap.objs.size :: Zn outer:=rfl;have sub:∀ {b:Addr},b∈Zn outer→b∈Zn (Zt (Y4 P w) P w K mg base N qual sc f cd A outer s H E).stack:=fun hb=>by rw [hstk]; exact List.mem_cons_of_mem _ hb
 have notin:∀ {b:Addr} {o:Obj},s.heap.get? b=some o→b∉Zn outer→b∉Zn (Zt (Y4 P w) P w K mg base N qual sc f cd A outer s H E).stack:=fun {b o} e hb hm=>by
  rw [hstk] at hm;rcases List.mem_cons.mp hm with z | z
  ·exact absurd (Heap.lt_size e) (by rw [z]; exact Nat.lt_irrefl _)
  ·exact hb z
 have noex:∀ b:Addr,b∉(Zt (Y4 P w) P w K mg base N qual sc f cd A outer s H E).ex:=fun b z=>absurd (show b∈([]:List Addr) from z) (by simp)
 obtain ⟨a0,fly⟩:=fl.fly;refine wpAny_leaves_onW I.ok.frames rfl fly fun h'' x1 x2=>?_
 refine ⟨ea,C,B,H2,rfl,os.trans I.os,bare,⟨⟨_,x1⟩,fl.hok,fun b o e n hb=>?_,fun b o e hb=>?_,fun b o e hb=>?_,fun b o e n=>?_,fun b xs e=>fl.tups b xs (I.base.tups b xs e),fun b o u e=>fl.frzs b o u (I.base.frzs b o u e),fun b ps e=>?_⟩,q⟩
 ·exact fl.keep b o (I.base.keep b o e n hb (noex b)) (I.base.free b o e n (noex b)) (notin e hb)
 ·obtain ⟨o',e'⟩:=I.base.there b o e (noex b);exact fl.there b o' e' (notin e hb)
 ·obtain ⟨sl,e1⟩:=I.base.slot b o e (I.ok.frf b hb) hb (noex b);obtain ⟨sl',e2⟩:=fl.slot b _ e1 (sub hb);exact JhO fly.2.2.1 x2 e2 (sub hb)
 ·obtain ⟨o',e'⟩:=I.base.there b o e (noex b);exact fl.free b o' e' (I.base.free b o e n (noex b))
 ·obtain ⟨m1,e1⟩:=I.base.tbls b ps e;obtain ⟨m2,e2⟩:=fl.tbls b _ e1;exact ⟨m1 ++ m2,by rw [e2,Array.append_assoc]⟩
theorem Fun.ok1 {x:Str} {st:Stmt} {fd:FuncData} {ps:List Str} {k:Nat} {sp:Sp} (F:Fun K x qual st f fd) (S:Jx N ps (Jl st)) (len:∀ vs H Q E,sp vs H Q E→vs.length=ps.length)
  (hbody:∀ (cdv:Value) (A:Around) (outer:List Env) (s:Shared) (H:Hp) (vs:List V) (Q:VK) (E:XK),YD k (A.deeper (envOfC qual (Jl st) s.heap.objs.size f cdv))→sp vs H Q E →
   ∃ t,PSs (Zt (Y4 P w) P w K mg base N qual (Jl st) f cdv A outer s H E) (JaX st) t∧t { nx:=fun _ H'=>Q .non H',rt:=Q } (Yj N vs) H):JM P w K mg base (Y4 P w) (k + 1) f fd ps sp:=by
 obtain ⟨oc,od,kV,doc,pm,an,cdv,ct,osl,rfl,lk,hcd⟩:=F.ex;exact JmO lk hcd S len fun A outer s H vs Q E hr hsp=>hbody cdv A outer s H vs Q E hr hsp
end
section
variable {X:Cx} {x:Str} {C:Addr} {e:Expr} {te:TE} {np cpos pos:Pos} {E:XK}
def JhH (C:Addr) (E:XK) (te:TE):TS:=fun D σ H=>te σ H fun v H'=>E (.ref C) none H'
theorem Jne {K:PySem.W.Frag} {h:Heap} {bmB:List Value} {newId:String} (X:K.In h) (q:PySem.W.excIn K C bmB newId=true):OwnCls x C bmB newId (fun _=>some (.ref C)) h:=by
 refine ⟨rfl,?_⟩;unfold PySem.W.excIn at q;split at q
 ·rename_i dd cd sl ho;split at q
  ·rename_i C' bm k0 k1 k2 k3 n k5 hm hs;simp only [Bool.and_eq_true,beq_iff_eq,Bool.not_eq_true'] at q;obtain ⟨⟨⟨⟨⟨rfl,rfl⟩,hdel⟩,ht⟩,hok⟩,hni⟩:=q;obtain ⟨nm,bs,mro,ns,qn,hd,sn,sub,ab,col,del⟩:=cd;dsimp only at hm hdel hok hni;subst hm hdel;have hsl:sl=#[k0,k1,k2,k3,some (.builtin n),k5]:=by
    obtain ⟨l⟩:=sl;simp only at hs;rw [hs]
   subst hsl;exact ⟨bm,ns,nm,qn,bs,hd,sn,sub,ab,col,dd,k0,k1,k2,k3,k5,_,X _ _ ho,.of_isNs (PySem.W.isNs_of_in X hok),PySem.W.nsMap_none_of_in X hok hni,PySem.W.tail_of_in X ht⟩
  ·cases q
 ·cases q
theorem JcO (XC:ExC X.K C) (hm:X.mg x=some (.ref C)) (hr:Jlm X E) (he:PE X e te) (hc:X.calm=true:=by rfl) (hg:Gl X x:=by rfl) (hd:(x == ("__debug__" : Str))=false:=by decide)
  (hs:starEach [e] X.env=[(false,eval e X.env)]:=by rfl):PS X (.Raise (some (.Call (.Name x np) [e] [] cpos)) none pos) (JhH C E te):=by
 intro pins s σ H D I h;obtain ⟨tl,N,nm,q,bs,hdct,sn,sub,ab,col,dd,k0,k1,k2,k3,k5,mN,hC,hN,hni,T⟩:=(Jne (x:=x) I.mod.kin XC.ex).obj;refine wpAny_Raise_call_subU (C:=C) (nm:=nm) (q:=q) (N:=N) (bs:=bs) (bm:=tl) (hdct:=hdct) (sn:=sn) (sub:=sub) (ab:=ab) (col:=col) (dd:=dd) (k0:=k0) (k1:=k1) (k2:=k2) (k3:=k3) (k5:=k5) (mN:=mN)
  F.excBase_ValueError F.excBase_ValueError.hasB F.excBase_ValueError (T.hasType F.excBase_ValueError.hasBase) (I.ok.hd hc) (by rw [hs]; rfl) hni (JeM I hg hm ⟨rfl,?_⟩ hd)
 rw [hs];refine Calls.evalArgs_plain (Calls.spliced_cons (JJ (he pins s σ H _ I h) fun u s1 ⟨v,H1,I1,r1,q1⟩=>?_));exact Calls.spliced_nil ⟨rfl,by show 1≤sizeLine; decide,I1.bk _ _ hC,hN.keeps I1.bk,T.keeps I1.bk,fun h' ea hx=>hr pins σ H1 s1 ea C _ h' I1 hx q1⟩
end
theorem J9.at_ {P:Program} {w:World} {H:Hp} {h:Heap} {a:Addr} {o:HO} (x:J9 P w H h a o):∃ ob,h.get? a=some ob:=by
 cases o with
 | lst xs=>obtain ⟨_,_,_,_,e⟩:=x; exact ⟨_,e⟩
 | tup xs=>obtain ⟨_,_,_,ob,e,_⟩:=x; exact ⟨_,e⟩
 | dK kvs=>obtain ⟨_,_,_,_,o,_,_,e,_⟩:=x; exact ⟨_,e⟩
 | dT kvs=>obtain ⟨_,_,_,_,o,_,_,e,_⟩:=x; exact ⟨_,e⟩
 | set S n=>obtain ⟨o,_,_,_,e,_⟩:=x; exact ⟨_,e⟩
 | ins C dx fs=>obtain ⟨_,_,_,e,_⟩:=x; exact ⟨_,e⟩
 | own y=>obtain ⟨_,e⟩:=x; exact ⟨_,e⟩
 | xd fs=>obtain ⟨_,⟨_,_,_,e,_⟩,_⟩:=x; exact ⟨_,e⟩
 | rng lo hi=>obtain ⟨_,_,_,e⟩:=x; exact ⟨_,e⟩
 | frz ob u=>obtain ⟨e,_⟩:=x; exact ⟨_,e⟩
 | tbl ps=>exact ⟨_,(show h.get? a=some _ from x)⟩
 | met f y=>exact ⟨_,(show h.get? a=some _ from x)⟩
 | ext φ=>obtain ⟨_,⟨_,e⟩,_⟩:=x; exact ⟨_,e⟩
end L2
namespace L2
open PySem PySem.Spec PyProof.Rows
theorem PE.imp {X:Cx} {e:Expr} {t t':TE} (h:PE X e t) (i:∀ σ H Q,t' σ H Q→t σ H Q):PE X e t':=fun pins s σ H Q I q=>h pins s σ H Q I (i _ _ _ q)
theorem PS.imp {X:Cx} {e:Stmt} {t t':TS} (h:PS X e t) (i:∀ D σ H,t' D σ H→t D σ H):PS X e t':=fun pins s σ H D I q=>h pins s σ H D I (i _ _ _ q)
theorem JfY {sc:Scope} {env:Env} (h:∀ y∈sc.names,y.2=.free→∃ c,env.cells.lookup y.1=some c) :
  ∃ cl,closureFor sc env=pure cl∧(∀ x c,cl.lookup x=some c→env.cells.lookup x=some c)∧∀ y∈sc.names,y.2=.free→∃ c,cl.lookup y.1=some c:=by
 have gen:∀ (names:List (Str×NameKind)) (acc:List (Str×Addr)),(∀ y∈names,y.2=.free→∃ c,env.cells.lookup y.1=some c)→(∀ x c,acc.lookup x=some c→env.cells.lookup x=some c) →
   ∃ cl,(forIn names acc fun x cs=>(do
    if x.2 == NameKind.free then
     let c ← cellOf env x.1
     pure (ForInStep.yield ((x.1,c) :: cs))
    else pure (ForInStep.yield cs)):Sem (List (Str×Addr)))=pure cl∧(∀ x c,cl.lookup x=some c→env.cells.lookup x=some c)∧(∀ x c,acc.lookup x=some c→∃ c,cl.lookup x=some c)∧∀ y∈names,y.2=.free→∃ c,cl.lookup y.1=some c:=by
  intro names
  induction names with
  | nil=>intro acc _ ha; exact ⟨acc,rfl,ha,fun x c e=>⟨c,e⟩,fun y hy=>nomatch hy⟩
  | cons n r ih =>
   intro acc hn ha;obtain ⟨x,k⟩:=n;by_cases hk:k=.free
   ·subst hk;obtain ⟨c,hc⟩:=hn (x,.free) List.mem_cons_self rfl;obtain ⟨cl,e1,e2,e3,e4⟩:=ih ((x,c) :: acc) (fun y hy=>hn y (List.mem_cons_of_mem _ hy)) (fun y d e=>by
     rw [List.lookup_cons] at e;split at e
     ·rename_i q;cases e;rw [beq_iff_eq.mp q];exact hc
     ·exact ha y d e)
    refine ⟨cl,?_,e2,fun y d e=>?_,fun y hy hf=>?_⟩
    ·rw [List.forIn_cons];have z:cellOf env x=pure c:=by unfold cellOf; rw [hc]
     simp only [beq_self_eq_true,if_true,z,pure_bind];exact e1
    ·refine e3 y (if y == x then c else d) ?_;rw [List.lookup_cons];split
     ·rename_i q; simp [q]
     ·rename_i q; simp [q,e]
    ·rcases List.mem_cons.mp hy with rfl | hy
     ·exact e3 x c (by rw [List.lookup_cons]; simp)
     ·exact e4 y hy hf
   ·obtain ⟨cl,e1,e2,e3,e4⟩:=ih acc (fun y hy=>hn y (List.mem_cons_of_mem _ hy)) ha;refine ⟨cl,?_,e2,e3,fun y hy hf=>?_⟩
    ·rw [List.forIn_cons];have z:(k == NameKind.free)=false:=by simpa using hk
     simp only [z,Bool.false_eq_true,if_false,pure_bind];exact e1
    ·rcases List.mem_cons.mp hy with rfl | hy
     ·exact absurd hf hk
     ·exact e4 y hy hf
 obtain ⟨cl,e1,e2,_,e4⟩:=gen sc.names [] h (fun x c e=>by simp at e);refine ⟨cl,?_,e2,e4⟩;unfold closureFor;rw [← bind_pure (pure cl:Sem (List (Str×Addr))),← e1]
def Yx (X:Cx) (Nc:List Str) (sc:Scope) (cl:List (Str×Addr)) (fp:List Addr) (s:Shared) (H:Hp):Cx :=
 { X with N:=Nc,s₀:=s,H₀:=H,env:=compEnvC sc cl s.heap.objs.size X.env,outer:=X.stack,stack:=X.stack,ex:=fp,fn:=fun _=>false,pn:=[],xe:=fun _ _=>False }
def Jeu (js:List Nat) (σ:St):St:=js.map fun j=>(σ[j]?).join
def JeU (N:List Str) (names:List (Str×NameKind)) (nt:Nat) (Nc:List Str) (sc:Scope) (js:List Nat):Bool :=
 decide Nc.Nodup && decide (Nc.length=nt + js.length) && ((Nc.drop nt).zip js).all (fun p=>N[p.2]? == some p.1 && sc.names.lookup p.1 == some NameKind.free && names.lookup p.1 == some NameKind.cell) &&
  sc.names.all (fun y=>(y.2 == NameKind.local && sc.names.lookup y.1 == some NameKind.local) || (y.2 == NameKind.free && names.lookup y.1 == some NameKind.cell) || (y.2 != NameKind.local && y.2 != NameKind.free && y.2 != NameKind.cell)) && sc.kind == .function
def Jdj (σ σ':St):Prop:=σ'.length=σ.length∧∀ (i:Nat) v,σ[i]?=some (some v)→σ'[i]?=some (some v)
theorem Jdj.refl (σ:St):Jdj σ σ:=⟨rfl,fun _ _ e=>e⟩
theorem Jdj.set {σ σ':St} {i:Nat} {x:Option V} (h:Jdj σ σ') (e:σ[i]?=some none):Jdj σ (σ'.set i x):=by
 refine ⟨by rw [List.length_set]; exact h.1,fun j v q=>?_⟩;by_cases hj:j=i
 ·subst hj; rw [e] at q; cases q
 ·rw [List.getElem?_set_ne (Ne.symm hj)]; exact h.2 j v q
def JbR (J:It) (g:TG) (tc:TT) (te:TE) (σc:St) (D:Addr) (H1:Hp) (Q:Hp→Prop):Prop :=
 ∃ W:Nat→Nat→List V→Hp→Prop,(∃ m,W 0 m [] (upd H1 D (.lst [])))∧∀ i m ys H,W i m ys H→H D=some (.lst ys) ∧
  ((J.stop i H∧Q H)∨(J.go i H∧∃ N:List V→Hp→Prop,(∀ zs H',N zs H'→∃ m',m' < m∧W (i + 1) m' zs H')∧∀ x H',J.yld i H x H'→g x σc H' fun σ2 H2=>Jdj σc σ2 ∧
   tc σ2 H2 fun b H3=>if b=true then te σ2 H3 fun v H4=>H4 D=some (.lst ys)∧ys.length < sizeLine∧N (ys ++ [v]) (upd H4 D (.lst (ys ++ [v]))) else N ys H3))
def JiG (X:Cx) (ifs:List Expr) (tc:TT):Prop:=∀ (pins:List (Addr×Obj)) (s:Shared) (σ:St) (H:Hp) (Q:Bool→Hp→Prop),Jk X pins σ H s→tc σ H Q →
 wpAny (model X.prog X.w) X.A (forIn ifs true fun c r=>if r=true then do let ok ← isTrue c X.env (eval c X.env); pure (ForInStep.yield ok) else pure (ForInStep.yield r)) (TP X pins σ Q) X.xe s
def JbT:TT:=fun _ H Q=>Q true H
theorem Zh {X:Cx}:JiG X [] JbT:=fun _ _ _ H _ I q=>wpAny_tests_nil ⟨H,I,q⟩
theorem Jgq {X:Cx} {c:Expr} {tc:TT} (h:PT X c tc):JiG X [c] tc:=fun pins s σ H Q I q=>wpAny_tests_one (h pins s σ H Q I q)
theorem Jj2 {prog:Program} {w:World} {A:Around} {R:Result→Shared→Prop} {s:Shared} {elt target iter:Expr} {ifs:List Expr} {scope:Scope} {pos:Pos} {it acc:Value} {env:Env} (I:Nat→Shared→Prop)
  (turn:∀ n s,I n s→wpAny (model prog w) A (pyNext it) (fun r s₁=>match r with
   | none=>R (.ok .next) s₁
   | some v=>wpAny (model prog w) A (letOwnedTupleGo target it v) (fun _ s₁'=>wpAny (model prog w) A (assign target env v) (fun _ s₂ =>
     wpAny (model prog w) A (forIn ifs true fun c r=>if r=true then do let ok ← isTrue c env (eval c env); pure (ForInStep.yield ok) else pure (ForInStep.yield r)) (fun ok s₃ =>
      if ok=true then wpAny (model prog w) A (eval elt env) (fun x s₄ =>
       wpAny (model prog w) A (call (.builtin "list.append") [acc,x]) (fun _ s₅=>∃ m,m < n∧I m s₅) (fun _ _=>False) s₄) (fun _ _=>False) s₃
      else ∃ m,m < n∧I m s₃) (fun _ _=>False) s₂) (fun _ _=>False) s₁') (fun _ _=>False) s₁) (fun _ _=>False) s)
  (n:Nat) (h:I n s) :
  codeAny (model prog w) A (.compLoop (.ListComp elt [⟨target,iter,ifs,0⟩] scope pos) 0 it acc env) R s:=by
 refine codeAny_loop rfl I (fun n s hI=>?_) n h;show wpAny _ A ((compTurn (.ListComp elt [⟨target,iter,ifs,0⟩] scope pos) 0 it acc env).onRaise (fun x=>do noteFrame x env; theTreesLotGoes x)) _ _ s;refine wpAny_noted ?_;rw [compTurn_list];refine wpAny_bind (wpAny_standAt (wpAny_bind (wpAny_mono (turn n s hI) (fun r s₁ h₁=>?_) fun _ _ h'=>h'.elim)));cases r with
 | none=>exact wpAny_pure h₁
 | some v =>
  refine wpAny_bind (wpAny_mono h₁ (fun _ s₁' h₁'=>?_) fun _ _ h'=>h'.elim);refine wpAny_bind (wpAny_mono h₁' (fun _ s₂ h₂=>wpAny_bind (wpAny_mono h₂ (fun ok s₃ h₃=>?_) fun _ _ h'=>h'.elim)) fun _ _ h'=>h'.elim);cases ok with
  | false=>exact wpAny_pure ⟨rfl,h₃⟩
  | true =>
   exact wpAny_bind (wpAny_bind (wpAny_mono h₃ (fun x s₄ h₄=>wpAny_bind (wpAny_mono h₄ (fun _ s₅ h₅=>wpAny_pure (wpAny_pure ⟨rfl,h₅⟩)) fun _ _ h'=>h'.elim)) fun _ _ h'=>h'.elim))
theorem JcM {env:Env}:∀ {names:List (Str×NameKind)} {x:Str} {k':NameKind},
  (names.map fun (n,k)=>if (k == NameKind.free && env.scope.kind == .function && env.kindOf n == some .cell) then (n,NameKind.cell) else (n,k)).lookup x=some k'→∃ k,names.lookup x=some k∧(k'=k∨(k=.free∧k'=.cell))
 | [],x,k',h=>by simp at h
 | (n,k) :: r,x,k',h=>by
  rw [List.map_cons] at h;by_cases hx:x=n
  ·subst hx;by_cases hc:(k == NameKind.free && env.scope.kind == .function && env.kindOf x == some .cell)=true
   ·have h:List.lookup x ((if (k == NameKind.free && env.scope.kind == .function && env.kindOf x == some .cell)=true then (x,NameKind.cell) else (x,k)) :: _)=some k':=h;rw [if_pos hc] at h;simp only [Bool.and_eq_true,beq_iff_eq] at hc;exact ⟨k,by simp [List.lookup_cons],.inr ⟨hc.1.1,by simpa [List.lookup_cons] using h.symm⟩⟩
   ·have h:List.lookup x ((if (k == NameKind.free && env.scope.kind == .function && env.kindOf x == some .cell)=true then (x,NameKind.cell) else (x,k)) :: _)=some k':=h;rw [if_neg hc] at h;exact ⟨k,by simp [List.lookup_cons],.inl (by simpa [List.lookup_cons] using h.symm)⟩
  ·have hb:(x == n)=false:=beq_eq_false_iff_ne.mpr hx;have h:List.lookup x ((if (k == NameKind.free && env.scope.kind == .function && env.kindOf n == some .cell)=true then (n,NameKind.cell) else (n,k)) :: _)=some k':=h;have h2:(r.map fun (n,k)=>if (k == NameKind.free && env.scope.kind == .function && env.kindOf n == some .cell) then (n,NameKind.cell) else (n,k)).lookup x=some k':=by
    by_cases hc:(k == NameKind.free && env.scope.kind == .function && env.kindOf n == some .cell)=true
    ·rw [if_pos hc] at h; simpa [List.lookup_cons,hb] using h
    ·rw [if_neg hc] at h; simpa [List.lookup_cons,hb] using h
   obtain ⟨k0,e,z⟩:=JcM h2;exact ⟨k0,by simpa [List.lookup_cons,hb] using e,z⟩
theorem JcN {env:Env}:∀ {names:List (Str×NameKind)} {x:Str},names.lookup x=some .free →
  (names.map fun (n,k)=>if (k == NameKind.free && env.scope.kind == .function && env.kindOf n == some .cell) then (n,NameKind.cell) else (n,k)).lookup x=some .cell∨(names.map fun (n,k)=>if (k == NameKind.free && env.scope.kind == .function && env.kindOf n == some .cell) then (n,NameKind.cell) else (n,k)).lookup x=some .free
 | [],x,h=>by simp at h
 | (n,k) :: r,x,h=>by
  rw [List.map_cons];show List.lookup x ((if (k == NameKind.free && env.scope.kind == .function && env.kindOf n == some .cell)=true then (n,NameKind.cell) else (n,k)) :: _)=_∨List.lookup x ((if (k == NameKind.free && env.scope.kind == .function && env.kindOf n == some .cell)=true then (n,NameKind.cell) else (n,k)) :: _)=_;by_cases hx:x=n
  ·subst hx;have hk:k=.free:=by simpa [List.lookup_cons] using h
   subst hk;split
   ·exact .inl (by simp [List.lookup_cons])
   ·exact .inr (by simp [List.lookup_cons])
  ·have hb:(x == n)=false:=beq_eq_false_iff_ne.mpr hx;have ih:=JcN (env:=env) (names:=r) (x:=x) (by simpa [List.lookup_cons,hb] using h);split
   ·simpa [List.lookup_cons,hb] using ih
   ·simpa [List.lookup_cons,hb] using ih
section
variable {X:Cx} {pins:List (Addr×Obj)} {σ:St} {H2:Hp} {s2:Shared}
theorem JfX {elt tg iter:Expr} {ifs:List Expr} {sc:Scope} {pos:Pos} {nt:Nat} {Nc:List Str} {js:List Nat} {J:It} {fp:List Addr} {it:Addr} {tn:Nat→Heap→Prop} {g:TG} {tc:TT} {te:TE} {Q:Addr→Hp→Prop} {E:Value→Shared→Prop}
  {N:List Str} {names:List (Str×NameKind)} (hcap:JeU N names nt Nc sc js=true) (hNX:X.N=N) (hsX:X.env.scope.names=names)
  (hg:∀ (cl:List (Str×Addr)) (fp:List Addr) (s:Shared) (H:Hp),PG (Yx X Nc sc cl fp s H) tg g) (hc:∀ (cl:List (Str×Addr)) (fp:List Addr) (s:Shared) (H:Hp),JiG (Yx X Nc sc cl fp s H) ifs tc)
  (he:∀ (cl:List (Str×Addr)) (fp:List Addr) (s:Shared) (H:Hp),PE (Yx X Nc sc cl fp s H) elt te) (calm:X.calm=true)
  (I2:Jk X pins σ H2 s2) (T:JgM X.prog X.w X.K tg J fp it tn) (st2:tn 0 s2.heap) (f2:∀ b∈fp,Jc7 X pins H2 b)
  (hw:∀ D,H2 D=none→JbR J g tc te (List.replicate nt none ++ Jeu js σ) D H2 (Q D)) {cl:List (Str×Addr)} (hcl:closureFor sc X.env=pure cl) (hcl1:∀ x c,cl.lookup x=some c→X.env.cells.lookup x=some c) (hcl2:∀ y∈sc.names,y.2=.free→∃ c,cl.lookup y.1=some c) :
  wpAny (model X.prog X.w) X.A (newList []) (fun acc s₃=>wpAny (model X.prog X.w) X.A (newFunctionEnv sc X.env.globals cl [] X.env.qual none .none (some X.env)) (fun cenv s₄ =>
   codeAny (model X.prog X.w) X.A (.compStart (.ListComp elt [⟨tg,iter,ifs,0⟩] sc pos) 0 (.ref it) acc { cenv with scope:=relabel sc X.env }) (fun r s'=>(∃ f,r=.ok f)∧∃ D H',acc=.ref D∧Jk X pins σ H' s'∧(∃ m,s'.heap.Ns cenv.locals m)∧Jc7 X pins H' cenv.locals∧Q D H') s₄) E s₃) E s2:=by
 simp only [JeU,Bool.and_eq_true,decide_eq_true_eq,List.all_eq_true,beq_iff_eq] at hcap;obtain ⟨⟨⟨⟨nd,hlen⟩,all1⟩,all2⟩,hkind⟩:=hcap;subst hNX hsX;have hcell:∀ y∈sc.names,y.2≠.cell:=fun y hy z=>by
  have q:=all2 y hy;rw [z] at q;simp at q
 refine wpAny_newObj_type (wpAny_newFunctionEnv hcell (by intro y hy; simp at hy) (fun h₁ hns₁ hsb₁=>?_) hkind);have n2:H2 s2.heap.objs.size=none:=I2.hok.fresh (Nat.le_refl _);have I3:Jk X pins σ (upd H2 s2.heap.objs.size (.lst [])) { s2 with heap:=s2.heap.push { cls:=.type "list",data:=.seq ([]:List Value).toArray },toks:=s2.toks } :=
  I2.laid (fun b u e=>Heap.get?_push_of_some _ e) (Nat.le_refl _) ⟨Nat.zero_le _,[],0,.nil,Heap.get?_push_size _ rfl⟩
 obtain ⟨W,⟨m0,w0⟩,step⟩:=hw s2.heap.objs.size n2;generalize eH3:upd H2 s2.heap.objs.size (.lst [])=H3 at I3 w0;generalize es3:({ s2 with heap:=s2.heap.push { cls:=.type "list",data:=.seq ([]:List Value).toArray },toks:=s2.toks }:Shared)=s3 at I3;have e3:s2.heap.push { cls:=.type "list",data:=.seq ([]:List Value).toArray }=s3.heap:=by rw [← es3]
 have old3:∀ b o,s2.heap.get? b=some o→s3.heap.get? b=some o:=fun b o e=>by rw [← e3]; exact Heap.get?_push_of_some _ e
 have old4:∀ b o,s3.heap.get? b=some o→h₁.get? b=some o:=fun b o e=>by
  refine hsb₁.extBut b o ?_ (Heap.get?_push_of_some _ (by rw [← e3] at e; exact e));have:=Heap.lt_size e;rw [← e3] at this;exact Nat.ne_of_lt this
 have eC:(s2.heap.push { cls:=.type "list",data:=.seq ([]:List Value).toArray }).objs.size=s3.heap.objs.size:=by rw [e3]
 have fpold:∀ b∈fp,b < s3.heap.objs.size:=fun b hb=>by
  obtain ⟨o,e,_⟩:=T.obj 0 _ st2 b hb;exact Heap.lt_size (old3 b o e)
 have ok:(Yx X Nc sc cl fp s3 H3).Ok:=⟨I3.mod,hkind,I3.ok.glob,I3.ok.blt,Nat.le_refl _,fun x y c e1 e2=>I3.ok.inj x y c (hcl1 _ _ e1) (hcl1 _ _ e2),fun x hx=>?_,fun x c z=>(by cases z),fun _=>I3.ok.hd calm,I3.ok.frames,.inl rfl,
  fun b hb=>⟨Nat.ne_of_lt (fpold b hb),fun x c e=>(f2 b hb).2.2.2.2.1 x c (hcl1 _ _ e)⟩,I3.bs,Nat.le_trans I3.ok.bsz I3.sz,fun b o e hb=>?_,fun b hb hm=>?_,I3.stack,I3.stkFree⟩
 rotate_left
 ·have hx:(relabel sc X.env).names.lookup x=some .cell∨(relabel sc X.env).names.lookup x=some .free:=hx;have k:sc.names.lookup x=some .free:=by
   rcases hx with hx | hx
   ·obtain ⟨k,e,z⟩:=JcM hx;rcases z with z | z
    ·subst z; exact absurd rfl (hcell _ (PySem.mem_of_lookup e))
    ·rw [z.1] at e; exact e
   ·obtain ⟨k,e,z⟩:=JcM hx;rcases z with z | z
    ·subst z; exact e
    ·cases z.2
  exact hcl2 _ (PySem.mem_of_lookup k) rfl
 ·rcases (f2 b hb).2.2.2.1 with z | z
  ·exact I3.ok.noex b o e z
  ·exact absurd (Nat.lt_of_lt_of_le (Heap.lt_size (I3.ok.bs b o e).1) z) (Nat.lt_irrefl _)
 ·rcases List.mem_cons.mp (I3.stkSub b hm) with z | z
  ·exact (f2 b hb).2.1 z
  ·exact (f2 b hb).2.2.1 z
 have Ic:Jk (Yx X Nc sc cl fp s3 H3) [] (List.replicate nt none ++ Jeu js σ) H3 { s3 with heap:=h₁,toks:=s3.toks + ([]:List (Str×Value)).length }:=by
  refine ⟨ok,rfl,I3.bare,Un.kept old4,⟨_,(by have z:=hns₁; rw [eC] at z; exact z),fun i x v e1 e2 e3'=>?_⟩,fun x c e=>?_,I3.hok.fresh (Nat.le_refl _),fun x c e=>I3.freeC x c (hcl1 _ _ e),(fun p hp=>nomatch hp),I3.hok.kept old4,?_⟩
  ·have hi:nt≤i:=by
    refine Nat.le_of_not_lt fun z=>?_
    rw [List.getElem?_append_left (by simpa using z),List.getElem?_replicate] at e2;split at e2 <;> cases e2
   obtain ⟨k,rfl⟩:∃ k,i=nt + k:=⟨i - nt,by omega⟩
   rw [List.getElem?_append_right (by simp),List.length_replicate,Nat.add_sub_cancel_left] at e2;unfold Jeu at e2;rw [List.getElem?_map] at e2;cases hj:js[k]? with
   | none=>rw [hj] at e2; cases e2
   | some j =>
    rw [hj] at e2;have e2':(σ[j]?).join=some v:=Option.some.inj e2;have e2'':σ[j]?=some (some v):=by
     cases q:σ[j]? with
     | none=>rw [q] at e2'; cases e2'
     | some o=>rw [q] at e2'; rw [show o=some v from e2']
    have hz:(x,j)∈(Nc.drop nt).zip js:=by
     refine List.mem_of_getElem? (i:=k) ?_;rw [List.getElem?_zip_eq_some];exact ⟨by rw [List.getElem?_drop]; exact e1,hj⟩
    obtain ⟨⟨q1,q2⟩,q3⟩:=all1 _ hz;obtain ⟨m,hn,hl⟩:=I3.loc;obtain ⟨u,r,look⟩:=hl j x v q1 e2'' (Or.inr (Or.inl q3));refine ⟨u,r,.inr ⟨JcN q2,?_⟩⟩;obtain ⟨c',hc'⟩:=hcl2 _ (PySem.mem_of_lookup q2) rfl;rcases look with ⟨z,_⟩ | ⟨_,c,z1,z2⟩
    ·have z:X.env.scope.names.lookup x=some .local:=z;rw [q3] at z; cases z
    ·have z3:=hcl1 _ _ hc';rw [z1] at z3;cases z3;obtain ⟨o,ho,hd⟩:=z2;exact ⟨_,hc',o,old4 _ _ ho,hd⟩
  ·obtain ⟨v,o,ho,hd⟩:=I3.cell x c (hcl1 _ _ e);exact ⟨v,o,old4 _ _ ho,hd⟩
  ·show (List.replicate nt none ++ Jeu js σ).length=Nc.length;unfold Jeu;rw [List.length_append,List.length_replicate,List.length_map,hlen]
 have fpok:∀ {H:Hp},(∀ b∈fp,H b=none)→∀ b∈fp,Jc7 (Yx X Nc sc cl fp s3 H3) [] H b:=fun hn b hb =>
  ⟨hn b hb,Nat.ne_of_lt (fpold b hb),ok.exfs b hb,.inl hb,fun x c e=>(f2 b hb).2.2.2.2.1 x c (hcl1 _ _ e),(fun p hp=>nomatch hp)⟩
 have fr0:∀ b∈fp,H3 b=none:=fun b hb=>by
  rw [← eH3,Jq (Nat.ne_of_lt (by obtain ⟨o,e,_⟩:=T.obj 0 _ st2 b hb; exact Heap.lt_size e))];exact (f2 b hb).1
 have st4:tn 0 h₁:=T.keep 0 _ _ st2 fun b hb o e=>old4 b o (old3 b o e)
 have back:∀ {σ':St} {H:Hp} {s':Shared} {pn:List (Addr×Obj)},Jk (Yx X Nc sc cl fp s3 H3) pn σ' H s'→Jk X pins σ H s':=fun {σ' H s' pn} Jv =>
  I3.call' (ch:=fp) Jv.os Jv.base Jv.hok Jv.bare fun b hb=>⟨(f2 b hb).2.2.2.1,(f2 b hb).2.1,(f2 b hb).2.2.2.2.1,(f2 b hb).2.2.2.2.2⟩
 have loop:codeAny (model X.prog X.w) X.A (.compLoop (.ListComp elt [⟨tg,iter,ifs,0⟩] sc pos) 0 (.ref it) (.ref s2.heap.objs.size) (compEnvC sc cl s3.heap.objs.size X.env))
   (fun r s'=>(∃ f,r=.ok f)∧∃ D H',(Value.ref s2.heap.objs.size)=.ref D∧Jk X pins σ H' s'∧(∃ m,s'.heap.Ns s3.heap.objs.size m)∧Jc7 X pins H' s3.heap.objs.size∧Q D H') { s3 with heap:=h₁,toks:=s3.toks + ([]:List (Str×Value)).length }:=by
  refine Jj2 (fun n s'=>∃ i ys H,Jk (Yx X Nc sc cl fp s3 H3) [] (List.replicate nt none ++ Jeu js σ) H s'∧tn i s'.heap∧(∀ b∈fp,H b=none)∧W i n ys H) ?_ m0 ⟨0,[],H3,Ic,st4,fr0,w0⟩;rintro n s' ⟨i,ys,H,I,st,fr,w⟩;obtain ⟨hD,⟨stop,qn⟩ | ⟨go,Nx,hNx,stepx⟩⟩:=step i n ys H w
  ·refine JJ (T.done (Yx X Nc sc cl fp s3 H3) rfl rfl rfl calm i [] s' _ H _ I (fpok fr) st stop) fun r s1 ⟨hr,I1⟩=>?_
   subst hr;obtain ⟨m,hn,_⟩:=I1.loc;exact ⟨⟨_,rfl⟩,_,H,rfl,back I1,⟨m,hn⟩,I3.fpOk (Nat.le_refl _) I1.free,qn⟩
  ·refine JJ (T.item (Yx X Nc sc cl fp s3 H3) rfl rfl rfl calm i [] s' _ H _ I (fpok fr) st go) fun r s1 ⟨u,hr,h4⟩=>?_
   subst hr;refine JJ h4 fun _ s5 ⟨x,H5,I5,r5,y5,st5,fr5⟩=>?_
   have I5':=I5.pinned (fpok fr5) (T.obj _ _ st5);refine JJ (hg cl fp s3 H3 _ s5 _ H5 x u _ I5' r5 (stepx x H5 y5)) fun _ s6 ⟨σ6,H6,I6,ag,q6⟩=>?_
   have again:∀ {H7:Hp} {s7:Shared} {m':Nat} {zs:List V},Jk (Yx X Nc sc cl fp s3 H3) ([] ++ Jd9 fp s5.heap) σ6 H7 s7→m' < n→W (i + 1) m' zs H7→∃ m,m < n∧∃ i ys H,Jk (Yx X Nc sc cl fp s3 H3) [] (List.replicate nt none ++ Jeu js σ) H s7∧tn i s7.heap∧(∀ b∈fp,H b=none)∧W i m ys H:=fun {H7 s7 m' zs} I7 hm w7=>by
    refine ⟨m',hm,i + 1,zs,H7,I7.unpinned.weak ag.1.symm ag.2,T.keep _ _ _ st5 fun b hb o e=>(I7.pin (b,o) (List.mem_append_right _ (List.mem_append_right _ (Jct hb e)))).1,fun b hb=>?_,w7⟩;obtain ⟨o,e,d⟩:=T.obj _ _ st5 b hb;exact (I7.pin (b,o) (List.mem_append_right _ (List.mem_append_right _ (Jct hb e)))).2.1
   refine JJ (hc cl fp s3 H3 _ s6 σ6 H6 _ I6 q6) fun bk s7 ⟨H7,I7,q7⟩=>?_
   cases bk with
   | false =>
    rw [if_neg Bool.false_ne_true] at q7 ⊢;obtain ⟨m',hm,w7⟩:=hNx _ _ q7;exact again I7 hm w7
   | true =>
    rw [if_pos rfl] at q7 ⊢;refine JJ (he cl fp s3 H3 _ s7 σ6 H7 _ I7 q7) fun xv s8 ⟨v,H8,I8,r8,hD8,hlen8,qN⟩=>?_
    obtain ⟨m',hm,w8⟩:=hNx _ _ qN;refine JJ (Y3 _ s8 σ6 H8 (.ref s2.heap.objs.size) [v] (.ref s2.heap.objs.size) [xv] (fun _ H9=>H9=upd H8 s2.heap.objs.size (.lst (ys ++ [v]))) I8 rfl (.cons r8 .nil) ?_) fun _ s9 ⟨_,H9,I9,_,e9⟩=>?_
    ·exact ⟨_,_,_,rfl,rfl,hD8,hlen8,rfl⟩
    ·subst e9;exact again I9 hm w8
 rw [eC] at *;exact codeAny_compStart_list loop (T.self _ 0 _ _ _ st4 loop)
def tLC (wi:TI) (g:TG) (tc:TT) (te:TE) (nt:Nat) (js:List Nat):TE:=fun σ H Q=>wi σ H fun J H1=>∀ D,H1 D=none→JbR J g tc te (List.replicate nt none ++ Jeu js σ) D H1 fun H'=>Q (.ref D) H'
theorem Jhg {N:List Str} {names:List (Str×NameKind)} {nt:Nat} {Nc:List Str} {sc:Scope} {js:List Nat} (h:JeU N names nt Nc sc js=true):(∀ y∈sc.names,y.2=.local→sc.names.lookup y.1=some .local)∧(∀ y∈sc.names,y.2=.free→names.lookup y.1=some .cell)∧sc.kind=.function:=by
 simp only [JeU,Bool.and_eq_true,decide_eq_true_eq,List.all_eq_true,beq_iff_eq] at h;obtain ⟨⟨⟨⟨nd,hlen⟩,all1⟩,all2⟩,hkind⟩:=h;refine ⟨fun y hy hl=>?_,fun y hy hl=>?_,hkind⟩
 ·have q:=all2 y hy;rw [hl] at q;simpa using q
 ·have q:=all2 y hy;rw [hl] at q;simpa using q
theorem Jcp {elt tg iter:Expr} {ifs:List Expr} {sc:Scope} {pos:Pos} {nt:Nat} {Nc:List Str} {js:List Nat} {wi:TI} {g:TG} {tc:TT} {te:TE} {N:List Str} {names:List (Str×NameKind)}
  (hcap:JeU N names nt Nc sc js=true) (hi:PI X tg iter wi)
  (hg:∀ (cl:List (Str×Addr)) (fp:List Addr) (s:Shared) (H:Hp),PG (Yx X Nc sc cl fp s H) tg g) (hc:∀ (cl:List (Str×Addr)) (fp:List Addr) (s:Shared) (H:Hp),JiG (Yx X Nc sc cl fp s H) ifs tc)
  (he:∀ (cl:List (Str×Addr)) (fp:List Addr) (s:Shared) (H:Hp),PE (Yx X Nc sc cl fp s H) elt te) (hNX:X.N=N:=by rfl) (hsX:X.env.scope.names=names:=by rfl) (calm:X.calm=true:=by rfl)
  (hs:∀ x,foldedSetIterable iter X.env x=pure x:=by intro _; rfl):PE X (.ListComp elt [⟨tg,iter,ifs,0⟩] sc pos) (tLC wi g tc te nt js):=by
 intro pins s σ H Q I h;obtain ⟨hn1,hn2,hkind⟩:=Jhg hcap;obtain ⟨cl,hcl,hcl1,hcl2⟩:=JfY (sc:=sc) (env:=X.env) fun y hy hf=>I.ok.has y.1 (.inl (by show X.env.scope.names.lookup y.1=_; rw [hsX]; exact hn2 y hy hf))
 rw [eval_ListComp];refine wpAny_comprehension_free (use:=none) rfl hs hcl hkind hn1 (JJ (hi pins s σ H _ I h) fun v s1 h1=>JJ h1 fun itv s2 h2=>?_);obtain ⟨it,fp,tn,J,H2,e,I2,T,st2,f2,hw⟩:=h2;subst e;refine wpAny_mono (JfX (E:=fun _ _=>False) (Q:=fun D H'=>Q (.ref D) H') hcap hNX hsX hg hc he calm I2 T st2 f2 hw hcl hcl1 hcl2) (fun acc s3 h3=>wpAny_mono h3 (fun cenv s4 h4=>codeAny_mono h4 fun r s' hr=>?_) fun _ _ z=>z.elim) fun _ _ z=>z.elim
 obtain ⟨⟨f,rfl⟩,D,H',rfl,Jv,⟨m,hn⟩,fC,q⟩:=hr;obtain ⟨f0,f1,f2',f3,f4,f5⟩:=fC;exact ⟨m,hn,fun h' hs'=>⟨.ref D,H',Jv.turned (t':=s'.toks) (fun b o hb e=>(hs'.2 b hb).trans e) f0 f1 f3 f4 f5,rfl,q⟩⟩
theorem JdP {elt tg iter:Expr} {ifs:List Expr} {sc:Scope} {pos spos py:Pos} {y:Str} {i:Nat} {nt:Nat} {Nc:List Str} {js:List Nat} {wi:TI} {g:TG} {tc:TT} {te:TE} {N:List Str} {names:List (Str×NameKind)}
  (hcap:JeU N names nt Nc sc js=true) (hN:X.N.Nodup) (hiy:X.N[i]?=some y) (hi:PI X tg iter wi)
  (hg:∀ (cl:List (Str×Addr)) (fp:List Addr) (s:Shared) (H:Hp),PG (Yx X Nc sc cl fp s H) tg g) (hc:∀ (cl:List (Str×Addr)) (fp:List Addr) (s:Shared) (H:Hp),JiG (Yx X Nc sc cl fp s H) ifs tc)
  (he:∀ (cl:List (Str×Addr)) (fp:List Addr) (s:Shared) (H:Hp),PE (Yx X Nc sc cl fp s H) elt te) (hNX:X.N=N:=by rfl) (hsX:X.env.scope.names=names:=by rfl) (calm:X.calm=true:=by rfl)
  (hsw:swapsWith (.ListComp elt [⟨tg,iter,ifs,0⟩] sc pos) (some (.Name y py)) spos.line X.env=pure true:=by rfl) (hy:X.env.scope.names.lookup y=some .local:=by rfl)
  (hs:∀ x,foldedSetIterable iter X.env x=pure x:=by intro _; rfl):PS X (.Assign [.Name y py] (.ListComp elt [⟨tg,iter,ifs,0⟩] sc pos) spos) (Jls (tLC wi g tc te nt js) (Z7 i)):=by
 intro pins s σ H D0 I h;obtain ⟨hn1,hn2,hkind⟩:=Jhg hcap;obtain ⟨cl,hcl,hcl1,hcl2⟩:=JfY (sc:=sc) (env:=X.env) fun y hy hf=>I.ok.has y.1 (.inl (by show X.env.scope.names.lookup y.1=_; rw [hsX]; exact hn2 y hy hf))
 rw [exec_Assign_Name_used _ _ _ _ hsw];refine wpAny_bind (wpAny_standAt (wpAny_bind ?_));show wpAny _ X.A (do let _ ← comprehension (.ListComp elt [⟨tg,iter,ifs,0⟩] sc pos) sc X.env _ (newList []) false (eval iter X.env) (some (assign (.Name y py) X.env))) _ _ s;refine wpAny_bind (wpAny_mono (wpAny_comprehension_free (use:=some (assign (.Name y py) X.env)) (Q:=fun _ s'=>SP X pins D0 .next s') rfl hs hcl hkind hn1
  (JJ (hi pins s σ H _ I h) fun v s1 h1=>JJ h1 fun itv s2 h2=>?_)) (fun _ s' hq=>wpAny_pure (wpAny_pure hq)) fun _ _ e=>e)
 obtain ⟨it,fp,tn,J,H2,e,I2,T,st2,f2,hw⟩:=h2;subst e;refine wpAny_mono (JfX (E:=fun _ _=>False) (Q:=fun D H'=>Z7 i (.ref D) σ H' D0.nx) hcap hNX hsX hg hc he calm I2 T st2 f2 hw hcl hcl1 hcl2) (fun acc s3 h3=>wpAny_mono h3 (fun cenv s4 h4=>codeAny_mono h4 fun r s' hr=>?_) fun _ _ z=>z.elim) fun _ _ z=>z.elim
 obtain ⟨⟨f,rfl⟩,D,H',rfl,Jv,⟨m,hn⟩,fC,q⟩:=hr;obtain ⟨f0,f1,f2',f3,f4,f5⟩:=fC;show wpAny _ X.A (assign (.Name y py) X.env (.ref D)) _ _ _;refine wpAny_assign_Name (JgY Jv hN hiy (Or.inl hy) (v:=.ref D) rfl (fun s'' I'' ⟨a,hsame,ha⟩=>?_) (Or.inr hy));refine ⟨m,hn.sameBut hsame ?_,fun h' hs'=>⟨_,H',I''.turned (t':=s''.toks) (fun b o hb e=>(hs'.2 b hb).trans e) f0 f1 f3 f4 f5,q⟩⟩;rcases ha with rfl | ha
 ·exact f1
 ·exact (f4 y a ha).symm
end
section
variable {X:Cx} {Nc:List Str} {sc:Scope} {cl:List (Str×Addr)} {fp:List Addr} {s:Shared} {H:Hp} {x:Str} {pos:Pos}
theorem JX (i:Nat) (hN:Nc[i]?=some x:=by rfl) (hf:sc.names.lookup x=some .free:=by rfl) (hd:(x == ("__debug__" : Str))=false:=by decide) (hcd:(x == ("__classdict__" : Str))=false:=by decide):PE (Yx X Nc sc cl fp s H) (.Name x pos) (Jjs i) :=
 Jh1 hN (Or.inr (JcN hf)) hd hcd
theorem Yd (i:Nat) (hN:Nc[i]?=some x:=by rfl) (hl:sc.names.lookup x=some .local:=by rfl) (hd:(x == ("__debug__" : Str))=false:=by decide) (hcd:(x == ("__classdict__" : Str))=false:=by decide):PE (Yx X Nc sc cl fp s H) (.Name x pos) (Jjs i) :=
 Jh1 hN (Or.inl (lookup_relabel_local hl)) hd hcd
theorem YK (i:Nat) (nd:Nc.Nodup) (hN:Nc[i]?=some x:=by rfl) (hl:sc.names.lookup x=some .local:=by rfl):PG (Yx X Nc sc cl fp s H) (.Name x pos) (Z7 i) :=
 J8 nd hN (Or.inl (lookup_relabel_local hl)) (Or.inr (lookup_relabel_local hl))
end
section
variable {tc:TT} {te:TE} {σc:St} {D:Addr} {H1:Hp} {Q:Hp→Prop}
theorem JeT {J:It} {n:Nat} {X1:Nat→V→Prop} (Pv:Nat→List V→Hp→Prop) (h00:σc[0]?=some none) (hgo:∀ i H,i < n→(∃ ys,Pv i ys H)→J.go i H∧∀ x H',J.yld i H x H'→H'=H∧X1 i x) (hstop:∀ H,(∃ ys,Pv n ys H)→J.stop n H)
  (h0:Pv 0 [] (upd H1 D (.lst []))) (hl:∀ i ys H,Pv i ys H→H D=some (.lst ys))
  (hs:∀ i x ys H,i < n→X1 i x→Pv i ys H→tc (σc.set 0 (some x)) H fun b H3=>if b=true then te (σc.set 0 (some x)) H3 fun v H4=>H4 D=some (.lst ys)∧ys.length < sizeLine∧Pv (i + 1) (ys ++ [v]) (upd H4 D (.lst (ys ++ [v]))) else Pv (i + 1) ys H3)
  (hd:∀ ys H,Pv n ys H→Q H):JbR J (Z7 0) tc te σc D H1 Q:=by
 refine ⟨fun i m ys H=>m=n - i∧i≤n∧Pv i ys H,⟨n,by simp,Nat.zero_le _,h0⟩,?_⟩;rintro i m ys H ⟨rfl,hi,p⟩;refine ⟨hl _ _ _ p,?_⟩;by_cases hlt:i < n
 ·obtain ⟨g1,g2⟩:=hgo i H hlt ⟨_,p⟩;refine .inr ⟨g1,Pv (i + 1),fun zs H' p'=>⟨n - (i + 1),by omega,rfl,hlt,p'⟩,fun x H' y=>?_⟩;obtain ⟨e,y1⟩:=g2 x H' y;subst e;exact ⟨(Jdj.refl _).set h00,hs i x ys _ hlt y1 p⟩
 ·have e:i=n:=by omega
  subst e;exact .inl ⟨hstop H ⟨_,p⟩,hd _ _ p⟩
theorem JaY {K:PySem.W.Frag} {a:Addr} {xs:List V} (Pv:Nat→List V→Hp→Prop) (h00:σc[0]?=some none) (hq:∀ i ys H,Pv i ys H→Jo K H a xs) (h0:Pv 0 [] (upd H1 D (.lst []))) (hl:∀ i ys H,Pv i ys H→H D=some (.lst ys))
  (hs:∀ i x ys H,xs[i]?=some x→Pv i ys H→tc (σc.set 0 (some x)) H fun b H3=>if b=true then te (σc.set 0 (some x)) H3 fun v H4=>H4 D=some (.lst ys)∧ys.length < sizeLine∧Pv (i + 1) (ys ++ [v]) (upd H4 D (.lst (ys ++ [v]))) else Pv (i + 1) ys H3)
  (hd:∀ ys H,Pv xs.length ys H→Q H):JbR (Itl K a) (Z7 0) tc te σc D H1 Q :=
 JeT (n:=xs.length) (X1:=fun i x=>xs[i]?=some x) Pv h00 (fun i H hi ⟨ys,p⟩=>⟨⟨xs,xs[i],hq _ _ _ p,by simp [hi]⟩,fun x H' y=>⟨y.1,y.2 xs (hq _ _ _ p)⟩⟩) (fun H ⟨ys,p⟩=>⟨xs,hq _ _ _ p,Nat.le_refl _⟩) h0 hl (fun i x ys H _ hx p=>hs i x ys H hx p) hd
theorem Jj3 {lo:Int} {n:Nat} (Pv:Nat→List V→Hp→Prop) (h00:σc[0]?=some none) (h0:Pv 0 [] (upd H1 D (.lst []))) (hl:∀ i ys H,Pv i ys H→H D=some (.lst ys))
  (hs:∀ i ys H,i < n→Pv i ys H→tc (σc.set 0 (some (.int (lo + i)))) H fun b H3=>if b=true then te (σc.set 0 (some (.int (lo + i)))) H3 fun v H4=>H4 D=some (.lst ys)∧ys.length < sizeLine∧Pv (i + 1) (ys ++ [v]) (upd H4 D (.lst (ys ++ [v]))) else Pv (i + 1) ys H3)
  (hd:∀ ys H,Pv n ys H→Q H):JbR (Itr lo n) (Z7 0) tc te σc D H1 Q :=
 JeT (n:=n) (X1:=fun i x=>x=.int (lo + i)) Pv h00 (fun i H hi _=>⟨hi,fun x H' y=>y⟩) (fun H _=>Nat.le_refl _) h0 hl (fun i x ys H hi hx p=>by subst hx; exact hs i ys H hi p) hd
end
end L2
namespace L2
open PySem PySem.Spec PyProof.Rows
section
variable {X:Cx} {e v1 v2:Expr} {es:List Expr} {te:TE} {pos:Pos}
def JnD (te:TE):TE:=fun σ H Q=>te σ H fun v H1=>∃ z,v=.str z∧(reprText z).length≤sizeLine∧Q (.str (reprText z)) H1
theorem Jh2 (he:PE X e te):PE X (.FormattedValue e 114 none pos) (JnD te):=by
 intro pins s σ H Q I h;refine wpAny_FormattedValue_repr (JJ (he pins s σ H _ I h) fun v s1 ⟨x,H1,I1,r1,z,ez,hz,q⟩=>?_);subst ez;obtain ⟨t,rfl⟩:=r1;refine pyReprObj_str (PyProof.Rows.formatField_str (fun t' tk=>?_) hz) hz;exact ⟨.str (reprText z),H1,(I1.tok _).tok _,⟨_,rfl⟩,q⟩
def Jjt (te:TE):TE:=fun σ H Q=>te σ H fun v H1=>∃ i:Int,v=.int i∧i.natAbs.log2 < 1920∧Q (.str (toString i)) H1
theorem Ji5 (he:PE X e te):PE X (.FormattedValue e (-1) none pos) (Jjt te):=by
 intro pins s σ H Q I h;refine PyProof.Rows.FormattedValue_plain (JJ (he pins s σ H _ I h) fun v s1 ⟨x,H1,I1,r1,i,ei,hi,q⟩=>?_);subst ei;obtain ⟨t,rfl⟩:=r1;exact PyProof.Rows.formatField_int_small hi ⟨.str (toString i),H1,I1.tok _,⟨_,rfl⟩,q⟩
def Jfy:List TE→Str→TE
 | [],acc=>fun _ H Q=>acc.length≤sizeLine∧Q (.str acc) H
 | t :: r,acc=>fun σ H Q=>t σ H fun v H1=>∃ y,v=.str y∧(acc ++ y).length≤sizeLine∧Jfy r (acc ++ y) σ H1 Q
inductive PJ (X:Cx):List Expr→List TE→Prop
 | nil:PJ X [] []
 | cons {e:Expr} {t:TE} {es:List Expr} {ts:List TE}:PE X e t→PJ X es ts→PJ X (e :: es) (t :: ts)
theorem Jim {pins:List (Addr×Obj)} {σ:St} {Q:VK}:∀ {es:List Expr} {ts:List TE} {acc:Str} {s:Shared} {H:Hp},PJ X es ts→Jk X pins σ H s→Jfy ts acc σ H Q →
  Joins (model X.prog X.w) X.A X.xe (es.map fun e=>eval e X.env) acc (fun out s₁=>out.length≤sizeLine∧EP X pins σ Q (.str out s₁.toks) { s₁ with toks:=s₁.toks + 1 }) s
 | _,_,acc,s,H,.nil,I,h=>⟨h.1,.str acc,H,I.tok _,⟨_,rfl⟩,h.2⟩
 | _,_,acc,s,H,.cons p r,I,h=>by
  refine JJ (p pins s σ H _ I h) fun v s1 ⟨x,H1,I1,r1,y,ey,hy,q⟩=>?_
  subst ey;obtain ⟨t,rfl⟩:=r1;exact ⟨y,t,rfl,hy,Jim r I1 q⟩
theorem JeK {ts:List TE} (h:PJ X (v1 :: v2 :: es) ts) (he:evalEach (v1 :: v2 :: es) X.env=(v1 :: v2 :: es).map fun e=>eval e X.env:=by rfl):PE X (.JoinedStr (v1 :: v2 :: es) pos) (Jfy ts Str.empty):=by
 intro pins s σ H Q I hq;refine wpAny_JoinedStr ?_;rw [he];exact Jim h I hq
end
section
variable {X:Cx}
theorem Jg1:ZO X (compareOp .LtE) (fun x y H Q=>∃ i j,x=.str i∧y=.str j∧Q (.bl (!decide (j.cps.toList < i.cps.toList))) H):=by
 intro pins s σ H x y v u Q I rx ry h;obtain ⟨i,j,rfl,rfl,q⟩:=h;obtain ⟨t,rfl⟩:=rx;obtain ⟨t',rfl⟩:=ry;exact PySem.P.le_str ⟨.bl _,H,I,rfl,q⟩
theorem Jga:∀ {ys:List Str} {us:List Value},Jw (ys.map V.str) us→StrsAre us ys
 | [],_,r=>by cases r; exact .nil
 | y :: ys,_,r=>by
  cases r with
  | cons r rr =>
   obtain ⟨t,rfl⟩:=r;exact .cons y t (Jga rr)
theorem Jnl:MtR X "str.join" (fun x xs H Q=>∃ z l ys,x=.str z∧xs=[.ref l]∧Jo X.K H l (ys.map V.str)∧(ys.map (·.length)).sum + ys.length * z.length≤16777216∧Q (.str (Txt.join z ys)) H):=by
 intro pins s σ H x xs v us Q I rx rs h;obtain ⟨z,l,ys,rfl,rfl,hl,hz,q⟩:=h;obtain ⟨t,rfl⟩:=rx;obtain ⟨u,rfl,ru⟩:=Jw.one rs;cases ru;obtain ⟨its,r,pl,_⟩:=I.list hl;exact PyProof.Rows.join_list pl.isList (by simpa using Jga r) hz fun t' k=>⟨.str (Txt.join z ys),H,I.tok _,⟨_,rfl⟩,q⟩
end
def Its (z:Str):It:=⟨fun i _=>i < z.length,fun i H x H'=>H'=H∧∃ c,z.cps[i]?=some c∧x=.str ⟨#[c]⟩,fun i _=>z.length≤i⟩
theorem JhF {P:Program} {w:World} {K:PySem.W.Frag} {tg:Expr} (it:Addr) (z:Str) (t:Tok) (ty:String) (hty:ty = "str_ascii_iterator"∨ty = "str_iterator") (W:∀ A':Around,A'.handled=none→Walks P w A' it [it] [it] z.cps.size (SignAt z) (fun i h=>h.IsStrIter it ty z t i)) :
  JgM P w K tg (Its z) [it] it (fun i h=>i≤z.cps.size∧h.IsStrIter it ty z t i) where
 mem:=by simp
 obj:=fun i h st b hb=>by
  have e:b=it:=by simpa using hb
  subst e;obtain ⟨_,o,e,c,d⟩:=st;exact ⟨o,e,fun v z=>by rw [d] at z; cases z⟩
 keep:=fun i h h' st k=>let ⟨hi,o,e,r⟩:=st; ⟨hi,o,k it (by simp) o e,r⟩
 item:=by
  intro X hP hw hK hc i pins s σ H E I hf st hg;subst hP hw hK;obtain ⟨f0,f1,f2,f3,f4,f5⟩:=hf it (by simp);have hi:i < z.cps.size:=hg;refine (W X.A (I.ok.hd hc)).item i s _ _ hi st.2 fun v h' tk hv st' kk=>?_
  obtain ⟨c,u,hc',rfl⟩:=hv;have I1:Jk X pins σ H { s with heap:=h',toks:=tk }:=I.turned (fun b o hb e=>kk b o (by simpa using hb) e) f0 f1 f3 f4 f5;obtain ⟨o,e,hcl,d⟩:=id st';exact ⟨_,rfl,JhC (s:={ s with heap:=h',toks:=tk }) (n:=ty) e hcl d (by rcases hty with rfl | rfl <;> decide) ⟨.str ⟨#[c]⟩,H,I1,⟨u,rfl⟩,⟨rfl,c,hc',rfl⟩,⟨hi,st'⟩,fun b hb=>(hf b hb).1⟩⟩
 done:=by
  intro X hP hw hK hc i pins s σ H E I hf st hg;subst hP hw hK;obtain ⟨f0,f1,f2,f3,f4,f5⟩:=hf it (by simp);have hi:z.cps.size≤i:=hg;obtain rfl:i=z.cps.size:=Nat.le_antisymm st.1 hi;exact (W X.A (I.ok.hd hc)).done s _ _ st.2 fun h' tk kk=>⟨rfl,I.turned (fun b o hb e=>kk b o (by simpa using hb) e) f0 f1 f3 f4 f5⟩
 self:=fun A i s Q E st h=>by
  rcases hty with rfl | rfl
  ·exact wpAny_pyIter_striter_ascii st.2 h
  ·exact wpAny_pyIter_striter_wide st.2 h
section
variable {X:Cx} {tg:Expr}
def JpC (tl:TE):TI:=fun σ H R=>tl σ H fun x H1=>∃ z,x=.str z∧R (Its z) H1
theorem Jn2 {l:Expr} {tl:TE} (hl:PE X l tl):PI X tg l (JpC tl):=by
 intro pins s σ H R I h;refine JJ (hl pins s σ H _ I h) fun v s1 ⟨x,H1,I1,r1,z,ez,q⟩=>?_
 subst ez;obtain ⟨t,rfl⟩:=r1;have fp:∀ b∈[s1.heap.objs.size],Jc7 X pins H1 b:=fun b hb=>by
  have e:b=s1.heap.objs.size:=by simpa using hb
  subst e;exact I1.fpOk (Nat.le_refl _) (I1.hok.fresh (Nat.le_refl _))
 cases ha:z.cps.all (· < 128)
 ·refine wpAny_pyIter_wide ha ?_;exact ⟨s1.heap.objs.size,[s1.heap.objs.size],_,_,H1,rfl,I1.kept (t':=s1.toks) fun b o e=>Heap.get?_push_of_some _ e,JhF _ z t "str_iterator" (.inr rfl) (fun A' hA=>Walks.strWide hA _ z t),⟨Nat.zero_le _,_,Heap.get?_push_size _ rfl,rfl,rfl⟩,fp,q⟩
 ·refine wpAny_pyIter_ascii ha ?_;exact ⟨s1.heap.objs.size,[s1.heap.objs.size],_,_,H1,rfl,I1.kept (t':=s1.toks) fun b o e=>Heap.get?_push_of_some _ e,JhF _ z t "str_ascii_iterator" (.inl rfl) (fun A' hA=>Walks.strAscii hA _ z t),⟨Nat.zero_le _,_,Heap.get?_push_size _ rfl,rfl,rfl⟩,fp,q⟩
end
section
variable {X:Cx}
theorem JmV {bs:List Bool}:∀ {us:List Value},Jw (bs.map V.bl) us→us=bs.map Value.bool:=by
 induction bs with
 | nil=>intro us r; cases r; rfl
 | cons b bs ih =>
  intro us r;cases r with
  | cons r rr =>
   cases (show _=Value.bool b from r);rw [ih rr]; rfl
theorem Jmt (hc:X.calm=true):Zd X (.builtin "all") (fun xs H Q=>∃ (l:Addr) (bs:List Bool),xs=[.ref l]∧Jo X.K H l (bs.map V.bl)∧Q (.bl (bs.all id)) H):=by
 intro pins s σ H xs us Q I r h;obtain ⟨l,bs,rfl,hl,q⟩:=h;obtain ⟨u,rfl,ru⟩:=Jw.one r;cases ru;obtain ⟨its,rv,pl,hz⟩:=I.list hl;have e:=JmV rv;subst e;refine call_all_walk (wpAny_pyIter_list pl.isList ?_);have hlt:l < s.heap.objs.size:=by obtain ⟨o,n,e,_⟩:=pl; exact Heap.lt_size e
 refine ⟨_,_,_,_,_,_,fun i=>(bs[i]?).getD true,rfl,Walks.list (A:=X.A.in1) (I.ok.hd hc) s.heap.objs.size l (Nat.ne_of_lt hlt) (bs.map Value.bool).toArray,?_,?_,fun h' tk kk=>?_⟩
 ·exact ⟨⟨_,Heap.get?_push_size _ rfl,rfl,rfl⟩,(by obtain ⟨o,n,e,c,d1,d2⟩:=pl; exact ⟨o,Heap.get?_push_of_some _ e,c,n,d2⟩)⟩
 ·intro i v s' Q' E' hP hQ;have hP:(bs.map Value.bool).toArray[i]?=some v:=hP;rw [List.getElem?_toArray,List.getElem?_map] at hP;cases hb:bs[i]? with
  | none=>rw [hb] at hP; cases hP
  | some b =>
   rw [hb] at hP;cases hP;have hQ:Q' ((bs[i]?).getD true) s':=hQ;rw [hb] at hQ;exact wpAny_truthy_bool hQ
 ·have e:(List.range (bs.map Value.bool).toArray.size).all (fun i=>(bs[i]?).getD true)=bs.all id:=by
   rw [List.size_toArray,List.length_map,Bool.eq_iff_iff,List.all_eq_true,List.all_eq_true];constructor
   ·intro h b hb;obtain ⟨i,hi,rfl⟩:=List.mem_iff_getElem.mp hb;have z:=h i (List.mem_range.mpr hi);rw [List.getElem?_eq_getElem hi] at z;exact z
   ·intro h i hi;have hi':=List.mem_range.mp hi;rw [List.getElem?_eq_getElem hi'];exact h _ (List.getElem_mem hi')
  rw [e];exact ⟨.bl _,H,I.kept fun b o e=>kk b o (fun z=>absurd (Heap.lt_size e) (by rw [List.mem_singleton.mp z]; exact Nat.lt_irrefl _)) (Heap.get?_push_of_some _ e),rfl,q⟩
end
end L2
namespace L2
open PySem PySem.Spec PyProof.Rows
def tm (n:Nat) (z:Str):Prop:=z.length≤n∧∀ c∈z.cps.toList,c < 16 ^ 8
theorem tm.mono {n m:Nat} {z:Str} (h:tm n z) (l:n≤m):tm m z:=⟨Nat.le_trans h.1 l,h.2⟩
theorem Jnn {xs:List V} {lo hi:Option Int} {x:V} (h:x∈JaK xs lo hi):x∈xs:=List.mem_of_mem_drop (List.mem_of_mem_take h)
end L2
namespace L2
open PySem PySem.Spec PyProof.Rows
section
variable {te:TE} {σc:St} {D:Addr} {H1:Hp} {Q:Hp→Prop}
theorem Jet {J:It} {n:Nat} {X1:Nat→V→Prop} (F:Nat→V→Prop) (h00:σc[0]?=some none) (hgo:∀ i H,i < n→Jg H1 H→J.go i H∧∀ x H',J.yld i H x H'→H'=H∧X1 i x) (hstop:∀ H,Jg H1 H→J.stop n H)
  (hD:H1 D=none) (hlen:n≤sizeLine) (he:∀ i x H,i < n→X1 i x→Jg H1 H→∀ Q':VK,(∀ v,F i v→Q' v H)→te (σc.set 0 (some x)) H Q')
  (hd:∀ ys H,Jg H1 H→H D=some (.lst ys)→ys.length=n→(∀ i v,ys[i]?=some v→F i v)→Q H):JbR J (Z7 0) JbT te σc D H1 Q:=by
 refine JeT (n:=n) (X1:=X1) (fun i ys H=>Jg H1 H∧H D=some (.lst ys)∧ys.length=i∧∀ j v,ys[j]?=some v→F j v) h00 (fun i H hi ⟨ys,p⟩=>hgo i H hi p.1) (fun H ⟨ys,p⟩=>hstop H p.1)
  ⟨Jg.upd hD,Jf,rfl,fun j v e=>by simp at e⟩ (fun i ys H p=>p.2.1) (fun i x ys H hi hx p=>?_) (fun ys H p=>hd ys H p.1 p.2.1 p.2.2.1 p.2.2.2)
 obtain ⟨e,hy,hl,hf⟩:=p;simp only [JbT,if_true];refine he i x H hi hx e _ fun v hv=>⟨hy,by omega,fun b u q=>?_,Jf,by simp [hl],fun j u q=>?_⟩
 ·rw [Jq (Jr q hD)];exact e b u q
 ·by_cases hj:j < ys.length
  ·rw [List.getElem?_append_left hj] at q;exact hf j u q
  ·rw [List.getElem?_append_right (by omega)] at q;have hj2:j - ys.length < 1:=(List.getElem?_eq_some_iff.mp q).1;have e1:j=i:=by omega
   have e2:j - ys.length=0:=by omega
   rw [e2] at q;cases q;rw [e1];exact hv
theorem Jhf {K:PySem.W.Frag} {a:Addr} {xs:List V} (F:Nat→V→Prop) (h00:σc[0]?=some none) (hS:Jo K H1 a xs) (hD:H1 D=none) (hlen:xs.length≤sizeLine)
  (he:∀ i x H,xs[i]?=some x→Jg H1 H→∀ Q':VK,(∀ v,F i v→Q' v H)→te (σc.set 0 (some x)) H Q')
  (hd:∀ ys H,Jg H1 H→H D=some (.lst ys)→ys.length=xs.length→(∀ i v,ys[i]?=some v→F i v)→Q H):JbR (Itl K a) (Z7 0) JbT te σc D H1 Q :=
 Jet (n:=xs.length) (X1:=fun i x=>xs[i]?=some x) F h00 (fun i H hi e=>⟨⟨xs,xs[i],e.seq hS,by simp [hi]⟩,fun x H' y=>⟨y.1,y.2 xs (e.seq hS)⟩⟩) (fun H e=>⟨xs,e.seq hS,Nat.le_refl _⟩) hD hlen (fun i x H _ hx e=>he i x H hx e) hd
theorem Jhz {z:Str} (F:Nat→V→Prop) (h00:σc[0]?=some none) (hD:H1 D=none) (hlen:z.length≤sizeLine)
  (he:∀ i c H,z.cps[i]?=some c→Jg H1 H→∀ Q':VK,(∀ v,F i v→Q' v H)→te (σc.set 0 (some (.str ⟨#[c]⟩))) H Q')
  (hd:∀ ys H,Jg H1 H→H D=some (.lst ys)→ys.length=z.length→(∀ i v,ys[i]?=some v→F i v)→Q H):JbR (Its z) (Z7 0) JbT te σc D H1 Q :=
 Jet (n:=z.length) (X1:=fun i x=>∃ c,z.cps[i]?=some c∧x=.str ⟨#[c]⟩) F h00 (fun i H hi _=>⟨hi,fun x H' y=>y⟩) (fun H _=>Nat.le_refl _) hD hlen (fun i x H hi hx e=>by obtain ⟨c,hc,rfl⟩:=hx; exact he i c H hc e) hd
end
end L2
namespace HS
open PySem PySem.SetTable
def adv (m:Nat) (p:Probe):Probe :=
 if p.more > 0 then ⟨p.j + 1,p.more - 1,p.i,p.perturb,p.dummy⟩
 else ⟨(leap m p.i p.perturb).1,runEnd m (leap m p.i p.perturb).1 - (leap m p.i p.perturb).1,(leap m p.i p.perturb).1,(leap m p.i p.perturb).2,p.dummy⟩
theorem Jf1 (t:SetTable) (p:Probe):t.advance p=adv t.mask p:=by
 unfold SetTable.advance adv;split <;> rfl
def st (m i q:Nat):Probe:=⟨i,runEnd m i - i,i,q,none⟩
def Yj (m:Nat) (h:Int):Probe:=st m (bits h % (m + 1)) (bits h)
def J4 (m:Nat):Nat→Probe→Probe
 | 0,p=>p
 | k + 1,p=>J4 m k (adv m p)
theorem JcA (m:Nat):∀ a b p,J4 m (a + b) p=J4 m b (J4 m a p)
 | 0,b,p=>by rw [Nat.zero_add]; rfl
 | a + 1,b,p=>by
  have e:a + 1 + b=(a + b) + 1:=by omega
  rw [e];exact JcA m a b (adv m p)
theorem Jel (m:Nat):∀ k p,(J4 m k p).dummy=p.dummy
 | 0,_=>rfl
 | k + 1,p=>by
  show (J4 m k (adv m p)).dummy=p.dummy;rw [Jel m k];unfold adv;split <;> rfl
theorem Jcz {m i q:Nat}:∀ {d:Nat},d≤runEnd m i - i→J4 m d (st m i q)=⟨i + d,runEnd m i - i - d,i,q,none⟩
 | 0,_=>rfl
 | d + 1,h=>by
  rw [JcA m d 1,Jcz (d:=d) (by omega)];show adv m _=_;unfold adv;rw [if_pos (by show runEnd m i - i - d > 0; omega)];show Probe.mk _ _ _ _ _=_;congr 1
theorem Jin {m i q:Nat}:J4 m (runEnd m i - i + 1) (st m i q)=st m (leap m i q).1 (leap m i q).2:=by
 rw [JcA m _ 1,Jcz (Nat.le_refl _)];show adv m _=_;unfold adv;rw [if_neg (by show ¬ runEnd m i - i - (runEnd m i - i) > 0; omega)];rfl
theorem JiZ (m i:Nat):runEnd m i - i≤9:=by unfold runEnd; split <;> omega
theorem Jkt {m i:Nat} (h:i≤m):runEnd m i≤m:=by unfold runEnd; split <;> omega
theorem Jgw (m i q:Nat):(leap m i q).1≤m:=Nat.le_of_lt_succ (Nat.mod_lt _ (Nat.succ_pos _))
def Zs (m:Nat):Nat→Nat×Nat→Nat×Nat
 | 0,x=>x
 | L + 1,x=>Zs m L (leap m x.1 x.2)
theorem JcL (m:Nat):∀ a b x,Zs m (a + b) x=Zs m b (Zs m a x)
 | 0,b,x=>by rw [Nat.zero_add]; rfl
 | a + 1,b,x=>by
  have e:a + 1 + b=(a + b) + 1:=by omega
  rw [e];exact JcL m a b _
theorem Jli (m:Nat):∀ L i q,∃ k,k≤10 * L∧J4 m k (st m i q)=st m (Zs m L (i,q)).1 (Zs m L (i,q)).2
 | 0,i,q=>⟨0,Nat.le_refl _,rfl⟩
 | L + 1,i,q=>by
  obtain ⟨k,hk,e⟩:=Jli m L (leap m i q).1 (leap m i q).2;have r:=JiZ m i;refine ⟨runEnd m i - i + 1 + k,by omega,?_⟩;rw [JcA,Jin,e];rfl
theorem JhW (m:Nat):∀ L i q,(Zs m L (i,q)).2=q / 32 ^ L
 | 0,i,q=>by simp [Zs]
 | L + 1,i,q=>by
  show (Zs m L ((leap m i q).1,(leap m i q).2)).2=_;rw [JhW m L];show q / 32 / 32 ^ L=_;rw [Nat.div_div_eq_div_mul,Nat.pow_succ,Nat.mul_comm]
theorem JiY (m:Nat):∀ L i q,i≤m→(Zs m L (i,q)).1≤m
 | 0,i,q,h=>h
 | L + 1,i,q,h=>JiY m L _ _ (Jgw m i q)
def JjH (m:Nat):Nat→Nat→List Nat
 | 0,i=>[i]
 | L + 1,i=>i :: JjH m L ((i * 5 + 1) % (m + 1))
theorem Jeb (m:Nat):∀ n i j,j∈JjH m n i→∃ L,L≤n∧(Zs m L (i,0)).1=j
 | 0,i,j,h=>⟨0,Nat.le_refl _,(List.mem_singleton.mp h).symm⟩
 | n + 1,i,j,h=>by
  rcases List.mem_cons.mp h with rfl | h
  ·exact ⟨0,Nat.zero_le _,rfl⟩
  ·obtain ⟨L,hL,e⟩:=Jeb m n _ j h;refine ⟨L + 1,by omega,?_⟩;show (Zs m L (leap m i 0)).1=j;have e2:leap m i 0=((i * 5 + 1) % (m + 1),0):=by unfold leap; simp
   rw [e2];exact e
def Msk (m:Nat):Prop:=m=7∨m=31∨m=127
def JmR (m:Nat):Bool:=((List.range (m + 1)).all fun j=>(JjH m m 0).contains j) && decide (Zs m (m + 1) (0,0)=(0,0))
theorem Jmw {m:Nat} (h:Msk m):JmR m=true:=by
 rcases h with rfl | rfl | rfl <;> decide +kernel
theorem JnT (m:Nat) (L i:Nat):Zs m L (i,0)=((Zs m L (i,0)).1,0):=Prod.ext rfl (by rw [JhW]; exact Nat.zero_div _)
theorem JkA {m i j:Nat} (h:Msk m) (hi:i≤m) (hj:j≤m):∃ L,L≤m∧(Zs m L (i,0)).1=j:=by
 have z:=Jmw h;unfold JmR at z;rw [Bool.and_eq_true] at z;obtain ⟨z1,z2⟩:=z;have per:Zs m (m + 1) (0,0)=(0,0):=of_decide_eq_true z2;obtain ⟨a,ha,ea⟩:=Jeb m m 0 i (List.contains_iff_mem.mp (List.all_eq_true.mp z1 i (List.mem_range.mpr (by omega))));obtain ⟨b,hb,eb⟩:=Jeb m m 0 j (List.contains_iff_mem.mp (List.all_eq_true.mp z1 j (List.mem_range.mpr (by omega))));have ei:Zs m a (0,0)=(i,0):=by rw [JnT,ea]
 by_cases hab:a≤b
 ·refine ⟨b - a,by omega,?_⟩;rw [← ei,← JcL,show a + (b - a)=b by omega];exact eb
 ·refine ⟨m + 1 - a + b,by omega,?_⟩;rw [← ei,← JcL,show a + (m + 1 - a + b)=(m + 1) + b by omega,JcL,per];exact eb
theorem Jk6 {m i q j:Nat} (h:Msk m) (hi:i≤m) (hq:q < 2 ^ 64) (hj:j≤m):∃ L,L≤13 + m∧(Zs m L (i,q)).1=j:=by
 have e:Zs m 13 (i,q)=((Zs m 13 (i,q)).1,0):=by
  refine Prod.ext rfl ?_;rw [JhW];exact Nat.div_eq_of_lt (Nat.lt_trans hq (by decide))
 obtain ⟨L,hL,e2⟩:=JkA h (JiY m 13 i q hi) hj;refine ⟨13 + L,by omega,?_⟩;rw [JcL,e];exact e2
theorem Jjl (h:Int):bits h < 2 ^ 64:=by
 unfold bits;have h1:=Int.emod_lt_of_pos h (b:=(2 ^ 64:Int)) (by decide);have h0:=Int.emod_nonneg h (b:=(2 ^ 64:Int)) (by decide);omega
theorem JeF (m:Nat) (h:Int):bits h % (m + 1)≤m:=Nat.le_of_lt_succ (Nat.mod_lt _ (Nat.succ_pos _))
theorem JfP {m:Nat}:∀ {k p},p.j + p.more≤m→(J4 m k p).j + (J4 m k p).more≤m
 | 0,p,h=>h
 | k + 1,p,h=>by
  refine JfP (k:=k) (p:=adv m p) ?_;unfold adv;split
  ·show p.j + 1 + (p.more - 1)≤m;omega
  ·show (leap m p.i p.perturb).1 + (runEnd m (leap m p.i p.perturb).1 - (leap m p.i p.perturb).1)≤m;have a:=Jgw m p.i p.perturb;have b:=Jkt a;omega
theorem Je6 (m:Nat) (h:Int):(Yj m h).j + (Yj m h).more≤m:=by
 have a:=JeF m h;have b:=Jkt a;show bits h % (m + 1) + (runEnd m (bits h % (m + 1)) - bits h % (m + 1))≤m;omega
def Jbl (m:Nat) (occ:Nat→Bool) (p:Probe) (k:Nat):Prop:=occ (J4 m k p).j=false∧∀ k',k' < k→occ (J4 m k' p).j=true
theorem Jmn {m:Nat} {occ:Nat→Bool} {p:Probe}:∀ {k:Nat},occ (J4 m k p).j=false→∃ k',k'≤k∧Jbl m occ p k':=by
 intro k
 induction k using Nat.strongRecOn with
 | _ k ih =>
  intro h;by_cases hx:∃ k',k' < k∧occ (J4 m k' p).j=false
  ·obtain ⟨k',h1,h2⟩:=hx;obtain ⟨k2,h3,h4⟩:=ih k' h1 h2;exact ⟨k2,by omega,h4⟩
  ·refine ⟨k,Nat.le_refl _,h,fun k' hk=>?_⟩;cases hb:occ (J4 m k' p).j with
   | true=>rfl
   | false=>exact absurd ⟨k',hk,hb⟩ hx
theorem Jmo {m:Nat} {occ:Nat→Bool} {h:Int} {j:Nat} (hm:Msk m) (hj:j≤m) (ho:occ j=false):∃ k,k < 10 * (m + 15)∧Jbl m occ (Yj m h) k:=by
 obtain ⟨L,hL,e⟩:=Jk6 hm (JeF m h) (Jjl h) hj;obtain ⟨k,hk,e2⟩:=Jli m L (bits h % (m + 1)) (bits h);have e3:(J4 m k (Yj m h)).j=j:=by
  show (J4 m k (st m _ _)).j=j;rw [e2];exact e
 obtain ⟨k',h1,h2⟩:=Jmn (occ:=occ) (by rw [e3]; exact ho);exact ⟨k',by omega,h2⟩
theorem Jbl.step {m:Nat} {occ:Nat→Bool} {p:Probe} {k:Nat} (h:Jbl m occ p (k + 1)):occ p.j=true∧Jbl m occ (adv m p) k:=⟨h.2 0 (Nat.succ_pos _),h.1,fun k' hk=>h.2 (k' + 1) (by omega)⟩
theorem Jja {t:SetTable} {hashAt:Nat→Int} {h:Int} {occ:Nat→Bool} (ho:∀ j,occ j=true→∃ i,t.slot j=.live i) (hf:∀ j,occ j=false→t.slot j=.empty):∀ (k fuel:Nat) (p:Probe),k < fuel→Jbl t.mask occ p k→p.dummy=none →
  (∃ n i,n < k∧t.slot (J4 t.mask n p).j=.live i∧hashAt i=h∧(∀ n' i',n' < n→t.slot (J4 t.mask n' p).j=.live i'→hashAt i'≠h)∧probe.go t hashAt h fuel p=some (.candidate (J4 t.mask n p).j i (J4 t.mask (n + 1) p))) ∨
  ((∀ n i,n < k→t.slot (J4 t.mask n p).j=.live i→hashAt i≠h)∧probe.go t hashAt h fuel p=some (.empty (J4 t.mask k p).j none))
 | 0,fuel + 1,p,_,hF,hd=>by
  refine .inr ⟨fun n i hn=>absurd hn (Nat.not_lt_zero _),?_⟩;have hz:t.slot p.j=.empty:=hf _ hF.1;unfold probe.go;rw [hz,hd];rfl
 | k + 1,fuel + 1,p,hk,hF,hd=>by
  obtain ⟨h1,h2⟩:=hF.step;obtain ⟨i,hi⟩:=ho _ h1;by_cases hh:hashAt i=h
  ·refine .inl ⟨0,i,Nat.succ_pos _,hi,hh,fun n' i' hn=>absurd hn (Nat.not_lt_zero _),?_⟩;unfold probe.go;rw [hi];simp only [hh,beq_self_eq_true,if_true,Jf1];rfl
  ·have e:probe.go t hashAt h (fuel + 1) p=probe.go t hashAt h fuel (adv t.mask p):=by
    rw [probe.go];rw [hi];have hb:(hashAt i == h)=false:=by simpa using hh
    simp only [hb,Bool.false_eq_true,if_false,Jf1]
   have hd2:(adv t.mask p).dummy=none:=by
    have z:=Jel t.mask 1 p;exact z.trans hd
   rcases Jja ho hf k fuel (adv t.mask p) (by omega) h2 hd2 with ⟨n,i2,a1,a2,a3,a4,a5⟩ | ⟨a1,a2⟩
   ·refine .inl ⟨n + 1,i2,by omega,a2,a3,fun n' i' hn hs=>?_,by rw [e,a5]; rfl⟩;cases n' with
    | zero =>
     have z:t.slot p.j=.live i':=hs;rw [hi] at z;cases z;exact hh
    | succ n'=>exact a4 n' i' (by omega) hs
   ·refine .inr ⟨fun n i2 hn hs=>?_,by rw [e,a2]; rfl⟩;cases n with
    | zero =>
     have z:t.slot p.j=.live i2:=hs;rw [hi] at z;cases z;exact hh
    | succ n=>exact a1 n i2 (by omega) hs
def Ris (xs:Array Nat):Prop:=∀ a b,a < b→b < xs.size→xs.getD a 0 < xs.getD b 0
theorem Jft {xs:Array Nat} {j:Nat} (hr:Ris xs):∀ (fuel lo hi:Nat),hi - lo≤fuel→lo≤hi→hi≤xs.size→(∀ k,k < lo→xs.getD k 0 < j)→(∀ k,hi≤k→k < xs.size→j≤xs.getD k 0) →
  below.go xs j fuel lo hi≤xs.size∧(∀ k,k < below.go xs j fuel lo hi→xs.getD k 0 < j)∧(∀ k,below.go xs j fuel lo hi≤k→k < xs.size→j≤xs.getD k 0)
 | 0,lo,hi,hf,hl,hz,h1,h2=>by
  have e:lo=hi:=by omega
  subst e;unfold below.go;exact ⟨hz,h1,h2⟩
 | fuel + 1,lo,hi,hf,hl,hz,h1,h2=>by
  unfold below.go;by_cases hlt:lo < hi
  ·rw [if_pos hlt];have hm1:lo≤(lo + hi) / 2:=by omega
   have hm2:(lo + hi) / 2 < hi:=by omega
   have e:xs.getD ((lo + hi) / 2) j=xs.getD ((lo + hi) / 2) 0:=by
    have hlt2:(lo + hi) / 2 < xs.size:=by omega
    simp [Array.getD,hlt2]
   dsimp only;rw [e];by_cases hc:xs.getD ((lo + hi) / 2) 0 < j
   ·rw [if_pos hc];refine Jft hr fuel _ hi (by omega) (by omega) hz (fun k hk=>?_) h2;by_cases hk2:k=(lo + hi) / 2
    ·rw [hk2]; exact hc
    ·exact Nat.lt_trans (hr k _ (by omega) (by omega)) hc
   ·rw [if_neg hc];refine Jft hr fuel lo _ (by omega) hm1 (by omega) h1 (fun k hk hks=>?_);by_cases hk2:k=(lo + hi) / 2
    ·rw [hk2]; omega
    ·have:=hr _ k (show (lo + hi) / 2 < k by omega) hks;omega
  ·rw [if_neg hlt];have e:lo=hi:=by omega
   subst e;exact ⟨hz,h1,h2⟩
theorem Jf0 {xs:Array Nat} (hr:Ris xs) (j:Nat):below xs j≤xs.size∧(∀ k,k < below xs j→xs.getD k 0 < j)∧(∀ k,below xs j≤k→k < xs.size→j≤xs.getD k 0) :=
 Jft hr xs.size 0 xs.size (by omega) (Nat.zero_le _) (Nat.le_refl _) (fun k hk=>absurd hk (Nat.not_lt_zero _)) fun k hk hks=>by omega
def Yu (place:Array Nat) (j:Nat):Bool:=place.toList.contains j
theorem Jdy {place:Array Nat} {j:Nat}:Yu place j=true↔∃ a,a < place.size∧place.getD a 0=j:=by
 unfold Yu;rw [List.contains_iff_mem,List.mem_iff_getElem];constructor
 ·rintro ⟨a,ha,e⟩;have ha':a < place.size:=by simpa using ha
  exact ⟨a,ha',by simpa [Array.getD,ha'] using e⟩
 ·rintro ⟨a,ha,e⟩;exact ⟨a,by simpa using ha,by simpa [Array.getD,ha] using e⟩
theorem Jd4 {t:SetTable} (hr:Ris t.place) {a:Nat} (ha:a < t.place.size):t.slot (t.place.getD a 0)=.live a:=by
 obtain ⟨b1,b2,b3⟩:=Jf0 hr (t.place.getD a 0);have e:below t.place (t.place.getD a 0)=a:=by
  rcases Nat.lt_trichotomy (below t.place (t.place.getD a 0)) a with h | h | h
  ·have:=b3 _ (Nat.le_refl _) (by omega);have:=hr _ a h ha;omega
  ·exact h
  ·have:=b2 a h;omega
 unfold SetTable.slot;dsimp only;rw [e];have e2:t.place[a]?=some (t.place.getD a 0):=by simp [Array.getD,ha]
 rw [e2];simp
theorem JfA {t:SetTable} (hr:Ris t.place) (hd:t.dummies=#[]) {j:Nat} (h:Yu t.place j=false):t.slot j=.empty:=by
 unfold SetTable.slot;dsimp only;have hn:(t.place[below t.place j]? == some j)=false:=by
  cases hb:(t.place[below t.place j]? == some j) with
  | false=>rfl
  | true =>
   have z:t.place[below t.place j]?=some j:=by simpa using hb
   obtain ⟨hlt,e⟩:=Array.getElem?_eq_some_iff.mp z;have:Yu t.place j=true:=Jdy.mpr ⟨_,hlt,by simp [Array.getD,hlt,e]⟩;rw [h] at this; cases this
 rw [hn,hd];have hh:has #[] j=false:=by unfold has; simp
 rw [hh];rfl
theorem Jmb {t:SetTable} (hr:Ris t.place) {j:Nat} (h:Yu t.place j=true):∃ i,t.slot j=.live i:=by
 obtain ⟨a,ha,rfl⟩:=Jdy.mp h;exact ⟨a,Jd4 hr ha⟩
theorem Jnp {t:SetTable} (hr:Ris t.place) (hd:t.dummies=#[]) {j i:Nat} (h:t.slot j=.live i):i < t.place.size∧t.place.getD i 0=j:=by
 cases ho:Yu t.place j with
 | false=>rw [JfA hr hd ho] at h; cases h
 | true =>
  obtain ⟨a,ha,rfl⟩:=Jdy.mp ho;rw [Jd4 hr ha] at h;cases h;exact ⟨ha,rfl⟩
theorem JcU:∀ {l r:List Nat},l.Nodup→(∀ x∈l,x∈r)→l.length≤r.length
 | [],_,_,_=>Nat.zero_le _
 | x :: l,r,hn,hs=>by
  have hx:=hs x (List.mem_cons_self ..);have h1:=List.nodup_cons.mp hn;have z:=JcU (l:=l) (r:=r.erase x) h1.2 fun y hy=>(List.mem_erase_of_ne (by rintro rfl; exact h1.1 hy)).mpr (hs y (List.mem_cons_of_mem _ hy))
  rw [List.length_erase_of_mem hx] at z;have:0 < r.length:=List.length_pos_of_mem hx;simp only [List.length_cons];omega
theorem Jnv {place:Array Nat} {m:Nat} (h:place.size≤m):∃ j,j≤m∧Yu place j=false:=by
 by_cases hx:∃ j,j≤m∧Yu place j=false
 ·exact hx
 ·exfalso;have z:=JcU (l:=List.range (m + 1)) (r:=place.toList) List.nodup_range fun x hx2=>by
   cases ho:Yu place x with
   | false=>exact absurd ⟨x,by have:=List.mem_range.mp hx2; omega,ho⟩ hx
   | true=>exact List.contains_iff_mem.mp ho
  rw [List.length_range,Array.length_toList] at z;omega
end HS
namespace HS
open PySem PySem.SetTable
def Jf4 (m:Nat) (occ:Nat→Bool) (h:Int) (j:Nat):Prop:=∃ k,(J4 m k (Yj m h)).j=j∧∀ k',k' < k→occ (J4 m k' (Yj m h)).j=true
theorem Jf4.mono {m:Nat} {occ occ':Nat→Bool} {h:Int} {j:Nat} (r:Jf4 m occ h j) (ho:∀ j,occ j=true→occ' j=true):Jf4 m occ' h j:=let ⟨k,e,a⟩:=r; ⟨k,e,fun k' hk=>ho _ (a k' hk)⟩
structure Tab (t:SetTable) (es:Array (Int×Value)):Prop where
 msk:Msk t.mask
 dum:t.dummies=#[]
 siz:t.place.size=es.size
 ris:Ris t.place
 ub:∀ j∈t.place.toList,j≤t.mask
 cap:es.size≤t.mask
 rch:∀ z∈t.place.toList.zip es.toList,Jf4 t.mask (Yu t.place) z.2.1 z.1
theorem Tab.fits {t:SetTable} {es:Array (Int×Value)} (T:Tab t es):t.fits es.size=true:=by
 unfold SetTable.fits SetTable.fill;rw [T.dum,T.siz];have:=T.cap;simp;exact this
theorem Tab.first {t:SetTable} {es:Array (Int×Value)} (T:Tab t es) (h:Int):∃ k,k < 10 * turns t.mask∧Jbl t.mask (Yu t.place) (Yj t.mask h) k:=by
 obtain ⟨j,hj,ho⟩:=Jnv (place:=t.place) (m:=t.mask) (by rw [T.siz]; exact T.cap);exact Jmo T.msk hj ho
theorem Tab.met {t:SetTable} {es:Array (Int×Value)} (T:Tab t es) {h:Int} {k a:Nat} {e:Int×Value} (hF:Jbl t.mask (Yu t.place) (Yj t.mask h) k) (he:es.toList[a]?=some e) (hh:e.1=h) :
  ∃ n,n < k∧t.slot (J4 t.mask n (Yj t.mask h)).j=.live a:=by
 have ha:a < es.size:=by
  have:=(List.getElem?_eq_some_iff.mp he).1;simpa using this
 have ha':a < t.place.size:=by rw [T.siz]; exact ha
 have hz:(t.place.getD a 0,e)∈t.place.toList.zip es.toList:=by
  refine List.mem_of_getElem? (i:=a) ?_;rw [List.getElem?_zip_eq_some];refine ⟨?_,he⟩;simp [Array.getD,ha']
 obtain ⟨n,e1,e2⟩:=T.rch _ hz;have hh':(Yj t.mask e.1)=Yj t.mask h:=by rw [hh]
 dsimp only at e1 e2;rw [hh'] at e1;rw [hh'] at e2;have hocc:Yu t.place (t.place.getD a 0)=true:=Jdy.mpr ⟨a,ha',rfl⟩;refine ⟨n,?_,by rw [e1]; exact Jd4 T.ris ha'⟩;rcases Nat.lt_trichotomy n k with q | q | q
 ·exact q
 ·subst q;have:=hF.1;rw [e1,hocc] at this;cases this
 ·have:=e2 k q;rw [hF.1] at this;cases this
theorem Jgo {xs:Array Nat}:Ris xs↔xs.toList.Pairwise (· < ·):=by
 rw [List.pairwise_iff_getElem];constructor
 ·intro h i j hi hj hij;have hi':i < xs.size:=by simpa using hi
  have hj':j < xs.size:=by simpa using hj
  have:=h i j hij hj';simpa [Array.getD,hi',hj'] using this
 ·intro h a b hab hb;have ha:a < xs.size:=by omega
  have:=h a b (by simpa using ha) (by simpa using hb) hab;simpa [Array.getD,ha,hb] using this
theorem Jcs {α β:Type} {P:List α} {E:List β} {z:α×β}:z∈P.zip E↔∃ i:Nat,P[i]?=some z.1∧E[i]?=some z.2:=by
 rw [List.mem_iff_getElem?];constructor
 ·rintro ⟨i,e⟩;exact ⟨i,List.getElem?_zip_eq_some.mp e⟩
 ·rintro ⟨i,e⟩;exact ⟨i,List.getElem?_zip_eq_some.mpr e⟩
theorem Jjn {α β:Type} {P:List α} {E:List β} {p:Nat} {s:α} {e:β} (h:P.length=E.length) {z:α×β} (hz:z∈(P.take p ++ s :: P.drop p).zip (E.take p ++ e :: E.drop p)):z∈P.zip E∨z=(s,e):=by
 rw [List.zip_append (by rw [List.length_take,List.length_take,h]),List.zip_cons_cons] at hz;rcases List.mem_append.mp hz with q | q
 ·obtain ⟨i,e1,e2⟩:=Jcs.mp q;rw [List.getElem?_take] at e1 e2;refine .inl (Jcs.mpr ⟨i,?_,?_⟩)
  ·split at e1
   ·exact e1
   ·cases e1
  ·split at e2
   ·exact e2
   ·cases e2
 ·rcases List.mem_cons.mp q with q | q
  ·exact .inr q
  ·obtain ⟨i,e1,e2⟩:=Jcs.mp q;rw [List.getElem?_drop] at e1 e2;exact .inl (Jcs.mpr ⟨_,e1,e2⟩)
theorem Jn0 {t:SetTable} {es:Array (Int×Value)} (T:Tab t es) (j:Nat):t.put j=({ t with place:=insertAt t.place (below t.place j) j,dummies:=#[] },below t.place j):=by
 unfold SetTable.put;have hh:has #[] j=false:=by unfold has; simp
 simp only [T.dum,hh,Bool.false_eq_true,if_false]
theorem JfH {place:Array Nat} {p j j':Nat}:Yu (insertAt place p j) j'=true↔j'=j∨Yu place j'=true:=by
 unfold Yu;rw [List.contains_iff_mem,List.contains_iff_mem,SetTable.toList_insertAt,List.mem_append,List.mem_cons];constructor
 ·rintro (h | h | h)
  ·exact .inr (List.mem_of_mem_take h)
  ·exact .inl h
  ·exact .inr (List.mem_of_mem_drop h)
 ·rintro (h | h)
  ·exact .inr (.inl h)
  ·rw [← List.take_append_drop p place.toList] at h;rcases List.mem_append.mp h with h | h
   ·exact .inl h
   ·exact .inr (.inr h)
theorem Tab.put {t:SetTable} {es:Array (Int×Value)} (T:Tab t es) {h:Int} {x:Value} {k:Nat} (b:Bool) (hF:Jbl t.mask (Yu t.place) (Yj t.mask h) k) (hc:es.size + 1≤t.mask) :
  Tab { mask:=t.mask,place:=insertAt t.place (below t.place (J4 t.mask k (Yj t.mask h)).j) (J4 t.mask k (Yj t.mask h)).j,dummies:=#[],finger:=t.finger,led:=t.led,moves:=t.moves,plain:=b }
   (insertAt es (below t.place (J4 t.mask k (Yj t.mask h)).j) (h,x)):=by
 generalize hj:(J4 t.mask k (Yj t.mask h)).j=j;have ho:Yu t.place j=false:=by rw [← hj]; exact hF.1
 have hle:j≤t.mask:=by
  have:=JfP (m:=t.mask) (k:=k) (Je6 t.mask h);omega
 obtain ⟨b1,b2,b3⟩:=Jf0 T.ris j;have mono:∀ j',Yu t.place j'=true→Yu (insertAt t.place (below t.place j) j) j'=true:=fun j' q=>JfH.mpr (.inr q)
 refine ⟨T.msk,rfl,?_,?_,?_,?_,?_⟩
 ·have e1:(insertAt t.place (below t.place j) j).size=t.place.size + 1:=by
   rw [← Array.length_toList,(SetTable.insertAt_perm t.place _ j).length_eq,Array.length_toList,Array.size_push]
  have e2:(insertAt es (below t.place j) (h,x)).size=es.size + 1:=by
   rw [← Array.length_toList,(SetTable.insertAt_perm es _ (h,x)).length_eq,Array.length_toList,Array.size_push]
  show (insertAt t.place (below t.place j) j).size=_;rw [e1,e2,T.siz]
 ·rw [Jgo];show (insertAt t.place (below t.place j) j).toList.Pairwise _;rw [SetTable.toList_insertAt];have hp:=Jgo.mp T.ris;rw [List.pairwise_append,List.pairwise_cons];refine ⟨hp.sublist (List.take_sublist _ _),⟨fun a ha=>?_,hp.sublist (List.drop_sublist _ _)⟩,fun a ha c hc=>?_⟩
  ·obtain ⟨i,hi,e⟩:=List.mem_iff_getElem.mp ha;rw [List.getElem_drop] at e;have hi2:below t.place j + i < t.place.size:=by
    rw [List.length_drop,Array.length_toList] at hi;omega
   have e2:t.place.getD (below t.place j + i) 0=a:=by rw [← e]; simp [Array.getD,hi2]
   have h1:=b3 _ (Nat.le_add_right _ i) hi2;have h2:a≠j:=fun q=>by
    have:=Jdy.mpr ⟨_,hi2,e2.trans q⟩;rw [ho] at this; cases this
   omega
  ·have hlt:∀ a∈t.place.toList.take (below t.place j),a < j:=fun a ha=>by
    obtain ⟨i,hi,e⟩:=List.mem_iff_getElem.mp ha;rw [List.getElem_take] at e;rw [List.length_take,Array.length_toList] at hi;have hi2:i < t.place.size:=by omega
    have e2:t.place.getD i 0=a:=by rw [← e]; simp [Array.getD,hi2]
    have:=b2 i (by omega);omega
   rcases List.mem_cons.mp hc with q | q
   ·rw [q]; exact hlt a ha
   ·have hp2:=hp;rw [← List.take_append_drop (below t.place j) t.place.toList,List.pairwise_append] at hp2;exact hp2.2.2 a ha c q
 ·intro a ha;have:Yu (insertAt t.place (below t.place j) j) a=true:=List.contains_iff_mem.mpr ha;rcases JfH.mp this with q | q
  ·rw [q]; exact hle
  ·exact T.ub a (List.contains_iff_mem.mp q)
 ·rw [← Array.length_toList,(SetTable.insertAt_perm es _ (h,x)).length_eq,Array.length_toList,Array.size_push];exact hc
 ·intro z hz;have hz':z∈(insertAt t.place (below t.place j) j).toList.zip (insertAt es (below t.place j) (h,x)).toList:=hz;rw [SetTable.toList_insertAt,SetTable.toList_insertAt] at hz';rcases Jjn (by rw [Array.length_toList,Array.length_toList,T.siz]) hz' with q | q
  ·exact (T.rch z q).mono mono
  ·rw [q];exact ⟨k,hj,fun k' hk=>mono _ (hF.2 k' hk)⟩
def Zl (owner:Array (Option Nat)) (j:Nat):Bool:=(owner.getD j (some 0)).isSome
theorem Jhb {m:Nat} {owner:Array (Option Nat)}:∀ (fuel i q:Nat),i≤m→(∃ L,L < fuel∧Zl owner (Zs m L (i,q)).1=false) →
  ∃ k,layClean.free m owner fuel i q=some (J4 m k (st m i q)).j∧Jbl m (Zl owner) (st m i q) k
 | 0,i,q,hi,⟨L,hL,_⟩=>absurd hL (Nat.not_lt_zero _)
 | fuel + 1,i,q,hi,⟨L,hL,hf⟩=>by
  have hr:=JiZ m i;have hge:i≤runEnd m i:=by unfold runEnd; split <;> omega
  unfold layClean.free;cases hx:(List.range (runEnd m i + 1 - i)).find? fun k=>(owner.getD (i + k) (some 0)).isNone with
  | some k =>
   obtain ⟨h1,h2,h3⟩:=List.find?_range_eq_some.mp hx;have hk:k≤runEnd m i - i:=by have:=List.mem_range.mp h2; omega
   refine ⟨k,?_,?_,fun k' hk'=>?_⟩
   ·rw [Jcz hk]
   ·rw [Jcz hk];show (owner.getD (i + k) (some 0)).isSome=false;cases ho:owner.getD (i + k) (some 0) with
    | none=>rfl
    | some a=>rw [ho] at h1; cases h1
   ·rw [Jcz (by omega)];have z:=h3 k' hk';show (owner.getD (i + k') (some 0)).isSome=true;cases ho:owner.getD (i + k') (some 0) with
    | none=>rw [ho] at z; simp at z
    | some a=>rfl
  | none =>
   have hn:=List.find?_eq_none.mp hx;have occd:∀ d,d≤runEnd m i - i→Zl owner (i + d)=true:=fun d hd=>by
    have z:=hn d (List.mem_range.mpr (by omega));show (owner.getD (i + d) (some 0)).isSome=true;cases ho:owner.getD (i + d) (some 0) with
    | none=>rw [ho] at z; simp at z
    | some a=>rfl
   cases L with
   | zero =>
    have z:=occd 0 (Nat.zero_le _);rw [Nat.add_zero] at z;have hf':Zl owner i=false:=hf;rw [z] at hf'; cases hf'
   | succ L =>
    obtain ⟨k,e,hF⟩:=Jhb fuel (leap m i q).1 (leap m i q).2 (Jgw m i q) ⟨L,by omega,hf⟩;have eI:∀ n,J4 m (runEnd m i - i + 1 + n) (st m i q)=J4 m n (st m (leap m i q).1 (leap m i q).2):=fun n=>by rw [JcA,Jin]
    refine ⟨runEnd m i - i + 1 + k,?_,?_,fun k' hk'=>?_⟩
    ·rw [eI]; exact e
    ·rw [eI]; exact hF.1
    ·by_cases hs:k'≤runEnd m i - i
     ·rw [Jcz hs]; exact occd k' hs
     ·obtain ⟨n,rfl⟩:∃ n,k'=runEnd m i - i + 1 + n:=⟨k' - (runEnd m i - i + 1),by omega⟩
      rw [eI];exact hF.2 n (by omega)
structure Own (m:Nat) (owner:Array (Option Nat)) (done:List Int):Prop where
 siz:owner.size=m + 1
 all:∀ a,a < done.length→∃ j,j≤m∧owner.getD j none=some a
 has:∀ j a,owner.getD j none=some a→∃ h,done[a]?=some h∧Jf4 m (Zl owner) h j
 inj:∀ j j' a,owner.getD j none=some a→owner.getD j' none=some a→j=j'
theorem Own.lt {m:Nat} {owner:Array (Option Nat)} {done:List Int} (O:Own m owner done) {j a:Nat} (h:owner.getD j none=some a):j≤m∧a < done.length:=by
 obtain ⟨hh,e,_⟩:=O.has j a h;refine ⟨?_,(List.getElem?_eq_some_iff.mp e).1⟩;by_cases hj:j < owner.size
 ·have:=O.siz; omega
 ·rw [show owner.getD j none=none by simp [Array.getD,hj]] at h; cases h
theorem Jea {owner:Array (Option Nat)} {j:Nat} (hj:j < owner.size):owner.getD j (some 0)=owner.getD j none:=by simp [Array.getD,hj]
theorem Own.free {m:Nat} {owner:Array (Option Nat)} {done:List Int} (O:Own m owner done) (h:done.length≤m):∃ j,j≤m∧Zl owner j=false:=by
 by_cases hx:∃ j,j≤m∧Zl owner j=false
 ·exact hx
 ·exfalso;have hall:∀ j,j≤m→∃ a,owner.getD j none=some a:=fun j hj=>by
   cases ho:Zl owner j with
   | false=>exact absurd ⟨j,hj,ho⟩ hx
   | true =>
    unfold Zl at ho;rw [Jea (by rw [O.siz]; omega)] at ho;exact Option.isSome_iff_exists.mp ho
  have hnd:((List.range (m + 1)).map fun j=>(owner.getD j none).getD 0).Nodup:=by
   rw [List.Nodup,List.pairwise_map];refine List.Pairwise.imp_of_mem ?_ (List.pairwise_lt_range (n:=m + 1));intro a b ha hb hlt e;obtain ⟨x,ex⟩:=hall a (by have:=List.mem_range.mp ha; omega);obtain ⟨y,ey⟩:=hall b (by have:=List.mem_range.mp hb; omega);rw [ex,ey] at e;have e':x=y:=e;subst e';have:=O.inj a b x ex ey;omega
  have z:=JcU (r:=List.range done.length) hnd fun x hx2=>by
   obtain ⟨j,hj,e⟩:=List.mem_map.mp hx2;obtain ⟨y,ey⟩:=hall j (by have:=List.mem_range.mp hj; omega);rw [ey] at e;have e':y=x:=e;subst e';exact List.mem_range.mpr (O.lt ey).2
  rw [List.length_map,List.length_range,List.length_range] at z;omega
theorem Own.step {m:Nat} {owner:Array (Option Nat)} {done:List Int} (hm:Msk m) (O:Own m owner done) (h:done.length≤m) (x:Int) :
  ∃ j,layClean.free m owner (turns m) (bits x % (m + 1)) (bits x)=some j∧Own m (owner.setIfInBounds j (some done.length)) (done ++ [x]):=by
 obtain ⟨f,hf,ho⟩:=O.free h;obtain ⟨L,hL,eL⟩:=Jk6 hm (JeF m x) (Jjl x) hf;obtain ⟨k,e,hF⟩:=Jhb (owner:=owner) (turns m) (bits x % (m + 1)) (bits x) (JeF m x) ⟨L,by unfold turns; omega,by rw [eL]; exact ho⟩;generalize hj:(J4 m k (st m (bits x % (m + 1)) (bits x))).j=j at e;have hjm:j≤m:=by
  have:=JfP (m:=m) (k:=k) (Je6 m x);have e2:(J4 m k (Yj m x)).j=j:=hj;omega
 have hjs:j < owner.size:=by rw [O.siz]; omega
 have hj0:owner.getD j none=none:=by
  have z:=hF.1;rw [hj] at z;unfold Zl at z;rw [Jea hjs] at z;cases q:owner.getD j none with
  | none=>rfl
  | some a=>rw [q] at z; cases z
 have get:∀ i,(owner.setIfInBounds j (some done.length)).getD i none=if i=j then some done.length else owner.getD i none:=fun i=>by
  rw [Array.getD_eq_getD_getElem?,Array.getElem?_setIfInBounds];by_cases q:i=j
  ·subst q; simp [hjs]
  ·have q':¬ j=i:=fun w=>q w.symm
   rw [if_neg q',if_neg q,Array.getD_eq_getD_getElem?]
 have mono:∀ i,Zl owner i=true→Zl (owner.setIfInBounds j (some done.length)) i=true:=fun i q=>by
  unfold Zl at q ⊢;by_cases hi:i < owner.size
  ·rw [Jea (by simpa using hi),get];rw [Jea hi] at q;by_cases w:i=j
   ·rw [if_pos w]; rfl
   ·rw [if_neg w]; exact q
  ·simp [Array.getD,hi]
 refine ⟨j,e,by simpa using O.siz,fun a ha=>?_,fun i a hi=>?_,fun i i' a hi hi'=>?_⟩
 ·by_cases hlt:a < done.length
  ·obtain ⟨i,hi,ei⟩:=O.all a hlt;refine ⟨i,hi,?_⟩;rw [get,if_neg (fun q=>by rw [q,hj0] at ei; cases ei)];exact ei
  ·rw [List.length_append,List.length_singleton] at ha;have:a=done.length:=by omega
   subst this;exact ⟨j,hjm,by rw [get,if_pos rfl]⟩
 ·rw [get] at hi;split at hi
  ·rename_i q;cases hi;refine ⟨x,by simp,?_⟩;rw [q];exact ⟨k,hj,fun k' hk=>mono _ (hF.2 k' hk)⟩
  ·obtain ⟨hh,e1,r⟩:=O.has i a hi;exact ⟨hh,by rw [List.getElem?_append_left (List.getElem?_eq_some_iff.mp e1).1]; exact e1,r.mono mono⟩
 ·rw [get] at hi hi';split at hi <;> split at hi'
  ·rename_i q q'; rw [q,q']
  ·cases hi;have:=(O.lt hi').2;omega
  ·cases hi';have:=(O.lt hi).2;omega
  ·exact O.inj i i' a hi hi'
def Jil (m:Nat) (acc:Option (Array (Option Nat)×Nat)) (h:Int):Option (Array (Option Nat)×Nat):=do
 let (owner,k) ← acc;let j ← layClean.free m owner (turns m) (bits h % (m + 1)) (bits h)
 pure (owner.setIfInBounds j (some k),k + 1)
theorem Jik {m:Nat} (hm:Msk m):∀ (todo done:List Int) (owner:Array (Option Nat)),Own m owner done→done.length + todo.length≤m→∃ owner',todo.foldl (Jil m) (some (owner,done.length))=some (owner',done.length + todo.length)∧Own m owner' (done ++ todo)
 | [],done,owner,O,_=>⟨owner,by simp,by simpa using O⟩
 | x :: todo,done,owner,O,h=>by
  simp only [List.length_cons] at h;obtain ⟨j,e,O2⟩:=O.step hm (by omega) x;obtain ⟨o3,e3,O3⟩:=Jik hm todo (done ++ [x]) _ O2 (by rw [List.length_append,List.length_singleton]; omega);refine ⟨o3,?_,by simpa using O3⟩;rw [List.foldl_cons];have e4:Jil m (some (owner,done.length)) x=some (owner.setIfInBounds j (some done.length),done.length + 1):=by
   unfold Jil;simp [e]
  rw [e4];rw [List.length_append,List.length_singleton] at e3;rw [e3];simp only [List.length_cons];congr 2;omega
theorem JkN {m:Nat} (hm:Msk m) (hashes:Array Int) (h:hashes.size≤m):∃ owner,layClean m hashes=some owner∧Own m owner hashes.toList:=by
 have O0:Own m (Array.replicate (m + 1) none) []:=by
  have g:∀ j,(Array.replicate (m + 1) (none:Option Nat)).getD j none=none:=fun j=>by
   rw [Array.getD_eq_getD_getElem?,Array.getElem?_replicate];split <;> rfl
  refine ⟨by simp,fun a ha=>absurd ha (Nat.not_lt_zero _),fun j a e=>?_,fun j j' a e=>?_⟩
  ·rw [g] at e; cases e
  ·rw [g] at e; cases e
 obtain ⟨owner,e,O⟩:=Jik hm hashes.toList [] _ O0 (by simpa using h);refine ⟨owner,?_,by simpa using O⟩;unfold layClean;have e2:(hashes.foldl (init:=some (Array.replicate (m + 1) none,0)) fun acc h=>do
  let (owner,k) ← acc;let j ← layClean.free m owner (turns m) (bits h % (m + 1)) (bits h)
  pure (owner.setIfInBounds j (some k),k + 1))=hashes.toList.foldl (Jil m) (some (Array.replicate (m + 1) none,0)):=by
  rw [← Array.foldl_toList];rfl
 rw [e2];have e3:hashes.toList.foldl (Jil m) (some (Array.replicate (m + 1) none,0))=some (owner,0 + hashes.toList.length):=e;rw [e3];rfl
theorem JhD {es:Array (Int×Value)}:∀ {live:List (Nat×Nat)},(∀ x∈live,x.2 < es.size)→((live.map (·.2)).filterMap (es[·]?)).length=live.length ∧
  ∀ z∈(live.map (·.1)).zip ((live.map (·.2)).filterMap (es[·]?)),∃ x∈live,z.1=x.1∧es[x.2]?=some z.2
 | [],_=>⟨rfl,fun z hz=>nomatch hz⟩
 | x :: r,h=>by
  obtain ⟨a,b⟩:=JhD (live:=r) fun y hy=>h y (List.mem_cons_of_mem _ hy)
  have hx:=h x (List.mem_cons_self ..);have e:es[x.2]?=some es[x.2]:=Array.getElem?_eq_getElem hx;rw [List.map_cons,List.filterMap_cons_some e,List.map_cons,List.zip_cons_cons];refine ⟨by rw [List.length_cons,List.length_cons,a],fun z hz=>?_⟩;rcases List.mem_cons.mp hz with q | q
  ·exact ⟨x,List.mem_cons_self ..,by rw [q],by rw [q]; exact e⟩
  ·obtain ⟨y,hy,e1,e2⟩:=b z q;exact ⟨y,List.mem_cons_of_mem _ hy,e1,e2⟩
theorem JoO {m:Nat} (hm:Msk m) (finger moves:Nat) (led plain:Bool) (es:Array (Int×Value)) (h:es.size≤m) :
  ∃ t order,laid m finger moves led plain (es.map (·.1))=some (t,order)∧Tab t (order.filterMap (es[·]?))∧(order.filterMap (es[·]?)).size=es.size∧(∀ e,e∈(order.filterMap (es[·]?)).toList↔e∈es.toList)∧t.mask=m:=by
 obtain ⟨owner,eo,O⟩:=JkN hm (es.map (·.1)) (by simpa using h);have hlen:(es.map (·.1)).toList.length=es.size:=by simp
 let live:=(List.range (m + 1)).filterMap fun j=>(owner.getD j none).map (j,·)
 have hlive:∀ x,x∈live↔owner.getD x.1 none=some x.2:=fun x=>by
  rw [List.mem_filterMap];constructor
  ·rintro ⟨j,hj,e⟩;obtain ⟨a,ea,e2⟩:=Option.map_eq_some_iff.mp e;rw [← e2];exact ea
  ·intro e;exact ⟨x.1,List.mem_range.mpr (by have:=(O.lt e).1; omega),by rw [e]; rfl⟩
 have hlt:∀ x∈live,x.2 < es.size:=fun x hx=>by rw [← hlen]; exact (O.lt ((hlive x).mp hx)).2
 obtain ⟨zl,zm⟩:=JhD hlt;have efst:live.map (·.1)=(List.range (m + 1)).filter fun j=>(owner.getD j none).isSome:=by
  show ((List.range (m + 1)).filterMap fun j=>(owner.getD j none).map (j,·)).map (·.1)=_;rw [List.map_filterMap]
  induction List.range (m + 1) with
  | nil=>rfl
  | cons a r ih =>
   cases ho:owner.getD a none with
   | none=>simp only [List.filterMap_cons,List.filter_cons,ho,Option.map_none,Option.isSome_none,Bool.false_eq_true,if_false]; exact ih
   | some b=>simp only [List.filterMap_cons,List.filter_cons,ho,Option.map_some,Option.isSome_some,if_true]; rw [ih]
 have hocc:∀ j,Zl owner j=true→j≤m→Yu (live.map (·.1)).toArray j=true:=fun j q hj=>by
  unfold Yu;rw [List.contains_iff_mem,List.toList_toArray,efst,List.mem_filter];refine ⟨List.mem_range.mpr (by omega),?_⟩;unfold Zl at q;rw [Jea (by rw [O.siz]; omega)] at q;exact q
 have hcount:live.length=es.size:=by
  have n1:(live.map (·.2)).Nodup:=by
   rw [List.Nodup,List.pairwise_map];refine List.Pairwise.imp_of_mem (R:=fun x y=>x.1 < y.1) ?_ ?_
   ·intro x y hx hy hxy e;have e1:=(hlive x).mp hx;have e2:=(hlive y).mp hy;rw [← e] at e2;have:=O.inj _ _ _ e1 e2;omega
   ·have z:(live.map (·.1)).Pairwise (· < ·):=by rw [efst]; exact List.pairwise_lt_range.sublist List.filter_sublist
    exact List.pairwise_map.mp z
  have a1:=JcU n1 (r:=List.range es.size) fun x hx=>by
   obtain ⟨y,hy,e⟩:=List.mem_map.mp hx;rw [← e];exact List.mem_range.mpr (hlt y hy)
  have a2:=JcU (l:=List.range es.size) (r:=live.map (·.2)) List.nodup_range fun x hx=>by
   obtain ⟨j,hj,e⟩:=O.all x (by rw [hlen]; exact List.mem_range.mp hx);exact List.mem_map.mpr ⟨(j,x),(hlive _).mpr e,rfl⟩
  rw [List.length_map,List.length_range] at a1 a2;omega
 have efm:((live.map (·.2)).toArray.filterMap (es[·]?)).toList=(live.map (·.2)).filterMap (es[·]?):=by rw [Array.toList_filterMap]
 have esz:((live.map (·.2)).toArray.filterMap (es[·]?)).size=es.size:=by rw [← Array.length_toList,efm,zl,hcount]
 refine ⟨{ mask:=m,place:=(live.map (·.1)).toArray,dummies:=#[],finger,led,moves,plain },(live.map (·.2)).toArray,?_,⟨hm,rfl,?_,?_,?_,?_,?_⟩,esz,fun e=>?_,rfl⟩
 ·unfold laid;rw [eo];rfl
 ·rw [esz];show (live.map (·.1)).toArray.size=es.size;rw [List.size_toArray,List.length_map,hcount]
 ·rw [Jgo];show (live.map (·.1)).toArray.toList.Pairwise _;rw [List.toList_toArray,efst];exact List.pairwise_lt_range.sublist List.filter_sublist
 ·intro j hj;have hj':j∈(live.map (·.1)).toArray.toList:=hj;rw [List.toList_toArray] at hj';obtain ⟨x,hx,e⟩:=List.mem_map.mp hj';rw [← e];exact (O.lt ((hlive x).mp hx)).1
 ·rw [esz]; exact h
 ·intro z hz;rw [efm] at hz;have hz':z∈(live.map (·.1)).zip ((live.map (·.2)).filterMap (es[·]?)):=by simpa using hz
  obtain ⟨x,hx,e1,e2⟩:=zm z hz';obtain ⟨hh,e3,r⟩:=O.has _ _ ((hlive x).mp hx);have e4:hh=z.2.1:=by
   rw [Array.getElem?_toList,Array.getElem?_map,e2] at e3;exact (Option.some.inj e3).symm
  rw [e1,← e4];obtain ⟨k,ek,ak⟩:=r;refine ⟨k,ek,fun k' hk=>hocc _ (ak k' hk) ?_⟩;have:=JfP (m:=m) (k:=k') (Je6 m hh);show (J4 m k' (Yj m hh)).j≤m;omega
 ·rw [efm,List.mem_filterMap];constructor
  ·rintro ⟨a,_,q⟩;exact List.mem_of_getElem? (by rw [Array.getElem?_toList]; exact q)
  ·intro he;obtain ⟨a,ha,q⟩:=List.mem_iff_getElem.mp he;have ha':a < es.size:=by simpa using ha
   obtain ⟨j,hj,e⟩:=O.all a (by rw [hlen]; exact ha');refine ⟨a,List.mem_map.mpr ⟨(j,a),(hlive _).mpr e,rfl⟩,?_⟩;rw [Array.getElem?_eq_getElem ha'];simpa using q
end HS
namespace HS
open PySem PySem.SetTable L2
section
variable {prog:Program} {w:World} {A:Around} {E:Value→Shared→Prop} {s:Shared}
abbrev TK (prog:Program) (w:World):=IsTupleKey (J6 prog w)
abbrev hsh (prog:Program) (w:World) (ks:List JO):Int:=tupleKeyHash (J6 prog w) ks
theorem JiO (n:Nat) {v:Value} (h:carriedByValue v=true):ofAClassStatement n v=pure false:=by
 cases v with
 | ref a=>simp [carriedByValue] at h
 | _=>first | rfl | simp [ofAClassStatement] | (unfold ofAClassStatement; rfl)
theorem JeY {ks:List JO} {a:Addr} {Q:Bool→Shared→Prop} (hk:TK prog w s.heap ks a) (h:Q false s):wpAny (model prog w) A (ofAClassStatement 8 (.ref a)) Q E s:=by
 obtain ⟨o,items,n,ho,hc,hd,hi⟩:=hk;unfold ofAClassStatement;refine wpAny_bind (PySem.W.Looks.here (show PySem.W.Looks _ s.heap (typeOf (.ref a)) (.type "tuple") from hc ▸ (PySem.W.Looks.ld ho).andThen .now) ?_);dsimp only;rw [if_pos (by decide)];refine wpAny_bind (wpAny_pure ?_);rw [if_neg (by decide)];refine wpAny_bind (wpAny_seqItems ho hd ?_);dsimp only;refine wpAny_bind ?_;rw [← Array.forIn_toList];refine wpAny_forIn_list _ (fun rest r s'=>r=(none,())∧s'=s∧∀ v∈rest,carriedByValue v=true) _ ?_ ?_ _ _ ⟨rfl,rfl,hi.byValue⟩
 ·rintro v rest r s' ⟨hr,rfl,hall⟩;rw [JiO _ (hall v List.mem_cons_self)];refine wpAny_bind (wpAny_pure ?_);rw [if_neg (by decide)];exact wpAny_pure ⟨rfl,rfl,fun u hu'=>hall u (List.mem_cons_of_mem _ hu')⟩
 ·rintro r s' ⟨hr,rfl,_⟩;subst hr;exact wpAny_pure h
theorem Jm8 {ks:List JO} {x:Addr} {stored:List Value} {Q:Bool→Shared→Prop} (hk:TK prog w s.heap ks x) (hall:∀ v∈stored,∃ a k',v=.ref a∧TK prog w s.heap k' a) (h:Q false s) :
  wpAny (model prog w) A (searchCouldBeSeen (.ref x) stored) Q E s:=by
 unfold searchCouldBeSeen;refine wpAny_bind ?_;refine wpAny_forIn_list _ (fun rest r s'=>r=(none,())∧s'=s∧∀ v∈rest,∃ a k',v=.ref a∧TK prog w s.heap k' a) _ ?_ ?_ _ _ ⟨rfl,rfl,hall⟩
 ·rintro v rest r s' ⟨hr,rfl,hall⟩;obtain ⟨a,k',rfl,hk'⟩:=hall v List.mem_cons_self;have rest_ok:∀ v∈rest,∃ a k',v=Value.ref a∧TK prog w s'.heap k' a:=fun u hu'=>hall u (List.mem_cons_of_mem _ hu')
  dsimp only;split
  ·exact wpAny_pure ⟨rfl,rfl,rest_ok⟩
  ·refine wpAny_bind (wpAny_eqIsQuiet_tuple hk ?_);rw [if_neg (by decide)];refine wpAny_bind (wpAny_eqIsQuiet_tuple hk' ?_);rw [if_neg (by decide)];refine wpAny_bind (JeY hk ?_);rw [if_neg (by decide)];refine wpAny_bind (JeY hk' ?_);rw [if_neg (by decide)];exact wpAny_pure ⟨rfl,rfl,rest_ok⟩
 ·rintro r s' ⟨hr,rfl,_⟩;subst hr;exact wpAny_pure h
structure Jdg (prog:Program) (w:World) (h:Heap) (S:Addr) (es:Array (Int×Value)) (t:SetTable) (D:List (List JO)):Prop where
 tab:Tab t es
 full:es.size * 5 < t.mask * 3
 els:∀ e∈es.toList,∃ ks∈D,∃ a,e=(hsh prog w ks,.ref a)∧TK prog w h ks a
 all:∀ ks∈D,∃ a,(hsh prog w ks,.ref a)∈es.toList∧TK prog w h ks a
 siz:es.size=D.length
theorem JjB {S x:Addr} {ks:List JO} {o:Obj} {es:Array (Int×Value)} {ep:Nat} {t:SetTable} {D:List (List JO)} {Q:SetFound→Shared→Prop} (hu:A.units < cLine) (ho:s.heap.get? S=some o) (hd:o.data=.set es ep t)
  (SA:Jdg prog w s.heap S es t D) (hk:TK prog w s.heap ks x) :
  ∀ (k fuel:Nat) (sd:Option Probe),k < fuel→k < 10 * turns t.mask→Jbl t.mask (Yu t.place) (sd.getD (t.probeStart (hsh prog w ks))) k→(sd.getD (t.probeStart (hsh prog w ks))).dummy=none →
   ((∃ n i a,n < k∧t.slot (J4 t.mask n (sd.getD (t.probeStart (hsh prog w ks)))).j=.live i∧es.toList[i]?=some (hsh prog w ks,.ref a)∧TK prog w s.heap ks a)→Q (.there none) s) →
   ((∀ n i a,n < k→t.slot (J4 t.mask n (sd.getD (t.probeStart (hsh prog w ks)))).j=.live i→es.toList[i]?=some (hsh prog w ks,.ref a)→TK prog w s.heap ks a→False)→Q (.free (J4 t.mask k (sd.getD (t.probeStart (hsh prog w ks)))).j false) s) →
   wpAny (model prog w) A (setSearchFrom S (.ref x) (hsh prog w ks) true fuel sd) Q E s:=by
 intro k
 induction k using Nat.strongRecOn with
 | _ k ih =>
  intro fuel sd hf hb hF hdm h1 h2;obtain ⟨fuel,rfl⟩:∃ f,fuel=f + 1:=⟨fuel - 1,by omega⟩
  unfold setSearchFrom;refine wpAny_bind (wpAny_setState_of ho hd SA.tab.fits ?_);dsimp only;have hg:¬ t.gaveWay=true:=by
   unfold SetTable.gaveWay;rcases SA.tab.msk with e | e | e <;> rw [e] <;> decide
  rw [if_neg hg];have spec:=Jja (t:=t) (hashAt:=fun i=>(es[i]?.map (·.1)).getD 0) (h:=hsh prog w ks) (fun j=>Jmb SA.tab.ris) (fun j=>JfA SA.tab.ris SA.tab.dum) k (10 * turns t.mask) (sd.getD (t.probeStart (hsh prog w ks))) hb hF hdm;split
  ·rename_i met hmet;rcases spec with ⟨n,i,a1,a2,a3,a4,a5⟩ | ⟨a1,a2⟩
   ·have e:=Option.some.inj (hmet.symm.trans a5);subst e;dsimp only;obtain ⟨hi,hpl⟩:=Jnp SA.tab.ris SA.tab.dum a2;have hie:i < es.size:=by rw [← SA.tab.siz]; exact hi
    obtain ⟨k',hk'D,b,eb,hkb⟩:=SA.els es[i] (by simp);have hei:es[i]?=some (hsh prog w k',.ref b):=by rw [Array.getElem?_eq_getElem hie,eb]
    have heL:es.toList[i]?=some (hsh prog w k',.ref b):=by rw [Array.getElem?_toList]; exact hei
    have hhash:hsh prog w k'=hsh prog w ks:=by
     rw [hei] at a3;exact a3
    have eI:∀ j,J4 t.mask j (J4 t.mask (n + 1) (sd.getD (t.probeStart (hsh prog w ks))))=J4 t.mask (n + 1 + j) (sd.getD (t.probeStart (hsh prog w ks))):=fun j=>(JcA t.mask (n + 1) j _).symm
    have again:k'≠ks→wpAny (model prog w) A (setSearchFrom S (.ref x) (hsh prog w ks) true fuel (some (J4 t.mask (n + 1) (sd.getD (t.probeStart (hsh prog w ks)))))) Q E s:=fun he=>by
     have ek:n + 1 + (k - (n + 1))=k:=by omega
     refine ih (k - (n + 1)) (by omega) fuel (some (J4 t.mask (n + 1) (sd.getD (t.probeStart (hsh prog w ks))))) (by omega) (by omega) ⟨?_,fun j hj=>?_⟩ ?_ (fun q=>?_) (fun q=>?_)
     ·show Yu t.place (J4 t.mask _ (J4 t.mask (n + 1) _)).j=false;rw [eI,ek]; exact hF.1
     ·show Yu t.place (J4 t.mask _ (J4 t.mask (n + 1) _)).j=true;rw [eI]; exact hF.2 _ (by omega)
     ·show (J4 t.mask (n + 1) _).dummy=none;rw [Jel]; exact hdm
     ·obtain ⟨n2,i2,c,c1,c2,c3,c4⟩:=q;have c2':t.slot (J4 t.mask n2 (J4 t.mask (n + 1) (sd.getD (t.probeStart (hsh prog w ks))))).j=.live i2:=c2;rw [eI] at c2';exact h1 ⟨_,i2,c,by omega,c2',c3,c4⟩
     ·show Q (.free (J4 t.mask _ (J4 t.mask (n + 1) (sd.getD (t.probeStart (hsh prog w ks))))).j false) s;rw [eI,ek];refine h2 fun n2 i2 c c1 c2 c3 c4=>?_
      rcases Nat.lt_trichotomy n2 n with g | g | g
      ·exact a4 n2 i2 g c2 (by rw [← Array.getElem?_toList,c3]; rfl)
      ·subst g;rw [a2] at c2;cases c2;rw [heL] at c3;have e5:=congrArg (fun z=>z.2) (Option.some.inj c3);have e6:b=c:=Value.ref.inj e5;subst e6;exact he (hkb.inj c4)
      ·refine q (n2 - (n + 1)) i2 c (by omega) ?_ c3 c4;show t.slot (J4 t.mask _ (J4 t.mask (n + 1) _)).j=_;rw [eI,show n + 1 + (n2 - (n + 1))=n2 by omega];exact c2
    cases hl:t.led
    ·rw [if_pos (by rfl)];refine wpAny_bind (Jm8 hk (fun v hv=>?_) ?_)
     ·obtain ⟨e,he,rfl⟩:=List.mem_map.mp hv;have he2:e∈es.toList:=by
       have:=Array.mem_toList_iff.mp he;exact Array.mem_toList_iff.mpr (Array.mem_filter.mp this).1
      obtain ⟨k2,_,b2,rfl,hb2⟩:=SA.els e he2;exact ⟨b2,k2,rfl,hb2⟩
     ·rw [if_neg (by decide)];rw [hei];dsimp only;refine wpAny_bind (wpAny_holding (wpAny_eqBool_tuple hu hkb hk ?_));refine wpAny_bind (wpAny_setState_of ho hd SA.tab.fits ?_);dsimp only;by_cases he:k'=ks
      ·subst he;rw [decide_eq_true rfl,if_pos (by decide)];exact wpAny_pure (h1 ⟨n,i,b,a1,a2,heL,hkb⟩)
      ·rw [decide_eq_false he,if_neg (by decide)];have hsm:t.sameMemory t.moves t.mask=some true:=by unfold SetTable.sameMemory; rw [if_pos (by simp)]
       rw [hsm];dsimp only;rw [if_pos rfl,a2];dsimp only;rw [hei];dsimp only;refine wpAny_bind (wpAny_isSame_ref_self ?_);rw [if_pos rfl];refine wpAny_bind (wpAny_pure ?_);dsimp only;rw [if_neg (by decide)];exact again he
    ·rw [if_neg (by decide)];rw [hei];dsimp only;refine wpAny_bind (wpAny_holding (wpAny_eqBool_tuple hu hkb hk ?_));refine wpAny_bind (wpAny_setState_of ho hd SA.tab.fits ?_);dsimp only;by_cases he:k'=ks
     ·subst he;rw [decide_eq_true rfl,if_pos (by decide)];exact wpAny_pure (h1 ⟨n,i,b,a1,a2,heL,hkb⟩)
     ·rw [decide_eq_false he,if_neg (by decide)];have hsm:t.sameMemory t.moves t.mask=some true:=by unfold SetTable.sameMemory; rw [if_pos (by simp)]
      rw [hsm];dsimp only;rw [if_pos rfl,a2];dsimp only;rw [hei];dsimp only;refine wpAny_bind (wpAny_isSame_ref_self ?_);rw [if_pos rfl];refine wpAny_bind (wpAny_pure ?_);dsimp only;rw [if_neg (by decide)];exact again he
   ·have e:=Option.some.inj (hmet.symm.trans a2);subst e;exact wpAny_pure (h2 fun n i a hn hs he hka=>a1 n i hn hs (by
     show (es[i]?.map (·.1)).getD 0=_;rw [← Array.getElem?_toList,he]; rfl))
  ·rename_i hmet;exfalso;rcases spec with ⟨n,i,a1,a2,a3,a4,a5⟩ | ⟨a1,a2⟩
   ·exact hmet _ a5
   ·exact hmet _ a2
open Classical in
noncomputable def dd (D:List (List JO)) (ks:List JO):List (List JO):=if ks∈D then D else D ++ [ks]
theorem TK.stay {h h':Heap} {S a:Addr} {o:Obj} {ks:List JO} {es:Array (Int×Value)} {ep:Nat} {t:SetTable} (hk:TK prog w h ks a) (ho:h.get? S=some o) (hd:o.data=.set es ep t) (hs:Heap.SameBut S h h'):TK prog w h' ks a:=by
 obtain ⟨o',items,n,ho',hc,hd',hi⟩:=hk;have hne:a≠S:=by
  rintro rfl;obtain rfl:o'=o:=Option.some.inj (ho'.symm.trans ho);rw [hd] at hd';exact nomatch hd'
 exact ⟨o',items,n,(hs.2 a hne).trans ho',hc,hd',hi⟩
theorem Jnt {M:Model} {ks:List JO} {a:Addr} {Q:Bool→Shared→Prop} (hk:TK prog w s.heap ks a) (h:∀ b,Q b s):wpAny (model prog w) A (hashByValue 8 (.ref a)) Q E s:=by
 have hT:=hk.typeIs;obtain ⟨o,items,n,ho,hc,hd,hi⟩:=hk;unfold hashByValue;refine wpAny_bind (wpAny_specialOf hT F.slot_tuple_hash.lookup ?_);dsimp only;refine wpAny_bind (wpAny_seqItems ho hd ?_);refine wpAny_bind ?_;show wpAny _ _ (forIn items _ _) _ _ s;rw [← Array.forIn_toList];refine wpAny_forIn_list _ (fun rest r s'=>r=(none,())∧s'=s∧∀ v∈rest,carriedByValue v=true) _ ?_ ?_ _ _ ⟨rfl,rfl,hi.byValue⟩
 ·rintro v rest r s' ⟨hr,rfl,hall⟩;have hb:∃ b,hashByValue 7 v=pure b:=by
   have hv:=hall v List.mem_cons_self;cases v <;> first | exact ⟨_,rfl⟩ | (simp [carriedByValue] at hv; done)
  obtain ⟨b,eb⟩:=hb;rw [eb];refine wpAny_bind (wpAny_pure ?_);cases b with
  | true =>
   rw [if_neg (by decide)];exact wpAny_pure ⟨rfl,rfl,fun u hu'=>hall u (List.mem_cons_of_mem _ hu')⟩
  | false =>
   rw [if_pos (by decide)];exact wpAny_pure (wpAny_pure (h _))
 ·rintro r s' ⟨hr,rfl,_⟩;subst hr;exact wpAny_pure (h _)
theorem Jlr {S x:Addr} {ks:List JO} {o:Obj} {es es1:Array (Int×Value)} {ep:Nat} {t t1:SetTable} {D:List (List JO)} {Q:Bool→Shared→Prop} (ho:s.heap.get? S=some o) (hex:o.ExactSet) (hd:o.data=.set es ep t)
  (SA:Jdg prog w s.heap S es t D) (hk:TK prog w s.heap ks x) (hn:D.length < 64) (T1:Tab t1 es1) (hsz:es1.size=es.size + 1) (hmk:t1.mask=t.mask) (hmem:∀ e,e∈es1.toList↔e∈es.toList∨e=(hsh prog w ks,.ref x))
  (h:∀ b h' es' ep' t' o',Heap.SameBut S s.heap h'→h'.get? S=some o'→o'.ExactSet→o'.data=.set es' ep' t'→Jdg prog w h' S es' t' (D ++ [ks])→Q b { s with heap:=h' }) :
  wpAny (model prog w) A (do
   storeSet S es1 t1
   if (!false && t1.tooFull)=true then do
    setRelay S (grown (es.size + 1))
    pure true
   else pure true) Q E s:=by
 have hes:=SA.siz;have bound:∀ n,n≤1000→n≤sizeLine:=fun n hn=>by rw [sizeLine_eq]; omega
 have mk:∀ {h':Heap} {es':Array (Int×Value)} {t':SetTable},Heap.SameBut S s.heap h'→Tab t' es'→es'.size * 5 < t'.mask * 3→es'.size=es1.size→(∀ e,e∈es'.toList↔e∈es1.toList)→Jdg prog w h' S es' t' (D ++ [ks]):=fun {h' es' t'} hs T f z m=>by
  refine ⟨T,f,fun e he=>?_,fun k2 hk2=>?_,by rw [z,hsz,hes,List.length_append]; rfl⟩
  ·rcases (hmem e).mp ((m e).mp he) with q | q
   ·obtain ⟨k2,a1,a,a2,a3⟩:=SA.els e q;exact ⟨k2,List.mem_append_left _ a1,a,a2,a3.stay ho hd hs⟩
   ·exact ⟨ks,List.mem_append_right _ (List.mem_singleton.mpr rfl),x,q,hk.stay ho hd hs⟩
  ·rcases List.mem_append.mp hk2 with q | q
   ·obtain ⟨a,a1,a2⟩:=SA.all k2 q;exact ⟨a,(m _).mpr ((hmem _).mpr (.inl a1)),a2.stay ho hd hs⟩
   ·rw [List.mem_singleton.mp q];exact ⟨x,(m _).mpr ((hmem _).mpr (.inr rfl)),hk.stay ho hd hs⟩
 refine wpAny_bind (wpAny_storeSet_of ho hd ?_ (bound _ (by omega)));have hg:∀ {hh:Heap} {o:Obj} {es es':Array (Int×Value)} {ep:Nat} {t t':SetTable},hh.get? S=some o→o.data=.set es ep t→(hh.update S (Obj.putSet es' t')).get? S=some { o with data:=.set es' (ep + 1) t' }:=fun {hh o es es' ep t t'} ho hd=>by
  have z:=Heap.get?_update_self (Obj.putSet es' t') ho (by rw [putSet_of es' t' hd]; rfl);rw [putSet_of es' t' hd] at z;exact z
 have ho1:=hg (es':=es1) (t':=t1) ho hd;have hs1:=Heap.SameBut.update s.heap S (Obj.putSet es1 t1);have hfill:t1.fill=es1.size:=by unfold SetTable.fill; rw [T1.dum,T1.siz]; rfl
 by_cases hf:t1.tooFull=true
 ·rw [if_pos (by rw [hf]; rfl)];have hfull:=SA.full;unfold SetTable.tooFull at hf;rw [hfill,decide_eq_true_eq,hmk] at hf;obtain ⟨m',hm',hw,hcap⟩:∃ m',Msk m'∧sizeAbove (grown (es.size + 1))=m' + 1∧es1.size * 5 < m' * 3:=by
   rcases SA.tab.msk with e | e | e
   ·refine ⟨31,.inr (.inl rfl),?_,by omega⟩;have e4:es.size=4:=by omega
    rw [e4]; decide
   ·refine ⟨127,.inr (.inr rfl),?_,by omega⟩;have e4:es.size=18:=by omega
    rw [e4]; decide
   ·omega
  have hm127:m'≤127:=by rcases hm' with e | e | e <;> omega
  obtain ⟨t2,order,e2,T2,z2,m2,_⟩:=JoO hm' t1.finger (t1.movedTo m') t1.led t1.plain es1 (by omega);have erel:t1.relaid (es1.map (·.1)) (grown (es.size + 1))=some (t2,order):=by
   unfold SetTable.relaid;rw [hw];exact e2
  unfold setRelay;refine wpAny_bind (wpAny_bind (wpAny_setState_of (s:={ s with heap:=s.heap.update S (Obj.putSet es1 t1) }) ho1 rfl T1.fits ?_));dsimp only;rw [if_neg (by rw [hw]; exact Nat.not_lt.mpr (bound _ (by omega)))];refine wpAny_bind ?_;rw [erel];show wpAny _ _ (if ((order.filterMap (es1[·]?)).size != es1.size)=true then _ else _) _ _ _;rw [if_neg (by rw [z2]; simp)];refine wpAny_pure ?_;dsimp only;refine wpAny_storeSet_of (s:={ s with heap:=s.heap.update S (Obj.putSet es1 t1) }) ho1 rfl ?_ (bound _ (by omega));have hs2:=hs1.trans (Heap.SameBut.update (s.heap.update S (Obj.putSet es1 t1)) S (Obj.putSet (order.filterMap (es1[·]?)) t2));exact wpAny_pure (h _ _ _ _ _ _ hs2 (hg ho1 rfl) hex rfl (mk hs2 T2 (by rw [z2]; have:=T2.cap; omega) z2 m2))
 ·rw [if_neg (by simpa using hf)];refine wpAny_pure (h _ _ es1 _ t1 _ hs1 ho1 hex rfl (mk hs1 T1 ?_ rfl fun _=>Iff.rfl));unfold SetTable.tooFull at hf;rw [hfill,decide_eq_true_eq] at hf;omega
theorem JnA {S x:Addr} {ks:List JO} {o:Obj} {es:Array (Int×Value)} {ep:Nat} {t:SetTable} {D:List (List JO)} {Q:Bool→Shared→Prop} (hu:A.units < cLine) (ho:s.heap.get? S=some o) (hex:o.ExactSet) (hd:o.data=.set es ep t)
  (SA:Jdg prog w s.heap S es t D) (hk:TK prog w s.heap ks x) (hn:D.length < 64)
  (h:∀ b h' tk es' ep' t' o',Heap.SameBut S s.heap h'→h'.get? S=some o'→o'.ExactSet→o'.data=.set es' ep' t'→Jdg prog w h' S es' t' (dd D ks)→Q b { s with heap:=h',toks:=tk }) :
  wpAny (model prog w) A (setAdd S (.ref x)) Q E s:=by
 unfold setAdd;refine wpAny_holding (wpAny_bind (wpAny_pyHash_tuple hu hk ?_));unfold setAddHashed setAddHashedIn;refine wpAny_holding (wpAny_bind (wpAny_setState_of ho hd SA.tab.fits ?_));dsimp only;have hbs:byScan (.ref x) es=false:=rfl;rw [hbs,if_neg (by decide)];obtain ⟨k,hk1,hF⟩:=SA.tab.first (hsh prog w ks);have hm:t.mask≤127:=by rcases SA.tab.msk with e | e | e <;> omega
 have SA2:Jdg prog w ({ s with toks:=s.toks + (ks.length + 1) }:Shared).heap S es t D:=SA;refine wpAny_bind (JjB (s:={ s with toks:=s.toks + (ks.length + 1) }) hu ho hd SA2 hk k 100000 none (by unfold turns at hk1; omega) hk1 hF rfl ?_ ?_)
 ·rintro ⟨n,i,a,g1,g2,g3,g4⟩;dsimp only;have hin:ks∈D:=by
   obtain ⟨k2,hk2,b,e,hb⟩:=SA.els _ (List.mem_of_getElem? g3);have e6:a=b:=Value.ref.inj (congrArg (fun z=>z.2) e);subst e6;rw [IsTupleKey.inj g4 hb];exact hk2
  have e:dd D ks=D:=by unfold dd; exact if_pos hin
  exact wpAny_pure (h _ s.heap _ es ep t o (Heap.SameBut.refl S s.heap) ho hex hd (by rw [e]; exact SA))
 ·intro hno;dsimp only;have hnin:ks∉D:=fun hin=>by
   obtain ⟨a,ha,hka⟩:=SA.all ks hin;obtain ⟨i,hi⟩:=List.mem_iff_getElem?.mp ha;obtain ⟨n,hn1,hn2⟩:=SA.tab.met hF hi rfl;exact hno n i a hn1 hn2 hi hka
  have edd:dd D ks=D ++ [ks]:=by unfold dd; exact if_neg hnin
  refine wpAny_bind (wpAny_setState_of ho hd SA.tab.fits ?_);dsimp only;have hc:es.size + 1≤t.mask:=by
   have:=SA.full;rcases SA.tab.msk with e | e | e <;> omega
  have hmem:∀ (p:Nat) e,e∈(insertAt es p (hsh prog w ks,Value.ref x)).toList↔e∈es.toList∨e=(hsh prog w ks,.ref x):=fun p e=>by
   rw [(SetTable.insertAt_perm es p _).mem_iff,Array.toList_push,List.mem_append,List.mem_singleton]
  have hsz:∀ p:Nat,(insertAt es p (hsh prog w ks,Value.ref x)).size=es.size + 1:=fun p=>by
   rw [← Array.length_toList,(SetTable.insertAt_perm es p _).length_eq,Array.length_toList,Array.size_push]
  have fin:=fun (b:Bool)=>Jlr (prog:=prog) (w:=w) (A:=A) (E:=E) (s:={ s with toks:=s.toks + (ks.length + 1) }) (Q:=Q) ho hex hd SA2 hk hn (SA.tab.put (x:=.ref x) b hF hc) (hsz _) rfl (hmem _) fun b h' es' ep' t' o' a1 a2 a3 a4 a5=>h b h' _ es' ep' t' o' a1 a2 a3 a4 (by rw [edd]; exact a5)
  have ep2:=Jn0 SA.tab (J4 t.mask k (Yj t.mask (hsh prog w ks))).j;have ep3:t.put (J4 t.mask k ((none:Option Probe).getD (t.probeStart (hsh prog w ks)))).j=_:=ep2;rw [ep3];dsimp only;by_cases hp:t.plain=true
  ·rw [if_pos hp];refine wpAny_bind (Jnt (M:=model prog w) hk fun b=>?_);cases b with
   | true=>exact fin t.plain
   | false=>exact fin false
  ·rw [if_neg hp];refine wpAny_bind (wpAny_pure ?_);exact fin t.plain
end
end HS
set_option maxHeartbeats 3200000
namespace HS
open PySem PySem.SetTable L2
section
variable {prog:Program} {w:World} {A:Around} {E:Value→Shared→Prop} {s:Shared} {R:Result→Shared→Prop}
theorem JlI {S I l:Addr} {items:Array Value} (hh:A.in1.handled=none) (hlI:l≠I) (hSI:S≠I) (hSl:S≠l) (J:Nat→Heap→Prop)
  (hJ:∀ i j h h',J i h→h.IsListIter I l j→(∀ b o,b≠I→h.get? b=some o→h'.get? b=some o)→J i h')
  (hadd:∀ i v (s':Shared) (E':Value→Shared→Prop) (Q:Bool→Shared→Prop),items[i]?=some v→J i s'.heap→(∀ b h' tk,Heap.SameBut S s'.heap h'→J (i + 1) h'→Q b { s' with heap:=h',toks:=tk })→wpAny (model prog w) A.in1 (setAdd S v) Q E' s') :
  ∀ (k i:Nat) (h:Heap) (tk:Nat),items.size - i=k→i≤items.size→h.IsListIter I l i→h.IsList l items→J i h →
   (∀ h' tk',(∀ b o,b≠S→b≠I→h.get? b=some o→h'.get? b=some o)→J items.size h'→R (.ok (.ret .none)) { s with heap:=h',toks:=tk' }) →
   codeAny (model prog w) A (.builtin "set.update.loop" ⟨[.ref S,.ref I],[]⟩) R { s with heap:=h,toks:=tk }:=by
 have W:=Walks.list (prog:=prog) (w:=w) hh I l hlI items;intro k
 induction k with
 | zero =>
  intro i h tk e0 e1 it li j hR;obtain rfl:i=items.size:=by omega
  refine codeAny_builtin PyProof.Rows.F.entry_set_update_loop (by
   rw [Around.under_plainId PyProof.Rows.F.plain_set_update_loop _];show wpAny _ A.in1 (pyNext (.ref I) >>= _) _ _ _;refine wpAny_bind (W.done _ _ _ ⟨it,li⟩ fun h' tk' kk=>?_);exact wpAny_pure (hR h' tk' (fun b o _ hb e=>kk b o (by simpa using hb) e) (hJ _ _ _ _ j it fun b o hb e=>kk b o (by simpa using hb) e)))
 | succ k ih =>
  intro i h tk e0 e1 it li j hR;have hlt:i < items.size:=by omega
  refine codeAny_builtin PyProof.Rows.F.entry_set_update_loop (by
   rw [Around.under_plainId PyProof.Rows.F.plain_set_update_loop _];show wpAny _ A.in1 (pyNext (.ref I) >>= _) _ _ _;refine wpAny_bind (W.item i _ _ _ hlt ⟨it,li⟩ fun v h1 tk1 hv st1 kk=>?_);have j1:J i h1:=hJ _ _ _ _ j it fun b o hb e=>kk b o (by simpa using hb) e
   show wpAny _ A.in1 (holding [v] (setAdd S v) >>= _) _ _ _;refine wpAny_bind (wpAny_holding (hadd i v { s with heap:=h1,toks:=tk1 } _ _ hv j1 fun b h2 tk2 sb j2=>?_));have it2:h2.IsListIter I l (i + 1):=st1.1.at fun o e=>(sb.2 I (Ne.symm hSI)).trans e
   have li2:h2.IsList l items:=st1.2.at fun o e=>(sb.2 l (Ne.symm hSl)).trans e
   refine wpAny_pure ⟨plainId_quiet PyProof.Rows.F.plain_set_update_loop _,ih (i + 1) h2 tk2 (by omega) hlt it2 li2 j2 fun h3 tk3 keep j3=>hR h3 tk3 (fun b o hb hbI e=>keep b o hb hbI ((sb.2 b hb).trans (kk b o (by simpa using hbI) e))) j3⟩)
theorem Je4 {l:Addr} {items:Array Value} {Q:Value→Shared→Prop} (hh:A.handled=none) (hl:s.heap.IsList l items) (J:Addr→Nat→Heap→Prop)
  (h0:∀ (led:Bool) (h':Heap),h'.get? s.heap.objs.size=some { cls:=.type "set",dict:=none,data:=.set #[] 0 (.fresh 0 0 led) }→(∀ b o,s.heap.get? b=some o→h'.get? b=some o)→J s.heap.objs.size 0 h')
  (hJ:∀ S I i j h h',J S i h→h.IsListIter I l j→(∀ b o,b≠I→h.get? b=some o→h'.get? b=some o)→J S i h')
  (hadd:∀ S i v (A':Around) (s':Shared) (E':Value→Shared→Prop) (Q':Bool→Shared→Prop),A'.units≤A.units + 4→items[i]?=some v→J S i s'.heap→(∀ b h' tk,Heap.SameBut S s'.heap h'→J S (i + 1) h'→Q' b { s' with heap:=h',toks:=tk })→wpAny (model prog w) A' (setAdd S v) Q' E' s')
  (h:∀ (h':Heap) (tk:Nat),J s.heap.objs.size items.size h'→(∀ b o,b < s.heap.objs.size→s.heap.get? b=some o→h'.get? b=some o)→Q (.ref s.heap.objs.size) { s with heap:=h',toks:=tk }) :
  wpAny (model prog w) A (call (.type "set") [.ref l]) Q E s:=by
 obtain ⟨c,tl,hmro⟩:=F.called_set.mro;have made:=F.called_set.made;have sub:=F.called_set.sub;refine wpAny_call (codeAny_of_tree (wpAny_pure ⟨Code.quiet_builtin _ (by decide +kernel),codeAny_builtin F.entry_type_call ?_⟩));rw [Around.under_plain (weight_type_call_type "set" [.ref l] []) rfl];have n1:=F.called_set.notType;have n2:=F.called_set.canCreate;have n3:=F.typeCall_set_1 (.ref l)
 repeat (any_goals (first | assumption | wp_step))
 let fresh (led:Bool):Obj:={ cls:=.type "set",dict:=none,data:=.set #[] 0 (.fresh 0 0 led) }
 refine codeAny_mono (code_set_new_1 (.ref l) (E:=E) (Q₁:=fun obj s1=>∃ led,obj=.ref s.heap.objs.size∧s1={ s with heap:=s.heap.push (fresh led) }) fun led=>⟨led,rfl,rfl⟩) fun r s1 hr=>?_
 rcases r with e | f
 ·exact hr
 cases f with
 | ret obj =>
  obtain ⟨led,rfl,rfl⟩:=hr;have gS:(s.heap.push (fresh led)).get? s.heap.objs.size=some (fresh led):=Heap.get?_push_size _ rfl;have tS:Shared.TypeIs { s with heap:=s.heap.push (fresh led) } (.ref s.heap.objs.size) "set":=⟨_,gS,rfl⟩
  have i1:=F.called_set.init.lookup;have i2:=F.called_set.init.bind (.ref s.heap.objs.size)
  repeat (any_goals (first | assumption | wp_step))
  refine codeAny_mono (codeAny_call_builtin (R:=wants (fun r s2=>r=.none∧∃ h' tk,s2={ s with heap:=h',toks:=tk }∧J s.heap.objs.size items.size h'∧∀ b o,b < s.heap.objs.size→s.heap.get? b=some o→h'.get? b=some o) E)
   F.called_set.init.plain F.entry_set_init (check_set_init_1 tS ?_)) fun r2 s2 hr2=>?_
  ·obtain ⟨ol,gl,cl,nl,dl⟩:=hl;obtain ⟨k1,k2,k3,k4⟩:=ol;simp only at cl dl;subst cl dl;have gl1:(s.heap.push (fresh led)).get? l=some { cls:=.type "list",dict:=k2,data:=.seq items nl,slots:=k4 }:=Heap.get?_push_of_some _ gl;have z1:=F.sub_list_set;have z2:=F.sub_list_frozenset;have z3:(Value.type "list" == Value.type "dict")=false:=by decide
   have ll:(s.heap.push (fresh led)).IsList l items:=⟨_,gl1,rfl,nl,rfl⟩
   have lS:l < s.heap.objs.size:=Heap.lt_size gl;unfold Builtin.«set.__init__» noKeywords Builtin.Frozenset.updateFrom;generalize pe:pyIter=PI
   wp_walk
   subst pe;refine wpAny_pyIter_list ll (wpAny_bind (wpAny_runValue ?_));have szp:(s.heap.push (fresh led)).objs.size=s.heap.objs.size + 1:=Heap.size_push ..;refine JlI (s:={ s with heap:=s.heap.push (fresh led) }) (I:=(s.heap.push (fresh led)).objs.size) (l:=l) (items:=items) (by simp [hh]) (Nat.ne_of_lt (by rw [szp]; exact Nat.lt_succ_of_lt lS)) (Nat.ne_of_lt (by rw [szp]; exact Nat.lt_succ_self _)) (Nat.ne_of_gt lS) (J s.heap.objs.size) (fun i j h h'=>hJ _ _ i j h h')
    (fun i v s' E' Q' hv j q=>hadd _ i v _ s' E' Q' (by show A.units + 1 + 1 + 1≤A.units + 4; omega) hv j q) (items.size - 0) 0 _ _ rfl (Nat.zero_le _) ⟨_,Heap.get?_push_size _ rfl,rfl,rfl⟩ (ll.push _) ?_ ?_
   ·exact h0 led _ (Heap.get?_push_of_some _ gS) fun b o e=>Heap.get?_push_of_some _ (Heap.get?_push_of_some _ e)
   ·intro h' tk' keep j;refine wpAny_pure (wpAny_pure ⟨rfl,h',tk',rfl,j,fun b o hb e=>keep b o (Nat.ne_of_lt hb) (Nat.ne_of_lt (by rw [szp]; exact Nat.lt_succ_of_lt hb)) (Heap.get?_push_of_some _ (Heap.get?_push_of_some _ e))⟩)
  ·rcases r2 with e | f2
   ·exact hr2
   cases f2 with
   | ret r =>
    obtain ⟨rfl,h',tk,rfl,j,keep⟩:=hr2
    repeat (any_goals (first | assumption | wp_step))
    exact h _ _ j keep
   | _=>exact hr2.elim
 | _=>exact hr.elim
end
end HS
namespace L2
open PySem PySem.Spec PyProof.Rows HS
open Classical in
noncomputable def dg {α:Type} (D:List α) (x:α):List α:=if x∈D then D else D ++ [x]
theorem Jj1 {α:Type} {D:List α} {x:α} (h:x∈D):dg D x=D:=by unfold dg; exact if_pos h
theorem JfW {α:Type} {D:List α} {x:α} (h:¬ x∈D):dg D x=D ++ [x]:=by unfold dg; exact if_neg h
noncomputable def Jer {α:Type} (l:List α):List α:=l.foldl dg []
theorem JeQ {α:Type}:∀ (l D:List α),(l.foldl dg D).length≤D.length + l.length
 | [],D=>Nat.le_refl _
 | x :: l,D=>by
  rw [List.foldl_cons];have z:=JeQ l (dg D x);by_cases h:x∈D
  ·rw [Jj1 h] at z ⊢; simp only [List.length_cons]; omega
  ·rw [JfW h] at z ⊢; rw [List.length_append] at z; simp only [List.length_cons,List.length_nil] at z ⊢; omega
theorem Jjd {α:Type} (l:List α):(Jer l).length≤l.length:=by have:=JeQ l []; simpa [Jer] using this
theorem JfR {α:Type}:∀ (l D:List α),(D ++ l).Nodup→l.foldl dg D=D ++ l
 | [],D,_=>by simp
 | x :: l,D,h=>by
  have hx:¬ x∈D:=fun q=>by
   rw [List.nodup_append] at h;exact h.2.2 x q x (List.mem_cons_self ..) rfl
  rw [List.foldl_cons,JfW hx,JfR l (D ++ [x]) (by simpa using h)];simp
theorem JfV {α:Type} {l:List α} (h:l.Nodup):(Jer l).length=l.length:=by unfold Jer; rw [JfR l [] (by simpa using h)]; simp
theorem Jen {α:Type} {l:List α} {i:Nat} {x:α} (h:l[i]?=some x):(l.take (i + 1)).foldl dg []=dg ((l.take i).foldl dg []) x:=by
 rw [List.take_succ,h];simp
def szO (a:Addr) (n:Nat):HO:=.ext fun h=>∃ o es ep t,h.get? a=some o∧o.ExactSet∧o.data=.set es ep t∧t.fits es.size=true∧es.size=n∧n≤1000
theorem Jkg {P:Program} {w:World} {H:Hp} {h:Heap} {a:Addr} {n:Nat} {o:Obj} {es:Array (Int×Value)} {ep:Nat} {t:SetTable} (h1:h.get? a=some o) (h2:o.ExactSet) (h3:o.data=.set es ep t) (h4:t.fits es.size=true) (h5:es.size=n) (h6:n≤1000) :
  J9 P w H h a (szO a n):=⟨⟨o,es,ep,t,h1,h2,h3,h4,h5,h6⟩,⟨o,h1⟩,fun g1 g2 ⟨o,es,ep,t,e1,r⟩ k=>⟨o,es,ep,t,k o e1,r⟩⟩
section
variable {X:Cx}
theorem JiT:Zd X (.builtin "len") (fun xs H Q=>∃ a n,xs=[.ref a]∧H a=some (szO a n)∧Q (.int n) H):=by
 intro pins s σ H xs us Q I r h;obtain ⟨a,n,rfl,hn,q⟩:=h;obtain ⟨u,rfl,ru⟩:=Jw.one r;cases ru;obtain ⟨⟨o,es,ep,t,e1,e2,e3,e4,rfl,e6⟩,_⟩:=(show J9 X.prog X.w H s.heap a (szO a n) from I.hok a _ hn)
 exact call_len_set e1 e2 e3 e4 (by omega) ⟨.int es.size,H,(I.tok _).tok _,⟨_,rfl⟩,q⟩
theorem Jcw:∀ {vs:List V} {us:List Value} {i:Nat} {x:V},Jw vs us→vs[i]?=some x→∃ u,us[i]?=some u∧JG x u
 | _,_,i,x,.nil,h=>by simp at h
 | _,_,0,x,.cons r t,h=>by
  cases h;exact ⟨_,rfl,r⟩
 | _,_,i + 1,x,.cons r t,h=>Jcw (i:=i) t (by simpa using h)
def JdE (K:PySem.W.Frag) (H:Hp) (vs:List V) (kss:List (List JO)):Prop:=vs.length=kss.length∧∀ (i:Nat) v ks,vs[i]?=some v→kss[i]?=some ks→∃ a,v=.ref a∧JT K H a (ks.map kV)
theorem Jio {P:Program} {w:World}:∀ {ks:List JO} {us:List Value},Jw (ks.map kV) us→ItemsAre (J6 P w) ks us
 | [],_,r=>by cases r; exact .nil
 | k :: ks,_,r=>by
  cases r with
  | cons r rr=>exact .cons (JfN r) (Jio rr)
theorem Jjr {pins:List (Addr×Obj)} {σ:St} {H:Hp} {s:Shared} {a:Addr} {ks:List JO} (I:Jk X pins σ H s) (h:JT X.K H a (ks.map kV)):TK X.prog X.w s.heap ks a:=by
 obtain ⟨its,r,⟨o,e,c,n,d⟩,_⟩:=I.tuple h;exact ⟨o,its.toArray,n,e,c,d,by simpa using Jio r⟩
theorem Jf9 {prog:Program} {w:World} {h h':Heap} {ks:List JO} {a:Addr} (hk:TK prog w h ks a) (k:∀ o,h.get? a=some o→(∃ its n,o.data=.seq its n)→h'.get? a=some o):TK prog w h' ks a:=by
 obtain ⟨o,its,n,e,c,d,i⟩:=hk;exact ⟨o,its,n,k o e ⟨its,n,d⟩,c,d,i⟩
def JmJ (K:PySem.W.Frag):List V→Hp→VK→Prop:=fun xs H Q=>∃ l vs kss,xs=[.ref l]∧Jo K H l vs∧JdE K H vs kss∧kss.length≤64∧∀ p,H p=none→Q (.ref p) (upd H p (szO p (Jer kss).length))
theorem Jk7 (hc:X.calm=true) (hu:X.A.units + 64 < cLine):Zd X (.type "set") (JmJ X.K):=by
 intro pins s σ H xs us Q I r h;obtain ⟨l,vs,kss,rfl,hl,⟨tl,tt⟩,hz,q⟩:=h;obtain ⟨u,rfl,ru⟩:=Jw.one r;cases ru;obtain ⟨its,rv,pl,_⟩:=I.list hl;have rlen:=rv.length;have at_:∀ (i:Nat) v,its.toArray[i]?=some v→∃ ks a,kss[i]?=some ks∧v=.ref a∧TK X.prog X.w s.heap ks a:=fun i v hv=>by
  have hi:i < its.length:=by
   have:=(Array.getElem?_eq_some_iff.mp hv).1;simpa using this
  obtain ⟨x,hx⟩:∃ x,vs[i]?=some x:=⟨vs[i],List.getElem?_eq_getElem (by omega)⟩
  obtain ⟨ks,hks⟩:∃ ks,kss[i]?=some ks:=⟨kss[i],List.getElem?_eq_getElem (by omega)⟩
  obtain ⟨a,rfl,ha⟩:=tt i x ks hx hks;obtain ⟨u,hu1,hu2⟩:=Jcw rv hx;have e:v=u:=by
   rw [List.getElem?_toArray] at hv;exact Option.some.inj (hv.symm.trans hu1)
  subst e;cases (show v=.ref a from hu2);exact ⟨ks,a,hks,rfl,Jjr I ha⟩
 have hsz:its.toArray.size=kss.length:=by rw [List.size_toArray]; omega
 refine Je4 (J:=fun S i h'=>(∀ b o,b < s.heap.objs.size→s.heap.get? b=some o→(∃ its n,o.data=.seq its n)→h'.get? b=some o)∧∃ o es ep t,h'.get? S=some o∧o.ExactSet∧o.data=.set es ep t∧Jdg X.prog X.w h' S es t ((kss.take i).foldl dg []))
  (I.ok.hd hc) pl.isList ?_ ?_ ?_ ?_
 ·intro led h' g keep;refine ⟨fun b o _ e _=>keep b o e,_,#[],0,_,g,⟨rfl,rfl,rfl⟩,rfl,⟨.inl rfl,rfl,rfl,fun a b _ hb=>absurd hb (Nat.not_lt_zero _),fun j hj=>by simp [SetTable.fresh] at hj,Nat.zero_le _,fun z hz=>by simp [SetTable.fresh] at hz⟩,?_,fun e he=>by simp at he,fun ks hks=>?_,rfl⟩
  ·show 0 * 5 < 7 * 3
   decide
  ·rw [List.take_zero] at hks; exact nomatch hks
 ·rintro S Ia i j h1 h2 ⟨k1,o,es,ep,t,e1,e2,e3,SA⟩ ⟨oi,i1,i2,i3⟩ keep;have seq:∀ b o',h1.get? b=some o'→(∃ its n,o'.data=.seq its n)→h2.get? b=some o':=fun b o' e ⟨its,n,d⟩=>keep b o' (by
   rintro rfl;rw [i1] at e; cases e;rw [i3] at d; cases d) e
  refine ⟨fun b o' hb e d=>seq b o' (k1 b o' hb e d) d,o,es,ep,t,keep S o (by
   rintro rfl;rw [i1] at e1; cases e1;rw [i3] at e3; cases e3) e1,e2,e3,SA.tab,SA.full,fun e he=>?_,fun ks hks=>?_,SA.siz⟩
  ·obtain ⟨ks,a1,a,a2,a3⟩:=SA.els e he;exact ⟨ks,a1,a,a2,Jf9 a3 fun o' e' d=>seq _ _ e' d⟩
  ·obtain ⟨a,a1,a2⟩:=SA.all ks hks;exact ⟨a,a1,Jf9 a2 fun o' e' d=>seq _ _ e' d⟩
 ·rintro S i v A' s' E' Q' hA hv ⟨k1,o,es,ep,t,e1,e2,e3,SA⟩ hQ;obtain ⟨ks,a,hks,rfl,hk⟩:=at_ i v hv;have hk':TK X.prog X.w s'.heap ks a:=Jf9 hk fun o' e' d=>k1 a o' (Heap.lt_size e') e' d
  have hlt:((kss.take i).foldl dg []).length < 64:=by
   have z:=JeQ (kss.take i) [];have z2:=(List.getElem?_eq_some_iff.mp hks).1;rw [List.length_take] at z;simp only [List.length_nil] at z;omega
  refine JnA (by omega) e1 e2 e3 SA hk' hlt fun b h' tk es' ep' t' o' sb g1 g2 g3 g4=>hQ b h' tk sb ⟨fun b' o2 hb e d=>?_,o',es',ep',t',g1,g2,g3,?_⟩
  ·have z:=k1 b' o2 hb e d;have hne:b'≠S:=by
    rintro rfl;rw [e1] at z; cases z;obtain ⟨its,n,d⟩:=d;rw [e3] at d; cases d
   exact (sb.2 b' hne).trans z
  ·rw [Jen hks];have e:dg ((kss.take i).foldl dg []) ks=dd ((kss.take i).foldl dg []) ks:=by unfold dg dd; split <;> rfl
   rw [e];exact g4
 ·rintro h' tk ⟨_,o,es,ep,t,e1,e2,e3,SA⟩ keep;rw [hsz,List.take_length] at SA;have hf:H s.heap.objs.size=none:=I.hok.fresh (Nat.le_refl _);refine ⟨.ref s.heap.objs.size,_,I.laid (fun b u e=>keep b u (Heap.lt_size e) e) (Nat.le_refl _) (Jkg e1 e2 e3 SA.tab.fits SA.siz ?_),rfl,q _ hf⟩;have:=Jjd kss;show (Jer kss).length≤1000;omega
def JmK (K:PySem.W.Frag):List V→Hp→VK→Prop:=fun xs H Q=>∃ l ss,xs=[.ref l]∧Jo K H l (ss.map V.str)∧ss.length≤64∧∀ p,H p=none→Q (.ref p) (upd H p (szO p (Jer ss).length))
theorem Jk8 (hc:X.calm=true):Zd X (.type "set") (JmK X.K):=by
 intro pins s σ H xs us Q I r h;obtain ⟨l,ss,rfl,hl,hz,q⟩:=h;obtain ⟨u,rfl,ru⟩:=Jw.one r;cases ru;obtain ⟨its,rv,pl,_⟩:=I.list hl;have rlen:=rv.length;rw [List.length_map] at rlen;have at_:∀ (i:Nat) v,its.toArray[i]?=some v→∃ x t,ss[i]?=some x∧v=.str x t:=fun i v hv=>by
  have hi:i < its.length:=by
   have:=(Array.getElem?_eq_some_iff.mp hv).1;simpa using this
  obtain ⟨x,hx⟩:∃ x,ss[i]?=some x:=⟨ss[i],List.getElem?_eq_getElem (by omega)⟩
  obtain ⟨u,hu1,hu2⟩:=Jcw (i:=i) (x:=.str x) rv (by rw [List.getElem?_map,hx]; rfl);have e:v=u:=by
   rw [List.getElem?_toArray] at hv;exact Option.some.inj (hv.symm.trans hu1)
  subst e;obtain ⟨t,e⟩:=hu2;exact ⟨x,t,hx,e⟩
 have hsz:its.toArray.size=ss.length:=by rw [List.size_toArray]; omega
 refine Je4 (J:=fun S i h'=>∃ f,h'.SetOf (J6 X.prog X.w) S f ((ss.take i).foldl dg []).length∧∀ x:Str,f (.inr x)=true↔x∈(ss.take i).foldl dg []) (I.ok.hd hc) pl.isList ?_ ?_ ?_ ?_
 ·intro led h' g keep;refine ⟨fun _=>false,⟨_,#[],0,_,g,⟨rfl,rfl,rfl⟩,rfl,fun e he=>by simp at he,fun k=>by simp,by decide,rfl,rfl⟩,fun x=>?_⟩;rw [List.take_zero];simp
 ·rintro S Ia i j h1 h2 ⟨f,⟨o,es,ep,t,e1,e2,e3,r⟩,hf⟩ ⟨oi,i1,i2,i3⟩ keep;refine ⟨f,⟨o,es,ep,t,keep S o ?_ e1,e2,e3,r⟩,hf⟩;rintro rfl;rw [i1] at e1; cases e1;rw [i3] at e3; cases e3
 ·rintro S i v A' s' E' Q' hA hv ⟨f,hS,hf⟩ hQ;obtain ⟨x,t,hx,rfl⟩:=at_ i v hv;have hlt:((ss.take i).foldl dg []).length + 1 < scanBound:=by
   have z:=JeQ (ss.take i) [];have z2:=(List.getElem?_eq_some_iff.mp hx).1;rw [List.length_take] at z;simp only [List.length_nil] at z;show _ + 1 < 4096;omega
  unfold setAdd;refine wpAny_holding (wpAny_bind ((J6 X.prog X.w).pyHash (JaL X.prog X.w x t) ?_));refine wpAny_setAddHashed_of (knd:=J6 X.prog X.w) (s:={ s' with toks:=s'.toks + 1 }) (JaL X.prog X.w x t) rfl hS hlt fun h' sb hS2=>?_
  refine hQ _ h' _ sb ⟨fun k'=>f k' || decide (k'=.inr x),?_,?_⟩
  ·rw [Jen hx];by_cases hin:x∈(ss.take i).foldl dg []
   ·rw [Jj1 hin];have e:=(hf x).mpr hin;rw [if_pos e] at hS2;exact hS2
   ·rw [JfW hin];have e:¬ f (.inr x)=true:=fun w=>hin ((hf x).mp w)
    rw [if_neg e] at hS2;rw [List.length_append];exact hS2
  ·intro y;rw [Jen hx,Bool.or_eq_true,hf y,decide_eq_true_eq];by_cases hin:x∈(ss.take i).foldl dg []
   ·rw [Jj1 hin];exact ⟨fun z=>z.elim id fun e=>(Sum.inr.inj e) ▸ hin,.inl⟩
   ·rw [JfW hin,List.mem_append,List.mem_singleton];exact ⟨fun z=>z.imp id fun e=>Sum.inr.inj e,fun z=>z.imp id fun e=>by rw [e]⟩
 ·rintro h' tk ⟨f,⟨o,es,ep,t,e1,e2,e3,_,_,_,e7,e8⟩,hf⟩ keep;rw [hsz,List.take_length] at e8;have hfr:H s.heap.objs.size=none:=I.hok.fresh (Nat.le_refl _);refine ⟨.ref s.heap.objs.size,_,I.laid (fun b u e=>keep b u (Heap.lt_size e) e) (Nat.le_refl _) (Jkg e1 e2 e3 e7 e8 ?_),rfl,q _ hfr⟩;have:=Jjd ss;show (Jer ss).length≤1000;omega
def JoQ (K:PySem.W.Frag):List V→Hp→VK→Prop:=fun xs H Q=>JmK K xs H Q∨JmJ K xs H Q
theorem Jk9 (hc:X.calm=true) (hu:X.A.units + 64 < cLine):Zd X (.type "set") (JoQ X.K):=by
 intro pins s σ H xs us Q I r h;rcases h with h | h
 ·exact Jk8 hc pins s σ H xs us Q I r h
 ·exact Jk7 hc hu pins s σ H xs us Q I r h
end
end L2
namespace KS
open PySem PySem.W PyProof.Rows
section
variable {O:KeyOrd} {key:Nat→O.α} {n:Nat}
def Ok (O:KeyOrd) (key:Nat→O.α) (n:Nat) {α:Type} (Post:α→Prop):KasT α→Prop
 | .ret a=>Post a
 | .ask i j k=>i < n∧j < n∧Ok O key n Post (k (O.blt (key i) (key j)))
theorem Ok.bind {α β:Type} {Post:β→Prop} {f:α→KasT β}:∀ {t:KasT α},Ok O key n (fun a=>Ok O key n Post (f a)) t→Ok O key n Post (t.bind f)
 | .ret _,h=>h
 | .ask _ _ _,h=>⟨h.1,h.2.1,Ok.bind h.2.2⟩
theorem Ok.wp {α:Type} {Post:α→Prop} {cmp:Nat→Nat→(Bool→Shared→Prop)→Shared→Prop} {Q:α→Shared→Prop} {s:Shared} (hc:∀ i j C,i < n→j < n→C (O.blt (key i) (key j)) s→cmp i j C s) (hq:∀ a,Post a→Q a s):∀ {t:KasT α},Ok O key n Post t→t.kasWp cmp Q s
 | .ret _,h=>hq _ h
 | .ask i j k,h=>hc i j _ h.1 h.2.1 (Ok.wp hc hq h.2.2)
def Pm (n:Nat) (p:Array Nat):Prop:=p.Perm (List.toArray (List.range n))
theorem Pm.size {p:Array Nat} (h:Pm n p):p.size=n:=by rw [Array.Perm.size_eq h]; simp
theorem Pm.lt {p:Array Nat} (h:Pm n p) (h0:0 < n) (i:Nat):p.getD i 0 < n:=by
 by_cases hi:i < p.size
 ·have hm:p[i]∈p:=Array.getElem_mem hi;have hm2:p[i]∈List.toArray (List.range n):=h.mem_iff.mp hm;rw [List.mem_toArray,List.mem_range] at hm2;simpa [Array.getD,hi] using hm2
 ·simpa [Array.getD,hi] using h0
def Kp (key:Nat→O.α) (p:Array Nat) (i:Nat):O.α:=key (p.getD i 0)
def Srt (O:KeyOrd) (key:Nat→O.α) (p:Array Nat) (m:Nat):Prop:=∀ i j,i≤j→j < m→O.kle (Kp key p i) (Kp key p j)
def Fal (O:KeyOrd) (key:Nat→O.α) (p:Array Nat) (m:Nat):Prop:=∀ i j,i≤j→j < m→O.kle (Kp key p j) (Kp key p i)
theorem JdB {p q:Array Nat} {i j:Nat} (h:p[i]?=q[j]?):p.getD i 0=q.getD j 0:=by rw [Array.getD_eq_getD_getElem?,Array.getD_eq_getD_getElem?,h]
theorem JfD {p:Array Nat} {i j:Nat} (hj:j≤p.size) (k:Nat):Kp key (kas_rev p i j) k=if i≤k∧k < j then Kp key p (i + j - 1 - k) else Kp key p k:=by
 have e:=getElem?_mirror_all (i:=i) hj k;unfold Kp kas_rev;split
 ·rename_i h;rw [if_pos h] at e;rw [JdB e]
 ·rename_i h;rw [if_neg h] at e;rw [JdB e]
theorem Jd7 {p:Array Nat} (i j:Nat) (h:Pm n p):Pm n (kas_rev p i j):=(mirror_perm p i j _).trans h
theorem Jor {p:Array Nat} {s d:Nat} (hs:s < p.size) (hd:d≤s) (k:Nat):Kp key (bubble p s d) k=if k=s - d then Kp key p s else if s - d < k∧k≤s then Kp key p (k - 1) else Kp key p k:=by
 have e:=getElem?_bubble hs d hd k;unfold Kp;by_cases h1:k=s - d
 ·rw [if_pos h1] at e ⊢; rw [JdB e]
 ·rw [if_neg h1] at e ⊢;by_cases h2:s - d < k∧k≤s
  ·rw [if_pos h2] at e ⊢; rw [JdB e]
  ·rw [if_neg h2] at e ⊢; rw [JdB e]
theorem nlt {a b:O.α} (h:¬ O.blt a b=true):O.kle b a:=by
 show O.blt a b=false;simpa using h
theorem JiE {Post:Nat→Prop} {p:Array Nat} (hp:Pm n p) (h0:0 < n):∀ (f a:Nat),1≤a→Srt O key p a→(∀ m,a≤m→m≤a + f→Srt O key p m→(m < a + f→O.klt (Kp key p m) (Kp key p (m - 1)))→Post m)→Ok O key n Post (kas_asc p f a)
 | 0,a,h1,hs,hq=>hq a (Nat.le_refl _) (Nat.le_refl _) hs fun h=>absurd h (Nat.lt_irrefl _)
 | f + 1,a,h1,hs,hq=>by
  refine ⟨hp.lt h0 _,hp.lt h0 _,?_⟩;dsimp only;by_cases hc:O.blt (key (p.getD a 0)) (key (p.getD (a - 1) 0))=true
  ·rw [if_pos hc];exact hq a (Nat.le_refl _) (by omega) hs fun _=>hc
  ·rw [if_neg hc];have hle:O.kle (Kp key p (a - 1)) (Kp key p a):=nlt hc;refine JiE hp h0 f (a + 1) (by omega) (fun i j hij hj=>?_) fun m g1 g2 g3 g4=>hq m (by omega) (by omega) g3 fun h=>g4 (by omega)
   by_cases hja:j < a
   ·exact hs i j hij hja
   ·obtain rfl:j=a:=by omega
    by_cases hia:i=j
    ·subst hia; exact O.kle_refl _
    ·exact O.kle_trans (hs i (j - 1) (by omega) (by omega)) hle
def Dsc (O:KeyOrd) (key:Nat→O.α) (p:Array Nat) (a q:Nat):Prop:=q + 1≤a∧Fal O key p a∧∀ i,a - (q + 1)≤i→i < a→O.kle (Kp key p i) (Kp key p (a - 1))
theorem Dsc.rev {p:Array Nat} {a q:Nat} (ha:a≤p.size) (h:Dsc O key p a q):(∀ k,Kp key (kas_rev p (a - (q + 1)) a) k=Kp key p k):=by
 obtain ⟨h1,h2,h3⟩:=h;have same:∀ i,a - (q + 1)≤i→i < a→Kp key p i=Kp key p (a - 1):=fun i g1 g2=>O.kle_antisymm (h3 i g1 g2) (h2 i (a - 1) (by omega) (by omega))
 intro k;rw [JfD ha];split
 ·rename_i h;rw [same _ (by omega) (by omega),same k h.1 h.2]
 ·rfl
theorem Dsc.congr {p p':Array Nat} {a q:Nat} (h:Dsc O key p a q) (e:∀ k,Kp key p' k=Kp key p k):Dsc O key p' a q :=
 ⟨h.1,fun i j hij hj=>by rw [e,e]; exact h.2.1 i j hij hj,fun i g1 g2=>by rw [e,e]; exact h.2.2 i g1 g2⟩
theorem Dsc.next {p:Array Nat} {a q:Nat} (h:Dsc O key p a q) (hlt:O.klt (Kp key p a) (Kp key p (a - 1))):Dsc O key p (a + 1) 0:=by
 refine ⟨by omega,fun i j hij hj=>?_,fun i g1 g2=>?_⟩
 ·by_cases hja:j < a
  ·exact h.2.1 i j hij hja
  ·obtain rfl:j=a:=by omega
   by_cases hia:i=j
   ·subst hia; exact O.kle_refl _
   ·have:=h.1;exact O.kle_trans (O.kle_of_klt hlt) (h.2.1 i (j - 1) (by omega) (by omega))
 ·obtain rfl:i=a:=by omega
  exact O.kle_refl _
theorem Dsc.same {p:Array Nat} {a q:Nat} (h:Dsc O key p a q) (e:Kp key p a=Kp key p (a - 1)):Dsc O key p (a + 1) (q + 1):=by
 have h1:=h.1;refine ⟨by omega,fun i j hij hj=>?_,fun i g1 g2=>?_⟩
 ·by_cases hja:j < a
  ·exact h.2.1 i j hij hja
  ·obtain rfl:j=a:=by omega
   by_cases hia:i=j
   ·subst hia; exact O.kle_refl _
   ·rw [e];exact h.2.1 i (j - 1) (by omega) (by omega)
 ·show O.kle (Kp key p i) (Kp key p (a + 1 - 1));rw [Nat.add_sub_cancel,e];by_cases hia:i=a
  ·subst hia; rw [e]; exact O.kle_refl _
  ·exact h.2.2 i (by omega) (by omega)
theorem JeS {Post:Array Nat×Nat×Nat→Prop} (h0:0 < n):∀ (f:Nat) (p:Array Nat) (a q:Nat),Pm n p→a + f≤n→Dsc O key p a q→(∀ p' a' q',Pm n p'→a≤a'→a'≤a + f→Dsc O key p' a' q'→Post (p',a',q'))→Ok O key n Post (kas_desc f p a q)
 | 0,p,a,q,hp,hn,hd,hq=>hq p a q hp (Nat.le_refl _) (Nat.le_refl _) hd
 | f + 1,p,a,q,hp,hn,hd,hq=>by
  have hz:=hp.size;refine ⟨hp.lt h0 _,hp.lt h0 _,?_⟩;dsimp only;by_cases hc:O.blt (key (p.getD a 0)) (key (p.getD (a - 1) 0))=true
  ·rw [if_pos hc];have hd2:=hd.next hc;by_cases hq0:q > 0
   ·rw [if_pos hq0];have e:=hd.rev (by omega);exact JeS h0 f _ (a + 1) 0 (Jd7 _ _ hp) (by omega) (hd2.congr e) fun p' a' q' g1 g2 g3 g4=>hq p' a' q' g1 (by omega) (by omega) g4
   ·rw [if_neg hq0];exact JeS h0 f p (a + 1) 0 hp (by omega) hd2 fun p' a' q' g1 g2 g3 g4=>hq p' a' q' g1 (by omega) (by omega) g4
  ·rw [if_neg hc];refine ⟨hp.lt h0 _,hp.lt h0 _,?_⟩;dsimp only;by_cases hc2:O.blt (key (p.getD (a - 1) 0)) (key (p.getD a 0))=true
   ·rw [if_pos hc2];exact hq p a q hp (Nat.le_refl _) (by omega) hd
   ·rw [if_neg hc2];have e:Kp key p a=Kp key p (a - 1):=O.kle_antisymm (nlt hc2) (nlt hc);exact JeS h0 f p (a + 1) (q + 1) hp (by omega) (hd.same e) fun p' a' q' g1 g2 g3 g4=>hq p' a' q' g1 (by omega) (by omega) g4
theorem JhG {Post:Nat×Array Nat→Prop} (h0:0 < n) {a nrem:Nat} {p:Array Nat} (hp:Pm n p) (h1:1≤a) (ha:a≤nrem) (hn:nrem≤n) (hf:Fal O key p a) (hq:∀ m p',Pm n p'→1≤m→m≤nrem→Srt O key p' m→Post (m,p')):Ok O key n Post (kas_tail3 a nrem p):=by
 have hz:=hp.size;unfold kas_tail3;refine Ok.bind (JiE (Jd7 0 a hp) h0 (nrem - a) a h1 (fun i j hij hj=>?_) fun m g1 g2 g3 _=>hq m _ (Jd7 0 a hp) (by omega) (by omega) g3);rw [JfD (by omega),JfD (by omega),if_pos ⟨Nat.zero_le _,by omega⟩,if_pos ⟨Nat.zero_le _,hj⟩];exact hf _ _ (by omega) (by omega)
theorem Je3 {Post:Nat×Array Nat→Prop} (h0:0 < n) {a nrem:Nat} {p:Array Nat} (hp:Pm n p) (h1:1≤a) (ha:a + 1≤nrem) (hn:nrem≤n) (hf:Fal O key p a) (hlt:O.klt (Kp key p a) (Kp key p (a - 1))) (hq:∀ m p',Pm n p'→1≤m→m≤nrem→Srt O key p' m→Post (m,p')) :
  Ok O key n Post (kas_descPart a nrem p):=by
 have hd:Dsc O key p a 0:=⟨h1,hf,fun i g1 g2=>by
  obtain rfl:i=a - 1:=by omega
  exact O.kle_refl _⟩
 unfold kas_descPart;refine Ok.bind (JeS h0 _ p (a + 1) 0 hp (by omega) (hd.next hlt) fun p' a' q' g1 g2 g3 g4=>?_);have hz:=g1.size;dsimp only;split
 ·refine JhG h0 (Jd7 _ _ g1) (by omega) (by omega) hn (fun i j hij hj=>?_) hq;rw [g4.rev (by omega),g4.rev (by omega)];exact g4.2.1 i j hij hj
 ·exact JhG h0 g1 (by omega) (by omega) hn g4.2.1 hq
theorem Jms {Post:Nat×Array Nat→Prop} (h0:0 < n) {p:Array Nat} (hp:Pm n p) (hq:∀ m p',Pm n p'→1≤m→m≤n→Srt O key p' m→Post (m,p')):Ok O key n Post (kas_count n p):=by
 have hz:=hp.size;unfold kas_count;refine Ok.bind (JiE hp h0 (n - 1) 1 (Nat.le_refl _) (fun i j hij hj=>?_) fun m g1 g2 g3 g4=>?_)
 ·obtain rfl:i=j:=by omega
  exact O.kle_refl _
 ·by_cases hm:(m == n)=true
  ·rw [if_pos hm];exact hq m p hp g1 (by omega) g3
  ·rw [if_neg hm];have hmn:m≠n:=fun e=>hm (by simp [e])
   have hlt:=g4 (by omega);by_cases hm1:m > 1
   ·rw [if_pos hm1];refine ⟨hp.lt h0 _,hp.lt h0 _,?_⟩;dsimp only;by_cases hc:O.blt (key (p.getD 0 0)) (key (p.getD (m - 1) 0))=true
    ·rw [if_pos hc];exact hq m p hp g1 (by omega) g3
    ·rw [if_neg hc];have all:∀ i,i < m→Kp key p i=Kp key p (m - 1):=fun i hi=>by
      refine O.kle_antisymm (g3 i (m - 1) (by omega) (by omega)) ?_;exact O.kle_trans (nlt hc) (g3 0 i (Nat.zero_le _) hi)
     have e:∀ k,Kp key (kas_rev p 0 m) k=Kp key p k:=fun k=>by
      rw [JfD (by omega)];split
      ·rename_i h;rw [all _ (by omega),all k h.2]
      ·rfl
     refine Je3 h0 (Jd7 0 m hp) g1 (by omega) (Nat.le_refl _) (fun i j hij hj=>?_) (by rw [e,e]; exact hlt) hq;rw [e,e,all i (by omega),all j hj];exact O.kle_refl _
   ·rw [if_neg hm1];refine Je3 h0 hp g1 (by omega) (Nat.le_refl _) (fun i j hij hj=>?_) hlt hq;obtain rfl:i=j:=by omega
    exact O.kle_refl _
theorem Je9 {Post:Nat→Prop} (h0:0 < n) {p:Array Nat} (hp:Pm n p) {k:Nat} (hs:Srt O key p k):∀ (f l r:Nat),l≤r→r≤k→r - l≤f→(∀ i,i < l→O.kle (Kp key p i) (Kp key p k))→(∀ i,r≤i→i < k→O.klt (Kp key p k) (Kp key p i)) →
  (∀ m,m≤k→(∀ i,i < m→O.kle (Kp key p i) (Kp key p k))→(∀ i,m≤i→i < k→O.klt (Kp key p k) (Kp key p i))→Post m)→Ok O key n Post (kas_place p k f l r)
 | 0,l,r,h1,h2,h3,h4,h5,hq=>by
  obtain rfl:l=r:=by omega
  exact hq l h2 h4 h5
 | f + 1,l,r,h1,h2,h3,h4,h5,hq=>by
  unfold kas_place;by_cases hlr:l≥r
  ·rw [if_pos hlr];obtain rfl:l=r:=by omega
   exact hq l h2 h4 h5
  ·rw [if_neg hlr];refine ⟨hp.lt h0 _,hp.lt h0 _,?_⟩;dsimp only;by_cases hc:O.blt (key (p.getD k 0)) (key (p.getD ((l + r) / 2) 0))=true
   ·rw [if_pos hc];refine Je9 h0 hp hs f l _ (by omega) (by omega) (by omega) h4 (fun i g1 g2=>?_) hq;exact O.klt_of_klt_of_kle hc (hs ((l + r) / 2) i g1 g2)
   ·rw [if_neg hc];refine Je9 h0 hp hs f _ r (by omega) h2 (by omega) (fun i g=>?_) h5 hq;exact O.kle_trans (hs i ((l + r) / 2) (by omega) (by omega)) (nlt hc)
theorem Jlh {Post:Array Nat→Prop} (h0:0 < n):∀ (f:Nat) (p:Array Nat) (k:Nat),Pm n p→k + f=n→Srt O key p k→(∀ p',Pm n p'→Srt O key p' n→Post p')→Ok O key n Post (kas_bin f p k)
 | 0,p,k,hp,hk,hs,hq=>hq p hp (by rw [← hk]; exact hs)
 | f + 1,p,k,hp,hk,hs,hq=>by
  have hz:=hp.size;unfold kas_bin;refine Ok.bind (Je9 h0 hp hs k 0 k (Nat.zero_le _) (Nat.le_refl _) (by omega) (fun i g=>absurd g (Nat.not_lt_zero _)) (fun i g1 g2=>by omega) fun m g1 g2 g3=>?_);have e:∀ i,Kp key (bubble p k (k - m)) i=if i=m then Kp key p k else if m < i∧i≤k then Kp key p (i - 1) else Kp key p i:=fun i=>by
   have z:=Jor (key:=key) (p:=p) (s:=k) (d:=k - m) (by omega) (by omega) i;rw [show k - (k - m)=m by omega] at z;exact z
  refine Jlh h0 f _ (k + 1) ((bubble_perm p k (k - m)).trans hp) (by omega) (fun i j hij hj=>?_) hq;rw [e,e];rcases Nat.lt_trichotomy i m with a | a | a
  ·rw [if_neg (by omega),if_neg (by omega)];rcases Nat.lt_trichotomy j m with b | b | b
   ·rw [if_neg (by omega),if_neg (by omega)];exact hs i j hij (by omega)
   ·rw [if_pos b];exact g2 i a
   ·rw [if_neg (by omega),if_pos ⟨b,by omega⟩];exact hs i (j - 1) (by omega) (by omega)
  ·rw [if_pos a];by_cases b:j=m
   ·rw [if_pos b]; exact O.kle_refl _
   ·rw [if_neg b,if_pos ⟨by omega,by omega⟩];exact O.kle_of_klt (g3 (j - 1) (by omega) (by omega))
  ·rw [if_neg (by omega),if_pos ⟨a,by omega⟩,if_neg (by omega),if_pos ⟨by omega,by omega⟩];exact hs (i - 1) (j - 1) (by omega) (by omega)
theorem Jm6 {Post:Array Nat→Prop} (h0:0 < n) (hq:∀ p,Pm n p→Srt O key p n→Post p):Ok O key n Post (kas_sort n):=by
 unfold kas_sort;refine Ok.bind (Jms h0 (Array.Perm.refl _) fun m p g1 g2 g3 g4=>?_);dsimp only;split
 ·rename_i h;have e:max m 1=m:=by omega
  rw [e];exact Jlh h0 (n - m) p m g1 (by omega) g4 hq
 ·obtain rfl:m=n:=by omega
  exact hq p g1 g4
end
end KS
namespace KS
open PySem PySem.W PyProof.Rows
def YZ:KeyOrd where
 α:=List Nat×List Nat
 blt a b:=if a.1=b.1 then decide (a.2 < b.2) else decide (a.1 < b.1)
 irrefl a:=by rw [if_pos rfl]; exact strKind.irrefl a.2
 trans a b c h1 h2:=by
  by_cases e1:a.1=b.1
  ·rw [if_pos e1] at h1;by_cases e2:b.1=c.1
   ·rw [if_pos e2] at h2;rw [if_pos (e1.trans e2)];exact strKind.trans _ _ _ h1 h2
   ·rw [if_neg e2] at h2;rw [if_neg (fun e=>e2 (e1.symm.trans e)),e1];exact h2
  ·rw [if_neg e1] at h1;by_cases e2:b.1=c.1
   ·rw [if_pos e2] at h2;rw [if_neg (fun e=>e1 (e.trans e2.symm)),← e2];exact h1
   ·rw [if_neg e2] at h2;have h3:=strKind.trans _ _ _ h1 h2;have hne:¬ a.1=c.1:=fun e=>by
     rw [e] at h3;have:=strKind.irrefl c.1;rw [this] at h3;cases h3
    rw [if_neg hne];exact h3
 negTrans a b c h:=by
  by_cases e1:a.1=b.1
  ·by_cases e2:b.1=c.1
   ·rw [if_pos (e1.trans e2)] at h;rw [if_pos e1,if_pos e2];exact strKind.negTrans _ _ _ h
   ·rw [if_neg (fun e=>e2 (e1.symm.trans e))] at h;rw [if_neg e2,← e1];exact .inr h
  ·by_cases e2:b.1=c.1
   ·rw [if_neg (fun e=>e1 (e.trans e2.symm))] at h;rw [if_neg e1,e2];exact .inl h
   ·rw [if_neg e1,if_neg e2];by_cases e3:a.1=c.1
    ·rw [if_pos e3] at h;cases h4:decide (a.1 < b.1) with
     | true=>exact .inl rfl
     | false =>
      refine .inr ?_;cases h5:decide (b.1 < c.1) with
      | true=>rfl
      | false =>
       rw [← e3] at h5;exact absurd (strKind.total _ _ h4 h5) e1
    ·rw [if_neg e3] at h;exact strKind.negTrans _ _ _ h
 total a b h1 h2:=by
  by_cases e:a.1=b.1
  ·rw [if_pos e] at h1;rw [if_pos e.symm] at h2;exact Prod.ext e (strKind.total _ _ h1 h2)
  ·rw [if_neg e] at h1;rw [if_neg (fun q=>e q.symm)] at h2;exact absurd (strKind.total _ _ h1 h2) e
section
variable {prog:Program} {w:World} {A:Around} {E:Value→Shared→Prop} {s:Shared}
def Jc6 (h:Heap) (a:Addr) (x y:Str):Prop:=∃ o n t u,h.get? a=some o∧o.cls=.type "tuple"∧o.data=.seq #[.str x t,.str y u] n
def pk (x:Str×Str):YZ.α:=(x.1.cps.toList,x.2.cps.toList)
theorem Jjj {x y:Str} (h:x.cps.toList=y.cps.toList):x=y:=by
 cases x; cases y;congr 1;exact Array.toList_inj.mp h
theorem Jjc {x y:Str} {t u:Tok} {Q:Bool→Shared→Prop} (h:Q (decide (x=y)) s):wpAny (model prog w) A (eqBool (.str x t) (.str y u)) Q E s:=by
 refine (L2.J6 prog w).eqBool (L2.JaL prog w x t) (L2.JaL prog w y u) ?_;rw [L2.JkP];exact h
theorem Jmv {a b:Addr} {p q:Str×Str} {Q:Bool→Shared→Prop} (ha:Jc6 s.heap a p.1 p.2) (hb:Jc6 s.heap b q.1 q.2) (h:Q (YZ.blt (pk p) (pk q)) s):wpAny (model prog w) A (keyLt' (tuples' true) (.ref a) (.ref b)) Q E s:=by
 obtain ⟨o,n,t,u,h1,_,h3⟩:=ha;obtain ⟨o',n',t',u',g1,_,g3⟩:=hb;refine kat_lt h1 h3 g1 g3 (kat_cons (Jjc (kat_go (fun e=>?_) (fun e=>?_))))
 ·have e1:p.1=q.1:=of_decide_eq_true e;refine kat_yes (kat_cons (Jjc (kat_go (fun e=>?_) (fun e=>?_))))
  ·have e2:p.2=q.2:=of_decide_eq_true e;refine kat_yes (kat_nil ?_);have hf:YZ.blt (pk p) (pk q)=false:=by
    have:pk p=pk q:=by unfold pk; rw [e1,e2]
    rw [this];exact YZ.irrefl _
   rw [hf] at h;exact h
  ·refine kat_no (kat_one _ _ ?_);have hf:YZ.blt (pk p) (pk q)=decide (p.2.cps.toList < q.2.cps.toList):=by
    show (if p.1.cps.toList=q.1.cps.toList then _ else _)=_;rw [if_pos (by rw [e1])];rfl
   rw [hf] at h;exact PySem.P.lt_str h
 ·have e1:¬ p.1=q.1:=of_decide_eq_false e;refine kat_no ?_;have hf:YZ.blt (pk p) (pk q)=decide (p.1.cps.toList < q.1.cps.toList):=by
   show (if p.1.cps.toList=q.1.cps.toList then _ else _)=_;rw [if_neg (fun z=>e1 (Jjj z))];rfl
  rw [hf] at h;exact oneLt_str h
def dfl:Str×Str:=(Str.empty,Str.empty)
def ky (ps:List (Str×Str)) (i:Nat):YZ.α:=pk (ps.getD i dfl)
def Z4 (vs:List Value) (p:Array Nat):Array Value:=List.toArray (p.toList.map fun i=>vs.getD i Value.none)
theorem JhX (n:Nat):Pm n (List.toArray (List.range n)):=Array.Perm.refl _
theorem Jkz (vs:List Value):Z4 vs (List.toArray (List.range vs.length))=vs.toArray:=by
 unfold Z4;congr 1;apply List.ext_getElem?;intro i;rw [List.getElem?_map];by_cases hi:i < vs.length
 ·simp [hi]
 ·simp [hi]
theorem Jkq {a:Addr} {vs:List Value} {ps:List (Str×Str)} {n:Nat} {P:PySem.Fin→Shared→Prop} (ho:s.heap.get? a=some (seqObj "list" vs.toArray n)) (hlen:vs.length=ps.length) (h64:vs.length < 64)
  (hp:∀ (i:Nat) v p,vs[i]?=some v→ps[i]?=some p→∃ b,b≠a∧v=.ref b∧Jc6 s.heap b p.1 p.2)
  (h:∀ p:Array Nat,Pm vs.length p→Srt YZ (ky ps) p vs.length→P (.done (.ret .none)) { s with heap:=sortedHeap s.heap a vs (Z4 vs p) }) :
  wpAny (model prog w) A (Builtin.«list.sort» ⟨[.ref a],[]⟩) P E s:=by
 have hlt:a < s.heap.objs.size:=Heap.lt_size ho;obtain ⟨e1,g1⟩:∃ e1,(s.heap.update a (Obj.mapSeq fun _=>#[])).get? a=some (seqObj "list" #[] e1):=⟨_,get?_update_seq ho fun _=>#[]⟩
 have big:vs.length≤sizeLine:=by rw [sizeLine_eq]; omega
 rw [list_sort_plain];refine wpAny_bind (listItems_at ho rfl (wpAny_bind (listUpdate_at ho rfl (wpAny_bind (seqEpoch_at g1 rfl (wpAny_bind (wpAny_newTuple (wpAny_bind (wpAny_newList (wpAny_holding ?_))) (by simpa using big))))) (by simpa using big))));generalize hh6:(((s.heap.update a (Obj.mapSeq fun _=>#[])).push (seqObj "tuple" vs.toArray 0)).push (seqObj "list" #[] 0))=h6;have g6:h6.get? a=some (seqObj "list" #[] e1):=by
  rw [← hh6];exact Heap.get?_push_of_some _ (Heap.get?_push_of_some _ g1)
 have keep:∀ b o,b≠a→s.heap.get? b=some o→h6.get? b=some o:=fun b o hb e=>by
  rw [← hh6];refine Heap.get?_push_of_some _ (Heap.get?_push_of_some _ ?_);rw [Heap.get?_update_ne _ _ _ _ hb];exact e
 have hp6:∀ (i:Nat) v p,vs[i]?=some v→ps[i]?=some p→∃ b,v=.ref b∧Jc6 h6 b p.1 p.2:=fun i v p hv hq=>by
  obtain ⟨b,hb,e,o,n,t,u,z1,z2⟩:=hp i v p hv hq;exact ⟨b,e,o,n,t,u,keep b o hb z1,z2⟩
 have hfin:∀ p:Array Nat,Pm vs.length p→(Z4 vs p).size≤sizeLine + 1:=fun p hpm=>by
  unfold Z4;rw [List.size_toArray,List.length_map,Array.length_toList,hpm.size];exact Nat.le_succ_of_le big
 have eH:∀ out,h6.update a (Obj.mapSeq fun _=>out)=sortedHeap s.heap a vs out:=fun out=>by rw [← hh6]; rfl
 have sz:vs.toArray.size=vs.length:=List.size_toArray;show wpAny (model prog w) A _ P E { s with heap:=h6 };dsimp only;rw [sz];by_cases h2:vs.length < 2
 ·rw [if_pos h2,if_pos h2];refine wpAny_bind (wpAny_pure ?_);rw [StateT.run_pure];refine wpAny_bind (wpAny_pure ?_);dsimp only;have eo:(arrOf (SortSt.mk' general' (vs.toArray.zip vs.toArray) #[] 7 none)).map (·.2)=Z4 vs (List.toArray (List.range vs.length)):=by
   rw [Jkz];show (vs.toArray.zip vs.toArray).map (·.2)=_;simp [List.map_snd_zip]
  rw [eo];refine wpAny_bind (seqEpoch_at g6 rfl (wpAny_bind (listUpdate_at g6 rfl ?_ (hsz2:=hfin _ (JhX _)))));rw [if_neg (by simp)];show wpAny _ _ _ _ _ { s with heap:=h6.update a (Obj.mapSeq fun _=>Z4 vs (List.toArray (List.range vs.length))) };rw [eH];refine wpAny_pure (h _ (JhX _) fun i j hij hj=>?_);obtain rfl:i=j:=by omega
  exact YZ.kle_refl _
 ·rw [if_neg h2,if_neg h2];have tups:∀ (vs:List Value) (ps:List (Str×Str)),vs.length=ps.length→(∀ (i:Nat) v p,vs[i]?=some v→ps[i]?=some p→∃ b,v=.ref b∧Jc6 h6 b p.1 p.2)→∃ fs:List Value,KatTups h6 vs fs∧fs.length=vs.length∧∀ v∈fs,∃ x t,v=.str x t:=by
   intro vs
   induction vs with
   | nil=>exact fun ps _ _=>⟨[],.nil,rfl,fun v hv=>nomatch hv⟩
   | cons v r ih =>
    intro ps hl hq;cases ps with
    | nil=>cases hl
    | cons p ps =>
     obtain ⟨b,rfl,o,n,t,u,z1,z2,z3⟩:=hq 0 v p rfl rfl;obtain ⟨fs,y1,y2,y3⟩:=ih ps (by simpa using hl) fun i v' p' a1 a2=>hq (i + 1) v' p' (by simpa using a1) (by simpa using a2)
     refine ⟨.str p.1 t :: fs,.cons z1 z2 z3 rfl y1,by simp [y2],fun v' hv'=>?_⟩;rcases List.mem_cons.mp hv' with rfl | q
     ·exact ⟨_,_,rfl⟩
     ·exact y3 v' q
  obtain ⟨fs,f1,f2,f3⟩:=tups vs ps hlen hp6;refine wpAny_bind (kat_kind (s:={ s with heap:=h6 }) f1 (by omega) (T:=.type "str") (fun v hv=>?_) (by decide) ?_)
  ·obtain ⟨x,t,rfl⟩:=f3 v hv;exact .now
  have ek:(Value.type "str" != Value.type "tuple")=true:=by decide
  rw [ek];refine wpAny_bind (wpAny_mono (kat_run (E:=E) (ks:=vs) (vs:=vs) (G:=fun p s'=>s'={ s with heap:=h6 }∧Pm vs.length p∧Srt YZ (ky ps) p vs.length)
   (Q:=fun st' s'=>∃ p:Array Nat,s'={ s with heap:=h6 }∧Pm vs.length p∧Srt YZ (ky ps) p vs.length∧arrOf st'=p.map (kas_item (vs.toArray.zip vs.toArray))∧failedOf st'=none) rfl (by omega) h64
   (fun p st' s' b1 b2 b3 b4=>⟨p,b4.1,b4.2.1,b4.2.2,b2,b3⟩) ?_) ?_ fun _ _ e=>e)
  ·refine Ok.wp (O:=YZ) (key:=ky ps) (n:=vs.length) (Post:=fun p=>Pm vs.length p∧Srt YZ (ky ps) p vs.length) (fun i j C hi hj hC=>?_) (fun p q=>⟨rfl,q.1,q.2⟩) (Jm6 (by omega) fun p q1 q2=>⟨q1,q2⟩);have at_:∀ i,i < vs.length→∃ b,vs.getD i Value.none=.ref b∧Jc6 h6 b (ps.getD i dfl).1 (ps.getD i dfl).2:=fun i hi=>by
    have hi':i < ps.length:=by omega
    obtain ⟨b,e,pb⟩:=hp6 i vs[i] ps[i] (List.getElem?_eq_getElem hi) (List.getElem?_eq_getElem hi');refine ⟨b,?_,?_⟩
    ·rw [List.getD_eq_getElem?_getD,List.getElem?_eq_getElem hi]; exact e
    ·rw [List.getD_eq_getElem?_getD,List.getElem?_eq_getElem hi']; exact pb
   obtain ⟨b,eb,pb⟩:=at_ i hi;obtain ⟨c,ec,pc⟩:=at_ j hj;show wpAny (model prog w) A (keyLt' (tuples' true) (vs.getD i Value.none) (vs.getD j Value.none)) C (fun _ _=>False) { s with heap:=h6 };rw [eb,ec];exact Jmv (s:={ s with heap:=h6 }) pb pc hC
  ·rintro ⟨⟨⟩,st'⟩ s' ⟨p,rfl,q1,q2,q3,q4⟩;dsimp only;have eo:(arrOf st').map (·.2)=Z4 vs p:=kat_snds rfl q3;rw [eo,q4];refine wpAny_bind (seqEpoch_at g6 rfl (wpAny_bind (listUpdate_at g6 rfl ?_ (hsz2:=hfin p q1))));dsimp only;rw [if_neg (by simp)];show wpAny _ _ _ _ _ { s with heap:=h6.update a (Obj.mapSeq fun _=>Z4 vs p) };rw [eH];exact wpAny_pure (h p q1 q2)
theorem JhM {l:Addr} {vs:List Value} {ps:List (Str×Str)} {Q:Value→Shared→Prop} (hl:s.heap.IsList l vs.toArray) (hlen:vs.length=ps.length) (h64:vs.length < 64)
  (hp:∀ (i:Nat) v p,vs[i]?=some v→ps[i]?=some p→∃ b,v=.ref b∧Jc6 s.heap b p.1 p.2)
  (h:∀ p:Array Nat,Pm vs.length p→Srt YZ (ky ps) p vs.length→Q (.ref (s.heap.objs.size + 1)) { s with heap:=sortedAll s.heap vs (Z4 vs p) }) :
  wpAny (model prog w) A (call (.builtin "sorted") [.ref l]) Q E s:=by
 have big:vs.length≤sizeLine:=by rw [sizeLine_eq]; omega
 refine Calls.call_function_entry kind_sorted plain_sorted entry_sorted (args_sorted1 _) ?_;unfold Builtin.«sorted»;refine wpAny_bind (m:=checkCount "sorted" 1 1 _) (wpAny_pure (wpAny_bind (collect_list hl (wpAny_bind (wpAny_newList ?_ (by simpa using big))) (by simpa using big))));generalize hh1:((s.heap.push (seqObj "list" #[] 0)).update s.heap.objs.size (Obj.mapSeq (· ++ vs.toArray)))=h1;have z1:h1.objs.size=s.heap.objs.size + 1:=by rw [← hh1,Heap.size_update,size_push']
 have g1:(h1.push (seqObj "list" vs.toArray 0)).get? (s.heap.objs.size + 1)=some (seqObj "list" vs.toArray 0):=by rw [← z1]; exact Heap.get?_push_size _ rfl
 have keep:∀ b o,s.heap.get? b=some o→(h1.push (seqObj "list" vs.toArray 0)).get? b=some o:=fun b o q=>by
  have hb:b < s.heap.objs.size:=Heap.lt_size q;refine Heap.get?_push_of_some _ ?_;rw [← hh1,Heap.get?_update_ne _ _ _ _ (Nat.ne_of_lt hb)];exact Heap.get?_push_of_some _ q
 show wpAny _ _ _ _ _ { s with heap:=h1.push (seqObj "list" vs.toArray 0) };rw [z1];refine wpAny_bind (wpAny_holding (wpAny_call_entry slot_list_sort ⟨_,g1,rfl⟩ entry_list_sort (Jkq (s:={ s with heap:=h1.push (seqObj "list" vs.toArray 0) }) g1 hlen h64 (fun i v p hv hq=>?_) fun p q1 q2=>⟨_,rfl,?_⟩) (args_list_sort _)))
 ·obtain ⟨b,e,o,n,t,u,y1,y2⟩:=hp i v p hv hq;exact ⟨b,Nat.ne_of_lt (Nat.lt_succ_of_lt (Heap.lt_size y1)),e,o,n,t,u,keep b o y1,y2⟩
 ·refine wpAny_pure ⟨_,rfl,?_⟩;have z:=h p q1 q2;unfold sortedAll at z;rw [hh1] at z;exact z
end
end KS
namespace L2
open PySem PySem.Spec PyProof.Rows KS
def sle (a b:Str):Prop:=strKind.kle a.cps.toList b.cps.toList
def ple (p q:Str×Str):Prop:=YZ.kle (pk p) (pk q)
theorem Jkr {a b c:Str} (h1:sle a b) (h2:sle b c):sle a c:=KeyOrd.kle_trans h1 h2
theorem JhR {a b:Str} (h1:sle a b) (h2:sle b a):a=b:=Jjj (KeyOrd.kle_antisymm h1 h2)
theorem JhQ (a:Str):sle a a:=KeyOrd.kle_refl _
theorem JfC:∀ {p:Str} {l:List Str},risingS p l=true→(∀ x∈l,sle p x)∧l.Pairwise sle
 | p,[],_=>⟨(fun x hx=>nomatch hx),.nil⟩
 | p,x :: r,h=>by
  have h':(!ltCps x.cps.toList p.cps.toList && risingS x r)=true:=h;rw [Bool.and_eq_true] at h';obtain ⟨a,b⟩:=JfC h'.2;have hx:sle p x:=by
   have z:=h'.1;rw [ltCps_eq] at z;show decide (x.cps.toList < p.cps.toList)=false;simpa using z
  refine ⟨fun y hy=>?_,List.pairwise_cons.mpr ⟨a,b⟩⟩;rcases List.mem_cons.mp hy with rfl | hy
  ·exact hx
  ·exact Jkr hx (a y hy)
theorem Jjy {l:List Str} (h:sortedS l=true):l.Pairwise sle:=by
 cases l with
 | nil=>exact .nil
 | cons x r =>
  obtain ⟨a,b⟩:=JfC (p:=x) (l:=r) h;exact List.pairwise_cons.mpr ⟨a,b⟩
theorem JgT:∀ {us:List Value} {ss:List Str},StrsAre us ss→Jw (ss.map V.str) us
 | _,_,.nil=>.nil
 | _,_,.cons x t h=>.cons ⟨t,rfl⟩ (JgT h)
section
variable {X:Cx}
def JnY (K:PySem.W.Frag):List V→Hp→VK→Prop:=fun xs H Q=>∃ (l:Addr) (ss:List Str),xs=[.ref l]∧Jo K H l (ss.map V.str)∧ss.length < 64∧∀ (p:Addr) (ss':List Str),H p=none→ss'.Perm ss→ss'.Pairwise sle→Q (.ref p) (upd H p (.lst (ss'.map V.str)))
theorem Jbh:Zd X (.builtin "sorted") (JnY X.K):=by
 intro pins s σ H xs us Q I r h;obtain ⟨l,ss,rfl,hl,hz,q⟩:=h;obtain ⟨u,rfl,ru⟩:=Jw.one r;cases ru;obtain ⟨its,rv,pl,_⟩:=I.list hl;have rlen:=rv.length;rw [List.length_map] at rlen;refine sorted_strs pl.isList (Jga rv) (by omega) fun out ss' a1 a2 a3=>?_
 obtain ⟨e,he⟩:=sortedAll_at s.heap its out;have hf:H (s.heap.objs.size + 1)=none:=I.hok.fresh (Nat.le_succ _);have hv:=JgT a1;refine ⟨.ref (s.heap.objs.size + 1),_,I.laid (t':=s.toks) (o:=.lst (ss'.map V.str)) (fun b u=>sortedAll_old) (Nat.le_succ _) ⟨?_,out.toList,e,hv,he⟩,rfl,q _ ss' hf a2 (Jjy a3)⟩;rw [List.length_map,a2.length_eq];exact Nat.le_trans (Nat.le_of_lt hz) (by decide)
def Yq (K:PySem.W.Frag) (H:Hp) (zs:List (V×(Str×Str))):Prop:=∀ z∈zs,∃ a,z.1=.ref a∧JT K H a [.str z.2.1,.str z.2.2]
def JnX (K:PySem.W.Frag):List V→Hp→VK→Prop:=fun xs H Q=>∃ (l:Addr) (zs:List (V×(Str×Str))),xs=[.ref l]∧Jo K H l (zs.map (·.1))∧Yq K H zs∧zs.length < 64∧∀ (p:Addr) (zs':List (V×(Str×Str))),H p=none→zs'.Perm zs→(zs'.map (·.2)).Pairwise ple→Q (.ref p) (upd H p (.lst (zs'.map (·.1))))
theorem Jkc:∀ {vs:List V} {us:List Value},Jw vs us→∀ (p:List Nat),(∀ i∈p,i < vs.length)→Jw (p.map fun i=>vs.getD i .non) (p.map fun i=>us.getD i Value.none):=by
 intro vs us r p
 induction p with
 | nil=>exact fun _=>.nil
 | cons i p ih =>
  intro h;have hi:=h i (List.mem_cons_self ..);obtain ⟨u,hu,ru⟩:=Jcw (i:=i) r (List.getElem?_eq_getElem hi);refine .cons ?_ (ih fun j hj=>h j (List.mem_cons_of_mem _ hj));show JG (vs.getD i .non) (us.getD i Value.none);rw [List.getD_eq_getElem?_getD,List.getD_eq_getElem?_getD,hu,List.getElem?_eq_getElem hi];exact ru
theorem Jkx {α:Type} {l:List α} {d:α} {p:Array Nat} (h:Pm l.length p):(p.toList.map fun i=>l.getD i d).Perm l:=by
 have h1:p.toList.Perm (List.range l.length):=by
  have:=Array.perm_iff_toList_perm.mp h;simpa using this
 have h2:=h1.map fun i=>l.getD i d
 refine h2.trans (List.Perm.of_eq ?_);apply List.ext_getElem?;intro i;rw [List.getElem?_map];by_cases hi:i < l.length
 ·simp [hi]
 ·simp [hi]
theorem Jj4:Zd X (.builtin "sorted") (JnX X.K):=by
 intro pins s σ H xs us Q I r h;obtain ⟨l,zs,rfl,hl,hp,hz,q⟩:=h;obtain ⟨u,rfl,ru⟩:=Jw.one r;cases ru;obtain ⟨its,rv,pl,_⟩:=I.list hl;have rlen:=rv.length;rw [List.length_map] at rlen;refine JhM (ps:=zs.map (·.2)) pl.isList (by rw [List.length_map]; omega) (by omega) (fun i v p hv hq=>?_) fun p pm so=>?_
 ·rw [List.getElem?_map] at hq;obtain ⟨z,hz1,hz2⟩:=Option.map_eq_some_iff.mp hq;obtain ⟨a,ea,ha⟩:=hp z (List.mem_of_getElem? hz1);obtain ⟨u,hu,ru⟩:=Jcw (i:=i) (x:=z.1) rv (by rw [List.getElem?_map,hz1]; rfl);rw [hv] at hu;cases hu;rw [ea] at ru;cases (show v=.ref a from ru);obtain ⟨its',r',⟨o,e,c,n,d⟩,_⟩:=I.tuple ha;cases r' with
  | cons r1 rr =>
   cases rr with
   | cons r2 rr =>
    cases rr;obtain ⟨t,e1⟩:=r1;obtain ⟨t',e2⟩:=r2;subst e1 e2;rw [← hz2];exact ⟨a,rfl,o,n,t,t',e,c,d⟩
 ·obtain ⟨e,he⟩:=sortedAll_at s.heap its (Z4 its p);have hf:H (s.heap.objs.size + 1)=none:=I.hok.fresh (Nat.le_succ _);have pmz:Pm zs.length p:=by rw [rlen]; exact pm
  have hlt:∀ i∈p.toList,i < zs.length:=fun i hi=>by
   have:=(Array.perm_iff_toList_perm.mp pmz).mem_iff.mp hi;simpa using this
  let d:V×(Str×Str):=(.non,dfl)
  have e1:(p.toList.map fun i=>zs.getD i d).map (·.1)=p.toList.map fun i=>(zs.map (·.1)).getD i .non:=by
   rw [List.map_map];refine List.map_congr_left fun i hi=>?_
   have:=hlt i hi;simp [List.getD_eq_getElem?_getD,List.getElem?_eq_getElem this]
  have e2:(p.toList.map fun i=>zs.getD i d).map (·.2)=p.toList.map fun i=>(zs.map (·.2)).getD i dfl:=by
   rw [List.map_map];refine List.map_congr_left fun i hi=>?_
   have:=hlt i hi;simp [List.getD_eq_getElem?_getD,List.getElem?_eq_getElem this]
  have hv:Jw ((p.toList.map fun i=>zs.getD i d).map (·.1)) (Z4 its p).toList:=by
   rw [e1];have z:=Jkc rv p.toList (fun i hi=>by rw [List.length_map]; exact hlt i hi);unfold Z4;rw [List.toList_toArray];exact z
  refine ⟨.ref (s.heap.objs.size + 1),_,I.laid (t':=s.toks) (o:=.lst ((p.toList.map fun i=>zs.getD i d).map (·.1))) (fun b u=>sortedAll_old) (Nat.le_succ _) ⟨?_,(Z4 its p).toList,e,hv,he⟩,rfl,q _ (p.toList.map fun i=>zs.getD i d) hf (Jkx pmz) ?_⟩
  ·rw [List.length_map,List.length_map,Array.length_toList,pmz.size];exact Nat.le_trans (Nat.le_of_lt hz) (by decide)
  ·rw [e2,List.pairwise_map,List.pairwise_iff_getElem];intro i j hi hj hij;rw [Array.length_toList] at hi hj;have z:=so i j (Nat.le_of_lt hij) (by rw [← rlen,← pmz.size]; exact hj);unfold Kp ky at z;rw [Array.getD_eq_getD_getElem?,Array.getD_eq_getD_getElem?,Array.getElem?_eq_getElem hi,Array.getElem?_eq_getElem hj] at z;exact z
theorem Jg9 {P P':Program} {w w':World}:∀ {ks:List JO} {us:List Value},ItemsAre (J6 P w) ks us→ItemsAre (J6 P' w') ks us
 | _,_,.nil=>.nil
 | _,_,.cons h t=>.cons h (Jg9 t)
theorem Jkf {P P':Program} {w w':World} {h:Heap} {ks:List JO} {a:Addr} (hk:HS.TK P w h ks a):HS.TK P' w' h ks a:=let ⟨o,its,n,e,c,d,i⟩:=hk; ⟨o,its,n,e,c,d,Jg9 i⟩
theorem Jo0 {A:Around} {s:Shared} {P:Program} {w:World} {x y:List JO} {a b:Addr} (hu:A.units < cLine) (hx:HS.TK P w s.heap x a) (hy:HS.TK P w s.heap y b):SeqAt.EqAt A s (.ref a) (.ref b) (decide (x=y)) :=
 fun prog w E Q hq=>wpAny_eqBool_tuple hu (Jkf hx) (Jkf hy) hq
open Classical in
def Jpz (K:PySem.W.Frag) (neg:Bool):R2:=fun x y H Q=>∃ a l vs ks kss,x=.ref a∧y=.ref l∧JT K H a (ks.map kV)∧Jo K H l vs∧JdE K H vs kss∧Q (.bl (if neg then !decide (ks∈kss) else decide (ks∈kss))) H
open Classical in
theorem Jhw (hu:X.A.units + 1 < cLine):ZO X (compareOp .NotIn) (Jpz X.K true):=by
 intro pins s σ H x y v u Q I rx ry h;obtain ⟨a,l,vs,ks,kss,rfl,rfl,ha,hl,⟨tl,tt⟩,q⟩:=h;cases rx;cases ry;obtain ⟨its,rv,pl,_⟩:=I.list hl;have rlen:=rv.length;have hk:=Jjr I ha;let e:Value→Bool:=fun u=>match u with
  | .ref b=>decide (HS.TK X.prog X.w s.heap ks b)
  | _=>false
 have at_:∀ (i:Nat) v,its[i]?=some v→∃ k2 b,kss[i]?=some k2∧v=.ref b∧HS.TK X.prog X.w s.heap k2 b:=fun i v hv=>by
  have hi:=(List.getElem?_eq_some_iff.mp hv).1;obtain ⟨x,hx⟩:∃ x,vs[i]?=some x:=⟨vs[i],List.getElem?_eq_getElem (by omega)⟩
  obtain ⟨k2,hk2⟩:∃ k2,kss[i]?=some k2:=⟨kss[i],List.getElem?_eq_getElem (by omega)⟩
  obtain ⟨b,rfl,hb⟩:=tt i x k2 hx hk2;obtain ⟨u,hu1,hu2⟩:=Jcw rv hx;rw [hv] at hu1;cases hu1;cases (show v=.ref b from hu2);exact ⟨k2,b,hk2,rfl,Jjr I hb⟩
 have same:∀ {k2:List JO} {b:Addr},HS.TK X.prog X.w s.heap k2 b→decide (k2=ks)=decide (HS.TK X.prog X.w s.heap ks b):=fun {k2 b} hb=>by
  refine decide_eq_decide.mpr ⟨fun e=>e ▸ hb,fun h=>IsTupleKey.inj hb h⟩
 refine SeqAt.notIn_listAt e pl.isList (fun w hw=>?_) ⟨.bl _,H,I,rfl,?_⟩
 ·obtain ⟨i,hi⟩:=List.mem_iff_getElem?.mp (show w∈its by simpa using hw);obtain ⟨k2,b,_,rfl,hb⟩:=at_ i w hi;have z:=Jo0 (A:=X.A.in1) hu hb hk;rw [same hb] at z;exact z
 ·have e2:its.toArray.any e=decide (ks∈kss):=by
   rw [show its.toArray.any e=its.any e by simp,Bool.eq_iff_iff,List.any_eq_true,decide_eq_true_eq];constructor
   ·rintro ⟨w,hw,he⟩;obtain ⟨i,hi⟩:=List.mem_iff_getElem?.mp hw;obtain ⟨k2,b,h2,rfl,hb⟩:=at_ i w hi;have he':decide (HS.TK X.prog X.w s.heap ks b)=true:=he;rw [← same hb] at he';rw [← of_decide_eq_true he'];exact List.mem_of_getElem? h2
   ·intro hin;obtain ⟨i,hi⟩:=List.mem_iff_getElem?.mp hin;have hlt:=(List.getElem?_eq_some_iff.mp hi).1;obtain ⟨k2,b,h2,h3,hb⟩:=at_ i its[i] (List.getElem?_eq_getElem (by omega));rw [hi] at h2;cases h2;refine ⟨its[i],List.getElem_mem _,?_⟩;rw [h3];exact decide_eq_true hb
  rw [e2];exact q
def JnZ (K:PySem.W.Frag):R2:=fun x y H Q=>∃ a l vs,x=.ref a∧y=.ref l∧Jo K H a vs∧Jo K H l []∧Q (.bl vs.isEmpty) H
theorem Jh9 (hu:X.A.units < cLine):ZO X (compareOp .Eq) (JnZ X.K):=by
 intro pins s σ H x y v u Q I rx ry h;obtain ⟨a,l,vs,rfl,rfl,ha,hl,q⟩:=h;cases rx;cases ry;obtain ⟨its,rv,pl,_⟩:=I.list ha;obtain ⟨its2,rv2,pl2,_⟩:=I.list hl;cases rv2;have rlen:=rv.length;cases vs with
 | nil =>
  cases rv;refine SeqAt.eq_listAt (e:=fun _=>true) pl.isList pl2.isList rfl hu (fun j h1 h2=>absurd h1 (Nat.not_lt_zero _)) ⟨.bl _,H,I,rfl,q⟩
 | cons v r=>exact SeqAt.eq_list_lengthsAt pl.isList pl2.isList (by rw [List.size_toArray,← rlen]; rfl) hu ⟨.bl _,H,I,rfl,q⟩
end
section
variable {tc:TT} {te:TE} {σc:St} {D:Addr} {H1:Hp} {Q:Hp→Prop} {K:PySem.W.Frag}
theorem JdY {a:Addr} {xs:List V} (Pv:Nat→List V→Hp→Prop) (h00:σc[0]?=some none) (h01:σc[1]?=some none) (hq:∀ i ys H,Pv i ys H→Jo K H a xs) (h0:Pv 0 [] (upd H1 D (.lst []))) (hl:∀ i ys H,Pv i ys H→H D=some (.lst ys))
  (hs:∀ i x ys H,xs[i]?=some x→Pv i ys H→∃ b u v,x=.ref b∧JT K H b [u,v]∧tc ((σc.set 0 (some u)).set 1 (some v)) H fun c H3=>if c=true then te ((σc.set 0 (some u)).set 1 (some v)) H3 fun v' H4=>H4 D=some (.lst ys)∧ys.length < sizeLine∧Pv (i + 1) (ys ++ [v']) (upd H4 D (.lst (ys ++ [v']))) else Pv (i + 1) ys H3)
  (hd:∀ ys H,Pv xs.length ys H→Q H):JbR (Itl K a) (Jiq K 2 (JjV (Z7 0) (JjV (Z7 1) Jok))) tc te σc D H1 Q:=by
 refine ⟨fun i m ys H=>m=xs.length - i∧i≤xs.length∧Pv i ys H,⟨xs.length,by simp,Nat.zero_le _,h0⟩,?_⟩;rintro i m ys H ⟨rfl,hi,p⟩;refine ⟨hl _ _ _ p,?_⟩;by_cases hlt:i < xs.length
 ·refine .inr ⟨⟨xs,xs[i],hq _ _ _ p,by simp [hlt]⟩,Pv (i + 1),fun zs H' p'=>⟨xs.length - (i + 1),by omega,rfl,hlt,p'⟩,fun x H' y=>?_⟩;obtain ⟨e,y⟩:=y;subst e;have hx:=y xs (hq _ _ _ p);obtain ⟨b,u,v,rfl,hb,z⟩:=hs i x ys _ hx p;exact ⟨b,[u,v],rfl,hb,rfl,u,[v],rfl,v,[],rfl,rfl,((Jdj.refl σc).set h00).set h01,z⟩
 ·have e:i=xs.length:=by omega
  subst e;exact .inl ⟨⟨xs,hq _ _ _ p,Nat.le_refl _⟩,hd _ _ p⟩
end
end L2
namespace L2
open PySem PySem.Spec PyProof.Rows
structure Md (K:PySem.W.Frag) (C:Addr) (x qual:Str) (st:Stmt) (ps:List Str) (f:Addr) (fd:FuncData):Prop where
 F:Fun K x qual st f fd
 b:JbS K fd ps []
 m:JmB K C x f
theorem Y0 {X:Cx}:Jbj (Y4 X.prog X.w) X E0:=fun pins σ H s e s' I h=>by
 obtain ⟨ea,C,B,H2,_,_,_,_,q⟩:=h;exact q.elim
section
variable {tc:TT} {te:TE} {σc:St} {D:Addr} {H1:Hp} {Q:Hp→Prop} {K:PySem.W.Frag}
theorem Jfr {a:Addr} {xs:List V} (Pv:Nat→List V→Hp→Prop) (h00:σc[0]?=some none) (hq:∀ i ys H,Pv i ys H→JT K H a xs) (h0:Pv 0 [] (upd H1 D (.lst []))) (hl:∀ i ys H,Pv i ys H→H D=some (.lst ys))
  (hs:∀ i x ys H,xs[i]?=some x→Pv i ys H→tc (σc.set 0 (some x)) H fun b H3=>if b=true then te (σc.set 0 (some x)) H3 fun v H4=>H4 D=some (.lst ys)∧ys.length < sizeLine∧Pv (i + 1) (ys ++ [v]) (upd H4 D (.lst (ys ++ [v]))) else Pv (i + 1) ys H3)
  (hd:∀ ys H,Pv xs.length ys H→Q H):JbR (Itt K a) (Z7 0) tc te σc D H1 Q :=
 JeT (n:=xs.length) (X1:=fun i x=>xs[i]?=some x) Pv h00 (fun i H hi ⟨ys,p⟩=>⟨⟨xs,xs[i],hq _ _ _ p,by simp [hi]⟩,fun x H' y=>⟨y.1,y.2 xs (hq _ _ _ p)⟩⟩) (fun H ⟨ys,p⟩=>⟨xs,hq _ _ _ p,Nat.le_refl _⟩) h0 hl (fun i x ys H _ hx p=>hs i x ys H hx p) hd
end
theorem Jfz {α:Type} {R:α→α→Prop} (anti:∀ a b,R a b→R b a→a=b):∀ {l r:List α},l.Perm r→l.Pairwise R→r.Pairwise R→l=r
 | [],r,p,_,_=>(p.symm.eq_nil).symm
 | x :: l,[],p,_,_=>absurd p.eq_nil (by simp)
 | x :: l,y :: r,p,h1,h2=>by
  have hx:=List.pairwise_cons.mp h1;have hy:=List.pairwise_cons.mp h2;have e:x=y:=by
   have m1:x∈y :: r:=p.mem_iff.mp (List.mem_cons_self ..);have m2:y∈x :: l:=p.mem_iff.mpr (List.mem_cons_self ..);rcases List.mem_cons.mp m1 with q | q
   ·exact q
   ·rcases List.mem_cons.mp m2 with q' | q'
    ·exact q'.symm
    ·exact anti _ _ (hx.1 _ q') (hy.1 _ q)
  subst e;rw [Jfz anti (List.perm_cons _ |>.mp p) hx.2 hy.2]
end L2
namespace L2
open PySem PySem.Spec PyProof.Rows
section
variable {X:Cx}
theorem Ji8 {ns:List Int} {us:List Value} (r:Jw (ns.map V.int) us):∃ xs:Array (Int×Tok),us.toArray=intItems xs∧ns=xs.toList.map (·.1):=by
 induction ns generalizing us with
 | nil=>cases r; exact ⟨#[],by simp [intItems],rfl⟩
 | cons n ns ih =>
  cases r with
  | cons r1 r2 =>
   obtain ⟨t,rfl⟩:=r1;obtain ⟨xs,h1,h2⟩:=ih r2;refine ⟨((n,t) :: xs.toList).toArray,?_,by rw [h2]; rfl⟩;have e:∀ {a b:List Value},a.toArray=b.toArray→a=b:=fun h=>by simpa using h
   unfold intItems at h1 ⊢;rw [List.map_toArray];have h3:=congrArg Array.toList h1;rw [Array.toList_map] at h3;simp only [List.map_cons];rw [← h3]
def JoS (K:PySem.W.Frag):List V→Hp→VK→Prop:=fun xs H Q=>∃ (l:Addr) (ns:List Int),xs=[.ref l]∧Jo K H l (ns.map V.int)∧0 < ns.length∧∀ M,M∈ns→(∀ a∈ns,a≤M)→Q (.int M) H
def JoR (K:PySem.W.Frag):List V→Hp→VK→Prop:=fun xs H Q=>∃ (l:Addr) (ns:List Int),xs=[.ref l]∧Jo K H l (ns.map V.int)∧0 < ns.length∧∀ M,M∈ns→(∀ a∈ns,M≤a)→Q (.int M) H
theorem Jlc (hc:X.calm=true):Zd X (.builtin "max") (JoS X.K):=by
 intro pins s σ H xs us Q I r h;obtain ⟨l,ns,rfl,hl,hne,q⟩:=h;obtain ⟨u,rfl,ru⟩:=Jw.one r;cases ru;obtain ⟨its,rv,pl,_⟩:=I.list hl;obtain ⟨zs,e,rfl⟩:=Ji8 rv;have hsz:0 < zs.size:=by rw [List.length_map,Array.length_toList] at hne; exact hne
 have hl':=pl.isList;rw [e] at hl';refine max_intList (I.ok.hd hc) hl' hsz fun v h' tk hv hk=>?_
 obtain ⟨t,rfl⟩:=intItems_at hv;obtain ⟨h1,h2⟩:=argBest_gt (numAt zs) (zs.size - 1);refine ⟨.int (numAt zs _),H,I.kept hk,⟨_,rfl⟩,q _ ?_ fun a ha=>?_⟩
 ·rw [numAt_eq]; exact getD_mem (by rw [List.length_map,Array.length_toList]; omega)
 ·obtain ⟨j,hj,rfl⟩:=mem_getD ha;rw [List.length_map,Array.length_toList] at hj;rw [← numAt_eq]; exact h2 j (by omega)
theorem Jla (hc:X.calm=true):Zd X (.builtin "min") (JoR X.K):=by
 intro pins s σ H xs us Q I r h;obtain ⟨l,ns,rfl,hl,hne,q⟩:=h;obtain ⟨u,rfl,ru⟩:=Jw.one r;cases ru;obtain ⟨its,rv,pl,_⟩:=I.list hl;obtain ⟨zs,e,rfl⟩:=Ji8 rv;have hsz:0 < zs.size:=by rw [List.length_map,Array.length_toList] at hne; exact hne
 have hl':=pl.isList;rw [e] at hl';refine min_intList (I.ok.hd hc) hl' hsz fun v h' tk hv hk=>?_
 obtain ⟨t,rfl⟩:=intItems_at hv;obtain ⟨h1,h2⟩:=argBest_lt (numAt zs) (zs.size - 1);refine ⟨.int (numAt zs _),H,I.kept hk,⟨_,rfl⟩,q _ ?_ fun a ha=>?_⟩
 ·rw [numAt_eq]; exact getD_mem (by rw [List.length_map,Array.length_toList]; omega)
 ·obtain ⟨j,hj,rfl⟩:=mem_getD ha;rw [List.length_map,Array.length_toList] at hj;rw [← numAt_eq]; exact h2 j (by omega)
end
end L2
namespace L2
def Jal:List Int→Int
 | []=>0
 | [a]=>a
 | a :: b :: l=>if a≤Jal (b :: l) then Jal (b :: l) else a
def Jak:List Int→Int
 | []=>0
 | [a]=>a
 | a :: b :: l=>if Jak (b :: l)≤a then Jak (b :: l) else a
theorem Jeh:∀ {l:List Int},l≠[]→Jal l∈l∧∀ x∈l,x≤Jal l
 | [],h=>absurd rfl h
 | [a],_=>⟨List.mem_singleton.mpr rfl,fun x hx=>by rw [List.mem_singleton.mp hx]; exact Int.le_refl _⟩
 | a :: b :: l,_=>by
  obtain ⟨h1,h2⟩:=Jeh (l:=b :: l) (by simp);show (if a≤Jal (b :: l) then Jal (b :: l) else a)∈_∧∀ x∈_,x≤(if a≤Jal (b :: l) then Jal (b :: l) else a);by_cases h:a≤Jal (b :: l)
  ·rw [if_pos h];refine ⟨List.mem_cons_of_mem _ h1,fun x hx=>?_⟩;rcases List.mem_cons.mp hx with q | q
   ·rw [q]; exact h
   ·exact h2 x q
  ·rw [if_neg h];refine ⟨List.mem_cons_self ..,fun x hx=>?_⟩;rcases List.mem_cons.mp hx with q | q
   ·rw [q]; exact Int.le_refl _
   ·have:=h2 x q; omega
theorem Jeg:∀ {l:List Int},l≠[]→Jak l∈l∧∀ x∈l,Jak l≤x
 | [],h=>absurd rfl h
 | [a],_=>⟨List.mem_singleton.mpr rfl,fun x hx=>by rw [List.mem_singleton.mp hx]; exact Int.le_refl _⟩
 | a :: b :: l,_=>by
  obtain ⟨h1,h2⟩:=Jeg (l:=b :: l) (by simp);show (if Jak (b :: l)≤a then Jak (b :: l) else a)∈_∧∀ x∈_,(if Jak (b :: l)≤a then Jak (b :: l) else a)≤x;by_cases h:Jak (b :: l)≤a
  ·rw [if_pos h];refine ⟨List.mem_cons_of_mem _ h1,fun x hx=>?_⟩;rcases List.mem_cons.mp hx with q | q
   ·rw [q]; exact h
   ·exact h2 x q
  ·rw [if_neg h];refine ⟨List.mem_cons_self ..,fun x hx=>?_⟩;rcases List.mem_cons.mp hx with q | q
   ·rw [q]; exact Int.le_refl _
   ·have:=h2 x q; omega
theorem Jno {l:List Int} {m:Int} (h1:m∈l) (h2:∀ x∈l,x≤m):m=Jal l:=by
 have hne:l≠[]:=fun e=>by rw [e] at h1; cases h1
 obtain ⟨h3,h4⟩:=Jeh hne;have:=h2 _ h3;have:=h4 _ h1;omega
theorem Jnm {l:List Int} {m:Int} (h1:m∈l) (h2:∀ x∈l,m≤x):m=Jak l:=by
 have hne:l≠[]:=fun e=>by rw [e] at h1; cases h1
 obtain ⟨h3,h4⟩:=Jeg hne;have:=h2 _ h3;have:=h4 _ h1;omega
section
variable {α:Type}
def need (W:α→List α) (g:α→Bool) (c:Int):Nat→α→Bool→Int
 | 0,p,_=>if g p=true then 0 else c + 1
 | t + 1,p,r=>if g p=true then 0 else if (W p).isEmpty=true then c + 1 else
   if r=true then (if (Jak ((W p).map fun w=>need W g c t w false) + Jal ((W p).map fun w=>need W g c t w true)) / 2 > Jak ((W p).map fun w=>need W g c t w false) then (Jak ((W p).map fun w=>need W g c t w false) + Jal ((W p).map fun w=>need W g c t w true)) / 2 else Jak ((W p).map fun w=>need W g c t w false))
   else (if (Jak ((W p).map fun w=>need W g c t w false) + Jal ((W p).map fun w=>need W g c t w true) + 1) / 2 < Jal ((W p).map fun w=>need W g c t w true) then (Jak ((W p).map fun w=>need W g c t w false) + Jal ((W p).map fun w=>need W g c t w true) + 1) / 2 else Jal ((W p).map fun w=>need W g c t w true))
def loA (W:α→List α) (g:α→Bool) (c:Int) (t:Nat) (p:α) (r:Bool):Int:=Jak ((W p).map fun w=>need W g c t w r)
def hiB (W:α→List α) (g:α→Bool) (c:Int) (t:Nat) (p:α) (r:Bool):Int:=Jal ((W p).map fun w=>need W g c t w r)
variable {W:α→List α} {g:α→Bool} {c:Int} {t:Nat} {p:α} {r:Bool}
theorem Jef (h:g p=true):need W g c t p r=0:=by
 cases t with
 | zero=>show (if g p=true then 0 else c + 1)=0; rw [if_pos h]
 | succ t=>unfold need; rw [if_pos h]
theorem Jee (h:g p=false) (hw:W p=[]):need W g c t p r=c + 1:=by
 cases t with
 | zero=>show (if g p=true then 0 else c + 1)=_; rw [if_neg (by rw [h]; exact Bool.false_ne_true)]
 | succ t=>unfold need; rw [if_neg (by rw [h]; exact Bool.false_ne_true),if_pos (by rw [hw]; rfl)]
theorem JkG (h:g p=false):need W g c 0 p r=c + 1:=by
 show (if g p=true then 0 else c + 1)=_; rw [if_neg (by rw [h]; exact Bool.false_ne_true)]
theorem Jha {l:List α} (h:l≠[]):¬ (l.isEmpty=true):=fun e=>h (List.isEmpty_iff.mp e)
theorem JkI (h:g p=false) (hw:W p≠[]):need W g c (t + 1) p true=if (loA W g c t p false + hiB W g c t p true) / 2 > loA W g c t p false then (loA W g c t p false + hiB W g c t p true) / 2 else loA W g c t p false:=by
 unfold need loA hiB; rw [if_neg (by rw [h]; exact Bool.false_ne_true),if_neg (Jha hw),if_pos rfl]
theorem JkH (h:g p=false) (hw:W p≠[]):need W g c (t + 1) p false=if (loA W g c t p false + hiB W g c t p true + 1) / 2 < hiB W g c t p true then (loA W g c t p false + hiB W g c t p true + 1) / 2 else hiB W g c t p true:=by
 unfold need loA hiB; rw [if_neg (by rw [h]; exact Bool.false_ne_true),if_neg (Jha hw),if_neg Bool.false_ne_true]
theorem Jmg (hw:W p≠[]):(∃ w∈W p,loA W g c t p r=need W g c t w r)∧∀ w∈W p,loA W g c t p r≤need W g c t w r:=by
 have hne:(W p).map (fun w=>need W g c t w r)≠[]:=fun e=>hw (List.map_eq_nil_iff.mp e)
 obtain ⟨h1,h2⟩:=Jeg hne;obtain ⟨w,h3,h4⟩:=List.mem_map.mp h1;exact ⟨⟨w,h3,h4.symm⟩,fun w hw=>h2 _ (List.mem_map.mpr ⟨w,hw,rfl⟩)⟩
theorem Jmk (hw:W p≠[]):(∃ w∈W p,hiB W g c t p r=need W g c t w r)∧∀ w∈W p,need W g c t w r≤hiB W g c t p r:=by
 have hne:(W p).map (fun w=>need W g c t w r)≠[]:=fun e=>hw (List.map_eq_nil_iff.mp e)
 obtain ⟨h1,h2⟩:=Jeh hne;obtain ⟨w,h3,h4⟩:=List.mem_map.mp h1;exact ⟨⟨w,h3,h4.symm⟩,fun w hw=>h2 _ (List.mem_map.mpr ⟨w,hw,rfl⟩)⟩
theorem JnV:∀ (t:Nat) (p:α),need W g c t p true≤need W g c t p false + 1∧need W g c t p false≤need W g c t p true + 1
 | 0,p=>by
  show (if g p=true then 0 else c + 1)≤(if g p=true then 0 else c + 1) + 1∧_;exact ⟨by omega,by show (if g p=true then 0 else c + 1)≤(if g p=true then 0 else c + 1) + 1; omega⟩
 | t + 1,p=>by
  cases hg:g p with
  | true=>rw [Jef hg,Jef hg]; omega
  | false =>
   by_cases hw:W p=[]
   ·rw [Jee hg hw,Jee hg hw]; omega
   ·obtain ⟨⟨w1,m1,e1⟩,_⟩:=Jmg (W:=W) (g:=g) (c:=c) (t:=t) (p:=p) (r:=false) hw;obtain ⟨_,l2⟩:=Jmk (W:=W) (g:=g) (c:=c) (t:=t) (p:=p) (r:=true) hw;have b1:=JnV t w1;have b2:=l2 w1 m1;rw [← e1] at b1;rw [JkI hg hw,JkH hg hw];constructor <;> split <;> split <;> omega
def Jau (W:α→List α) (g:α→Bool) (c:Int) (t:Nat) (p:α) (k:Int) (r h:Bool):Option α:=(W p).find? fun w=>decide (need W g c t w r≤k) == h
def after (k:Int) (r:Bool) (b a:Int):Bool×Int×Bool :=
 if b > a then (!r,(if r then k + b else k - b),r) else if a > b then (r,(if r then k - a else k + a),r) else (r,(if r then k - a else k + a),!r)
def JaZ (W:α→List α) (g:α→Bool) (c:Int) (t:Nat) (p:α) (k:Int) (r:Bool) (b a:Int):Bool :=
 (Jau W g c t p (after k r b a).2.1 (after k r b a).2.2 (after k r b a).1).isSome == ((after k r b a).1 == r)
def own (c k:Int) (r:Bool):Int:=if r then k else c - k
def Jc5 (W:α→List α) (g:α→Bool) (c:Int) (t:Nat) (p:α) (k:Int) (r:Bool) (b:Int):Option Int :=
 if JaZ W g c t p k r b 0=true then some 0 else if b≤own c k r∧JaZ W g c t p k r b b=true then some b else none
def JiD (W:α→List α) (g:α→Bool) (c:Int) (t:Nat) (p:α) (k:Int) (r:Bool):Int :=
 if r then (if k - loA W g c t p false + 1 > 0 then k - loA W g c t p false + 1 else 0) else (if hiB W g c t p true - k > 0 then hiB W g c t p true - k else 0)
theorem Jlk {k b:Int}:Jc5 W g c t p k r b=none↔¬ JaZ W g c t p k r b 0=true∧¬ (b≤own c k r∧JaZ W g c t p k r b b=true):=by
 unfold Jc5;by_cases h0:JaZ W g c t p k r b 0=true
 ·rw [if_pos h0]; exact ⟨fun h=>(nomatch h),fun h=>absurd h0 h.1⟩
 ·rw [if_neg h0];by_cases h1:b≤own c k r∧JaZ W g c t p k r b b=true
  ·rw [if_pos h1]; exact ⟨fun h=>(nomatch h),fun h=>absurd h1 h.2⟩
  ·rw [if_neg h1]; exact ⟨fun _=>⟨h0,h1⟩,fun _=>rfl⟩
end
end L2
namespace L2
open PySem PySem.Spec PyProof.Rows
theorem Jm {K:PySem.W.Frag} {f:Addr} {x q:Str} {st:Stmt} (h:Yg K f q=Yi x q st):Fun K x q st f (JU K f):=by
 obtain ⟨oc,od,kV,doc,pm,an,cdv,ct,osl,h1,h2,h3,h4⟩:=JkE h;exact ⟨⟨oc,od,kV,doc,pm,an,cdv,ct,osl,h1,h2,h3⟩,h4⟩
theorem YQ {K:PySem.W.Frag} {f:Addr} {x q:Str} {st:Stmt} (h:Yg K f q=Yi x q st):PySem.W.keepIn K (.ref f)=true:=(Jm h).kp
def JjL:Sum Int Str→V
 | .inl i=>.int i
 | .inr x=>.str x
theorem Jk0 {v:Value} {x:Sum Int Str} (h:JdV v=some x):JG (JjL x) v:=by
 unfold JdV at h;split at h
 ·cases h; exact ⟨_,rfl⟩
 ·cases h; exact ⟨_,rfl⟩
 ·cases h
theorem JfS:∀ {us:List Value} {xs:List (Sum Int Str)},us.map JdV=xs.map some→Jw (xs.map JjL) us
 | [],[],_=>.nil
 | u :: us,x :: xs,h=>by
  rw [List.map_cons,List.map_cons,List.cons.injEq] at h;exact .cons (Jk0 h.1) (JfS h.2)
 | [],_ :: _,h=>by cases h
 | _ :: _,[],h=>by cases h
theorem Job {K:PySem.W.Frag} {n:Str} {xs:List (Sum Int Str)} (h:obT K n=some (true,xs.map some)) (H:Hp):JT K H (Ji K n) (xs.map JjL):=by
 unfold obT at h;split at h
 ·rename_i its m sl e;have h:=Option.some.inj h;have h1:decide (its.size≤1000)=true:=congrArg Prod.fst h;have h2:its.toList.map JdV=xs.map some:=congrArg Prod.snd h;exact .inr ⟨_,its,m,e,rfl,rfl,Nat.le_trans (of_decide_eq_true h1) (by decide),JfS h2⟩
 ·cases h
theorem mgV {K:PySem.W.Frag} {h:Heap} {mg:Str→Option Value} {n:Str} {i:Int} (X:K.In h) (G:h.Ns mainGlobals mg) (e:obV K n=some (.inl i)):∃ u,mg n=some u∧JG (.int i) u:=by
 obtain ⟨t,z⟩:=Jnj e;exact ⟨_,PySem.W.mg_of X G z,⟨_,rfl⟩⟩
theorem Jlq {l:PySem.W.OpenLaw} {n k:Nat} {q:Program} {loose:List Str} {XP:(Str→Option Value)→Heap→Prop} {YP:World→Heap→Prop} {d:DefRec} {C:PySem.W.Frag→Prop} {CX:CXT} {sp:PySem.W.Frag→Sp} {x:Str}
  (hn:l.most=some n) (hn2:n≤sizeLine) (hdf:d.params.defaults=[]) (hr:YD k callerA)
  (hY:∀ (w:World) (h:Heap),YP w h→∃ K:PySem.W.Frag,K.In h∧C K)
  (F:∀ (w:World) (K:PySem.W.Frag) (mg:Str→Option Value) (fa:Addr) (h:Heap),C K→K.In h→h.Ns mainGlobals mg→mg d.name=some (.ref fa) →
   ∃ fd:FuncData,(∀ (s:Shared) (u:Value),BindsTo s fd ⟨[u],[]⟩ [(x,u)]) ∧
    ∀ base:Heap,K.In base→base.Ns mainGlobals mg→JM l.prog w K mg base CX k fa fd [x] (sp K))
  (hsp:∀ (K:PySem.W.Frag) (H:Hp) (a:Addr) (ns:List Int),ns.length≤n→JmA H→Jo K H a (ns.map V.int)→sp K [.ref a] H (fun v _=>v=.bl true) fun _ _ _=>False)
  (hCX:∀ (H:Hp) (s:Shared) (e:Value) (s':Shared),CX [] H s (fun _ _ _=>False) e s'→False) :
  PySem.W.WalkO q loose XP YP l.row.toRowW d [] (fun f vs=>PySem.call f vs):=by
 refine Att.JiU hn hdf fun w s₀ s₁ mg mb fa o pm cd doc a vs ns G Y ho hd hcd hmg hobj hints hlen hg=>?_
 obtain ⟨K,KX,hC⟩:=hY w _ Y;obtain ⟨fd,hb,hF⟩:=F w K mg fa _ hC KX G.T.g hmg;exact Jmh KX G.T.g G.T.b G.T.builtins G.T.nolimit hg hobj hints (Nat.le_trans hlen hn2) hr hF hb (fun H hO hS=>hsp K H a ns hlen hO hS) fun H e s'=>hCX H s₁ e s'
end L2
namespace L2
open PySem PySem.Spec PyProof.Rows
theorem cxK {CX:CXT} {P:Program} {w:World} {K:PySem.W.Frag} {mg:Str→Option Value} {base:Heap} {N:List Str} {q:Str} {sc:Scope} {f:Addr} {cd:Value} {A:Around} {o:List Env} {s:Shared} {H:Hp} {E:XK}:(Zt CX P w K mg base N q sc f cd A o s H E).nox.K=K:=rfl
theorem Jes {CX:CXT} {P:Program} {w:World} {K:PySem.W.Frag} {mg:Str→Option Value} {base:Heap} {N:List Str} {q:Str} {sc:Scope} {f:Addr} {cd:Value} {A:Around} {o:List Env} {s:Shared} {H:Hp} {E:XK}:(Zt CX P w K mg base N q sc f cd A o s H E).K=K:=rfl
end L2
set_option maxHeartbeats 1600000
namespace Pf
open PySem L2
theorem JhS:Jx ["text"] ["text"] (Jl JbL):=⟨rfl,rfl,rfl,by decide +kernel,rfl,by decide +kernel,by decide +kernel⟩
theorem Jht:Jx ["hand"] ["hand"] (Jl JcI):=⟨rfl,rfl,rfl,by decide +kernel,rfl,by decide +kernel,by decide +kernel⟩
theorem JlS:Jx ["hand"] ["hand"] (Jl Jgl):=⟨rfl,rfl,rfl,by decide +kernel,rfl,by decide +kernel,by decide +kernel⟩
theorem Jge:Jx ["number", "most"] ["number", "most"] (Jl JbX):=⟨rfl,rfl,rfl,by decide +kernel,rfl,by decide +kernel,by decide +kernel⟩
theorem Jgf:Jx ["north", "south"] ["north", "south"] (Jl Jb0):=⟨rfl,rfl,rfl,by decide +kernel,rfl,by decide +kernel,by decide +kernel⟩
theorem JhT:Jx ["named", "coins"] ["named", "coins"] (Jl Jdk):=⟨rfl,rfl,rfl,by decide +kernel,rfl,by decide +kernel,by decide +kernel⟩
theorem JlU:Jx ["board", "place", "turns"] ["board", "place", "turns"] (Jl Jgn):=⟨rfl,rfl,rfl,by decide +kernel,rfl,by decide +kernel,by decide +kernel⟩
theorem JiM:Jx ["hand", "north", "south"] ["hand", "north", "south"] (Jl JdN):=⟨rfl,rfl,rfl,by decide +kernel,rfl,by decide +kernel,by decide +kernel⟩
theorem JnS:Jx ["hand", "price", "north", "south", "ribbon"] ["hand", "price", "north", "south", "ribbon"] (Jl JjE):=⟨rfl,rfl,rfl,by decide +kernel,rfl,by decide +kernel,by decide +kernel⟩
theorem JgZ:Jx ["north", "south", "ribbon", "bid", "answer", "bidder"] ["north", "south", "ribbon", "bid", "answer"] (Jl Je8):=⟨rfl,rfl,rfl,by decide +kernel,rfl,by decide +kernel,by decide +kernel⟩
theorem Jd6:Jx ["self", "board", "coins", "turns", "left"] ["self", "board", "coins", "turns"] (Jl Jdl):=⟨rfl,rfl,rfl,by decide +kernel,rfl,by decide +kernel,by decide +kernel⟩
theorem Zz:Jx ["self", "turns", "row", "place", "ribbon"] ["self", "turns"] (Jl JaG):=⟨rfl,rfl,rfl,by decide +kernel,rfl,by decide +kernel,by decide +kernel⟩
theorem Z3:Jx ["self", "place", "turns", "ribbon", "victor", "leading", "led"] ["self", "place", "turns", "ribbon"] (Jl Jbr):=⟨rfl,rfl,rfl,by decide +kernel,rfl,by decide +kernel,by decide +kernel⟩
theorem ZB:Jx ["self", "place", "turns", "behind"] ["self", "place", "turns"] (Jl Yn):=⟨rfl,rfl,rfl,by decide +kernel,rfl,by decide +kernel,by decide +kernel⟩
theorem ZA:Jx ["self", "place", "turns", "behind"] ["self", "place", "turns"] (Jl Ym):=⟨rfl,rfl,rfl,by decide +kernel,rfl,by decide +kernel,by decide +kernel⟩
theorem Jd1:Jx ["self", "place", "turns", "north", "ribbon"] ["self", "place", "turns", "north", "ribbon"] (Jl Jae):=⟨rfl,rfl,rfl,by decide +kernel,rfl,by decide +kernel,by decide +kernel⟩
theorem Jgh:Jx ["self", "place", "turns", "north", "ribbon"] ["self", "place", "turns", "north", "ribbon"] (Jl Jb2):=⟨rfl,rfl,rfl,by decide +kernel,rfl,by decide +kernel,by decide +kernel⟩
theorem JdZ:Jx ["self", "place", "turns", "ribbon", "need"] ["self", "place", "turns", "ribbon"] (Jl JcJ):=⟨rfl,rfl,rfl,by decide +kernel,rfl,by decide +kernel,by decide +kernel⟩
theorem Jdv:Jx ["self", "place", "turns", "north", "ribbon", "victor"] ["self", "place", "turns", "north", "ribbon"] (Jl Jb3):=⟨rfl,rfl,rfl,by decide +kernel,rfl,by decide +kernel,by decide +kernel⟩
theorem JaE:Jx ["self", "place", "turns", "north", "ribbon", "bid", "south", "answer"] ["self", "place", "turns", "north", "ribbon", "bid"] (Jl JaS):=⟨rfl,rfl,rfl,by decide +kernel,rfl,by decide +kernel,by decide +kernel⟩
theorem ZW:Jx ["self", "place", "turns", "settled", "holder", "leader", "step"] ["self", "place", "turns", "settled", "holder"] (Jl Jaf):=⟨rfl,rfl,rfl,by decide +kernel,rfl,by decide +kernel,by decide +kernel⟩
theorem Jdb:Jx ["self", "place", "turns", "north", "ribbon", "hand", "way"] ["self", "place", "turns", "north", "ribbon", "hand"] (Jl Jbq):=⟨rfl,rfl,rfl,by decide +kernel,rfl,by decide +kernel,by decide +kernel⟩
theorem Jd5:Jx ["things"] ["things"] (Jl JaF):=⟨rfl,rfl,rfl,by decide +kernel,rfl,by decide +kernel,by decide +kernel⟩
theorem Jgg:Jx ["place", "places"] ["place", "places"] (Jl Jb1):=⟨rfl,rfl,rfl,by decide +kernel,rfl,by decide +kernel,by decide +kernel⟩
theorem Jda:Jx ["places", "place"] ["places"] (Jl Jbo):=⟨rfl,rfl,rfl,by decide +kernel,rfl,by decide +kernel,by decide +kernel⟩
theorem Jdt:Jx ["lanes", "places", "lane"] ["lanes", "places"] (Jl JbY):=⟨rfl,rfl,rfl,by decide +kernel,rfl,by decide +kernel,by decide +kernel⟩
theorem Jdu:Jx ["goals", "places", "goal"] ["goals", "places"] (Jl JbZ):=⟨rfl,rfl,rfl,by decide +kernel,rfl,by decide +kernel,by decide +kernel⟩
theorem Jhv:Jx ["self", "places", "lanes", "goals"] ["self", "places", "lanes", "goals"] (Jl JcK):=⟨rfl,rfl,rfl,by decide +kernel,rfl,by decide +kernel,by decide +kernel⟩
theorem JdL:Jx ["self", "place"] ["self", "place"] (Jl ZX):=⟨rfl,rfl,rfl,by decide +kernel,rfl,by decide +kernel,by decide +kernel⟩
theorem Jhu:Jx ["self", "place"] ["self", "place"] (Jl Ja0):=⟨rfl,rfl,rfl,by decide +kernel,rfl,by decide +kernel,by decide +kernel⟩
theorem Je7:Jx ["self", "place"] ["self", "place"] (Jl Ja1):=⟨rfl,rfl,rfl,by decide +kernel,rfl,by decide +kernel,by decide +kernel⟩
theorem JoL:Jx ["_law_script", "_law_k"] ["_law_script", "_law_k"] (Jl JlW):=⟨rfl,rfl,rfl,by decide +kernel,rfl,by decide +kernel,by decide +kernel⟩
theorem JcF:Jx ["_law_cell", "_law_many", "_law_base", "_law_rest", "_law_mixed", "_law_found", "_law_k"] ["_law_cell", "_law_many", "_law_base"] (Jl JjD):=⟨rfl,rfl,rfl,by decide +kernel,rfl,by decide +kernel,by decide +kernel⟩
theorem JlQ:Jx ["_law_found"] ["_law_found"] (Jl Jgi):=⟨rfl,rfl,rfl,by decide +kernel,rfl,by decide +kernel,by decide +kernel⟩
theorem YJ:Jx ["_law_cell", "_law_many", "_law_letters", "_law_free", "_law_found", "_law_k", "_law_places", "_law_size", "_law_head", "_law_more", "_law_name"] ["_law_cell", "_law_many"] (Jl JeH):=⟨rfl,rfl,rfl,by decide +kernel,rfl,by decide +kernel,by decide +kernel⟩
theorem Zk:Jx ["_law_cell", "_law_draw", "_law_size", "_law_pairs_here", "_law_many", "_law_k", "_law_ends", "_law_pair"] ["_law_cell", "_law_draw", "_law_size"] (Jl Jgk):=⟨rfl,rfl,rfl,by decide +kernel,rfl,by decide +kernel,by decide +kernel⟩
theorem JcG:Jx ["_law_cell", "_law_kind", "_law_size", "_law_marks", "_law_found"] ["_law_cell", "_law_kind", "_law_size"] (Jl JeI):=⟨rfl,rfl,rfl,by decide +kernel,rfl,by decide +kernel,by decide +kernel⟩
theorem Zy:Jx ["_law_script", "_law_at_here", "_law_cell", "_law_size", "_law_names_here", "_law_kind", "_law_pairs_here", "_law_goals_here", "_law_lanes"] ["_law_script", "_law_at_here"] (Jl JcH):=⟨rfl,rfl,rfl,by decide +kernel,rfl,by decide +kernel,by decide +kernel⟩
theorem JlR:Jx ["_law_cell"] ["_law_cell"] (Jl Jgj):=⟨rfl,rfl,rfl,by decide +kernel,rfl,by decide +kernel,by decide +kernel⟩
theorem Jna:Jx ["_law_cell"] ["_law_cell"] (Jl JhV):=⟨rfl,rfl,rfl,by decide +kernel,rfl,by decide +kernel,by decide +kernel⟩
theorem Jm9:Jx ["_law_ground_here", "_law_place"] ["_law_ground_here", "_law_place"] (Jl JfB):=⟨rfl,rfl,rfl,by decide +kernel,rfl,by decide +kernel,by decide +kernel⟩
theorem JnR:Jx ["_law_ground_here", "_law_place", "_law_left_here"] ["_law_ground_here", "_law_place", "_law_left_here"] (Jl JjC):=⟨rfl,rfl,rfl,by decide +kernel,rfl,by decide +kernel,by decide +kernel⟩
theorem JlT:Jx ["_law_found", "_law_due"] ["_law_found", "_law_due"] (Jl Jgm):=⟨rfl,rfl,rfl,by decide +kernel,rfl,by decide +kernel,by decide +kernel⟩
theorem JeG:Jx ["_law_ground_here", "_law_cell", "_law_names_here", "_law_k", "_law_place"] ["_law_ground_here", "_law_cell"] (Jl JhU):=⟨rfl,rfl,rfl,by decide +kernel,rfl,by decide +kernel,by decide +kernel⟩
theorem Jav:Jx ["_law_ground_here", "_law_names_here", "_law_row_here", "_law_order", "_law_new", "_law_k", "_law_lanes"] ["_law_ground_here", "_law_names_here"] (Jl JaW):=⟨rfl,rfl,rfl,by decide +kernel,rfl,by decide +kernel,by decide +kernel⟩
theorem ZP:Jx ["_law_books", "_law_places", "_law_left_here", "_law_north", "_law_ribbon", "_law_bid", "_law_new", "_law_sides", "_law_few", "_law_bids", "_law_replies", "_law_pair", "_law_hand", "_law_due"] ["_law_books", "_law_places", "_law_left_here", "_law_north", "_law_ribbon", "_law_bid", "_law_new"] (Jl Jbp):=⟨rfl,rfl,rfl,by decide +kernel,rfl,by decide +kernel,by decide +kernel⟩
theorem Zx:Jx ["_law_script", "_law_ground_here", "_law_other_ground", "_law_total_here", "_law_most", "_law_books", "_law_g", "_law_k", "_law_place", "_law_places", "_law_left_here", "_law_north", "_law_ribbon", "_law_bid"] ["_law_script"] (Jl JdM):=⟨rfl,rfl,rfl,by decide +kernel,rfl,by decide +kernel,by decide +kernel⟩
set_option genInjectivity false in
set_option genSizeOf false in
structure Txt (K:PySem.W.Frag) (mg:Str→Option Value) where
 Jdn:Addr
 JcW:FuncData
 Jdq:Df K mg "good_name" JbL ["text"] Jdn JcW
 JcZ:Addr
 Jb6:FuncData
 Jas:Df K mg "check_hand" JcI ["hand"] JcZ Jb6
 JgF:Addr
 Jfi:FuncData
 JeV:Df K mg "other" Jgl ["hand"] JgF Jfi
 Jca:Addr
 Jby:FuncData
 Za:Df K mg "check_up_to" JbX ["number", "most"] Jca Jby
 Jcd:Addr
 JbB:FuncData
 Jck:Df K mg "check_coins" Jb0 ["north", "south"] Jcd JbB
 Jdo:Addr
 JcX:FuncData
 JaM:Df K mg "check_bid" Jdk ["named", "coins"] Jdo JcX
 JgJ:Addr
 Jfm:FuncData
 JcD:Df K mg "ended" Jgn ["board", "place", "turns"] JgJ Jfm
 JdX:Addr
 Jdm:FuncData
 JaA:Df K mg "coins_of" JdN ["hand", "north", "south"] JdX Jdm
 JjZ:Addr
 Jiu:FuncData
 Jf7:Df K mg "pay" JjE ["hand", "price", "north", "south", "ribbon"] JjZ Jiu
 Jfo:Addr
 Jeo:FuncData
 Jfv:Df K mg "settle" Je8 ["north", "south", "ribbon", "bid", "answer"] Jfo Jeo
 JaI:Addr
 Jao:FuncData
 Zb:Df K mg "check_each_once" JaF ["things"] JaI Jao
 Jce:Addr
 JbC:FuncData
 Zv:Df K mg "check_among" Jb1 ["place", "places"] Jce JbC
 JbF:Addr
 Jbc:FuncData
 JbJ:Df K mg "check_places" Jbo ["places"] JbF Jbc
 Jcb:Addr
 Jbz:FuncData
 Jci:Df K mg "check_lanes" JbY ["lanes", "places"] Jcb Jbz
 Jcc:Addr
 JbA:FuncData
 Jcj:Df K mg "check_goals" JbZ ["goals", "places"] Jcc JbA
 Jmp:Addr
 JjW:FuncData
 JbK:Df K mg "_law_at" JlW ["_law_script", "_law_k"] Jmp JjW
 JjY:Addr
 Jit:FuncData
 Jf6:Df K mg "_law_row" JjD ["_law_cell", "_law_many", "_law_base"] JjY Jit
 JgC:Addr
 Jff:FuncData
 JgN:Df K mg "_law_whole" Jgi ["_law_found"] JgC Jff
 JgG:Addr
 Jfj:FuncData
 JeW:Df K mg "_law_names" JeH ["_law_cell", "_law_many"] JgG Jfj
 JgE:Addr
 Jfh:FuncData
 JgP:Df K mg "_law_pairs" Jgk ["_law_cell", "_law_draw", "_law_size"] JgE Jfh
 JgI:Addr
 Jfl:FuncData
 JgQ:Df K mg "_law_goals" JeI ["_law_cell", "_law_kind", "_law_size"] JgI Jfl
 Jfp:Addr
 Jep:FuncData
 Jfw:Df K mg "_law_ground" JcH ["_law_script", "_law_at_here"] Jfp Jep
 JgD:Addr
 Jfg:FuncData
 JgO:Df K mg "_law_total" Jgj ["_law_cell"] JgD Jfg
 Jiy:Addr
 JgB:FuncData
 JiK:Df K mg "_law_left" JhV ["_law_cell"] Jiy JgB
 Jiw:Addr
 Jgz:FuncData
 JiI:Df K mg "_law_ways" JfB ["_law_ground_here", "_law_place"] Jiw Jgz
 JjX:Addr
 Jis:FuncData
 Jkb:Df K mg "_law_won" JjC ["_law_ground_here", "_law_place", "_law_left_here"] JjX Jis
 JgH:Addr
 Jfk:FuncData
 JdG:Df K mg "_law_holds" Jgm ["_law_found", "_law_due"] JgH Jfk
 Jix:Addr
 JgA:FuncData
 JiJ:Df K mg "_law_open" JhU ["_law_ground_here", "_law_cell"] Jix JgA
 Jeq:Addr
 JdW:FuncData
 Jez:Df K mg "_law_renamed" JaW ["_law_ground_here", "_law_names_here"] Jeq JdW
 JgK:Addr
 Jfn:FuncData
 JgR:Df K mg "_law_alike" Jbp ["_law_books", "_law_places", "_law_left_here", "_law_north", "_law_ribbon", "_law_bid", "_law_new"] JgK Jfn
 Jj0:Addr
 Jiv:FuncData
 JmU:Df K mg "law" JdM ["_law_script"] Jj0 Jiv
 JdD:Addr
 Jgy:mg "HANDS" = some (.ref JdD)
 JeE:∀ H:Hp,JT K H JdD [.str "north",.str "south"]
 Jaa:Value
 Jba:mg "MOST_SIGNS" = some Jaa
 Ja2:JG (.int 6) Jaa
 Z9:Value
 Jam:mg "MOST_TURNS" = some Z9
 Jag:JG (.int 30) Z9
 Jac:Value
 ZK:mg "MOST_COINS" = some Jac
 ZH:JG (.int 20) Jac
 ZT:Value
 JaP:mg "MOST_PLACES" = some ZT
 JaN:JG (.int 12) ZT
 Jab:Value
 Jbb:mg "MOST_LANES" = some Jab
 Ja3:JG (.int 40) Jab
 JmN:mg "all" = none
 ZQ:mg "len" = none
 Zu:mg "range" = none
 JjN:mg "min" = none
 JdS:mg "max" = none
 JmM:mg "set" = none
 Jdz:mg "tuple" = none
 JaT:mg "sorted" = none
 Jaj:mg "isinstance" = none
 JjO:mg "int" = none
 JkJ:mg "bool" = none
 JjM:mg "str" = none
 JfJ:mg "list" = none
 Jdc:Addr
 JfZ:mg "BidmoverError" = some (.ref Jdc)
 Jek:Addr
 Jlf:mg "BadName" = some (.ref Jek)
 YS:Addr
 Jhi:mg "BadHand" = some (.ref YS)
 JY:Addr
 Jc4:mg "OutOfRange" = some (.ref JY)
 Jgx:Addr
 Jnw:mg "Twice" = some (.ref Jgx)
 Yv:Addr
 Jhh:mg "NoPlace" = some (.ref Yv)
 Jbx:Addr
 JiB:mg "BadBid" = some (.ref Jbx)
 JA:Addr
 Jle:mg "Book" = some (.ref JA)
 JE:Cls K JA
 JbO:Addr
 JcY:FuncData
 Jdr:Md K JA "__init__" "Book.__init__" Jdl ["self", "board", "coins", "turns"] JbO JcY
 JaJ:Addr
 Jap:FuncData
 ZG:Md K JA "needs_with" "Book.needs_with" JaG ["self", "turns"] JaJ Jap
 JbH:Addr
 Jbe:FuncData
 JaB:Md K JA "need_at" "Book.need_at" Jbr ["self", "place", "turns", "ribbon"] JbH Jbe
 YW:Addr
 YN:FuncData
 J0:Md K JA "need_where_north_leads" "Book.need_where_north_leads" Yn ["self", "place", "turns"] YW YN
 YV:Addr
 YM:FuncData
 JZ:Md K JA "need_where_south_leads" "Book.need_where_south_leads" Ym ["self", "place", "turns"] YV YM
 Jaq:Addr
 ZY:FuncData
 J1:Md K JA "check_share" "Book.check_share" Jae ["self", "place", "turns", "north", "ribbon"] Jaq ZY
 Jcf:Addr
 JbD:FuncData
 YT:Md K JA "winner" "Book.winner" Jb2 ["self", "place", "turns", "north", "ribbon"] Jcf JbD
 Jc0:Addr
 Jb7:FuncData
 Jbm:Md K JA "least" "Book.least" JcJ ["self", "place", "turns", "ribbon"] Jc0 Jb7
 Jcg:Addr
 JbE:FuncData
 JaR:Md K JA "bid_of" "Book.bid_of" Jb3 ["self", "place", "turns", "north", "ribbon"] Jcg JbE
 JaV:Addr
 JaH:FuncData
 ZS:Md K JA "answer_of" "Book.answer_of" JaS ["self", "place", "turns", "north", "ribbon", "bid"] JaV JaH
 Jar:Addr
 ZZ:FuncData
 ZF:Md K JA "answer_wins" "Book.answer_wins" Jaf ["self", "place", "turns", "settled", "holder"] Jar ZZ
 JbG:Addr
 Jbd:FuncData
 YI:Md K JA "step_of" "Book.step_of" Jbq ["self", "place", "turns", "north", "ribbon", "hand"] JbG Jbd
 Ji6:Mk K JA JbO
 Yh:ZM K JA "board"
 Y8:ZM K JA "coins"
 Jb5:ZM K JA "turns"
 Y7:ZM K JA "needs"
 JD:Addr
 Jjk:mg "Board" = some (.ref JD)
 Yo:Cls K JD
 Jbg:Addr
 Jb9:FuncData
 Jc8:Md K JD "__init__" "Board.__init__" JcK ["self", "places", "lanes", "goals"] Jbg Jb9
 Z0:Addr
 ZR:FuncData
 JW:Md K JD "check_place" "Board.check_place" ZX ["self", "place"] Z0 ZR
 Jc1:Addr
 Jb8:FuncData
 Yy:Md K JD "ways" "Board.ways" Ja0 ["self", "place"] Jc1 Jb8
 Jbf:Addr
 JaU:FuncData
 Z8:Md K JD "is_goal" "Board.is_goal" Ja1 ["self", "place"] Jbf JaU
 Jij:Mk K JD Jbg
 Z6:ZM K JD "places"
 Jbv:ZM K JD "lanes"
 Jbw:ZM K JD "goals"
 Jf3:ExC K YS
 Jch:ExC K JY
 Jhn:ExC K Jbx
 Jmy:ExC K Jgx
 Jf2:ExC K Yv
 Jj7:ExC K Jek
def hs:Bool→Str
 | true => "north"
 | false => "south"
theorem JjS (b:Bool):decide (V.str (hs b)=V.str "north")=b:=by cases b <;> decide +kernel
def JbP (ns:List Int) (k:Int):Int:=if k < ns.length then ns.getD k.toNat 0 else 0
def YU (z:Str):Prop:=z.length≤1000∧∀ c∈z.cps.toList,c < 16 ^ 8
theorem JgX {z:Str} (h:YU z):(reprText z).length≤10002:=Nat.le_trans (PySem.StrLaws.reprText_len z h.2) (by have:=h.1; omega)
def JmF (z:Str):Bool:=decide (z.length≤1000) && z.cps.toList.all fun c=>decide (c < 16 ^ 8)
theorem JmW {z:Str} (h:JmF z=true):YU z:=by
 unfold JmF at h;rw [Bool.and_eq_true] at h;exact ⟨of_decide_eq_true h.1,fun c hc=>of_decide_eq_true (List.all_eq_true.mp h.2 c hc)⟩
def ZV (z:Str):Bool:=z == "north" || z == "south"
theorem YG (b:Bool):ZV (hs b)=true:=by cases b <;> decide +kernel
theorem JcB {z:Str} (h:ZV z=true):∃ b,z=hs b:=by
 unfold ZV at h;rcases Bool.or_eq_true_iff.mp h with q | q
 ·exact ⟨true,beq_iff_eq.mp q⟩
 ·exact ⟨false,beq_iff_eq.mp q⟩
theorem JkV (z:Str):inV (.str z) [.str "north",.str "south"]=ZV z:=by
 have h:∀ a b:Str,(a == b)=(b == a):=fun a b=>by rw [Bool.eq_iff_iff,beq_iff_eq,beq_iff_eq]; exact eq_comm
 show ((("north" : Str) == z) || ((("south" : Str) == z) || false))=(z == "north" || z == "south")
 rw [Bool.or_false,h "north" z,h "south" z]
theorem Zg (b:Bool):YU (hs b):=JmW (by cases b <;> decide +kernel)
theorem lt1 (a b:Nat):decide ([a] < [b])=decide (a < b):=by
 rw [Bool.eq_iff_iff,decide_eq_true_eq,decide_eq_true_eq];constructor
 ·intro h;cases h with
  | rel h=>exact h
  | cons h=>cases h
 ·exact fun h=>.rel h
def Zw (c:Nat):Bool:=decide (97≤c) && decide (c≤122)
def Y5 (z:Str):Bool:=decide (1≤z.length) && decide (z.length≤6) && z.cps.toList.all Zw
theorem Jip {z:Str} (h:Y5 z=true):tm 6 z:=by
 unfold Y5 at h;rw [Bool.and_eq_true,Bool.and_eq_true,decide_eq_true_eq,decide_eq_true_eq] at h;refine ⟨h.1.2,fun c hc=>?_⟩;have z:=List.all_eq_true.mp h.2 c hc;unfold Zw at z;rw [Bool.and_eq_true,decide_eq_true_eq,decide_eq_true_eq] at z;have:c≤122:=z.2;omega
theorem YB {z:Str} (h:Y5 z=true):YU z:=(Jip h).mono (by decide)
structure Jbk (ps:List Str) (zs:List (Str×Str)) (gs:List Str):Prop where
 p1:1≤ps.length
 p2:ps.length≤12
 p3:∀ p∈ps,Y5 p=true
 p4:ps.Nodup
 l1:zs.length≤40
 l2:∀ z∈zs,z.1∈ps∧z.2∈ps
 l3:zs.Nodup
 g1:∀ g∈gs,g∈ps
 g2:gs.Nodup
theorem Jbk.glen {ps:List Str} {zs:List (Str×Str)} {gs:List Str} (G:Jbk ps zs gs):gs.length≤12:=by
 have:∀ {l r:List Str},l.Nodup→(∀ x∈l,x∈r)→l.length≤r.length:=by
  intro l
  induction l with
  | nil=>exact fun _ _=>Nat.zero_le _
  | cons x l ih =>
   intro r hn hs
   classical
   have hx:=hs x (List.mem_cons_self ..);have h1:=List.nodup_cons.mp hn;obtain ⟨r1,r2,rfl⟩:=List.append_of_mem hx;have z:=ih (r:=r1 ++ r2) h1.2 fun y hy=>by
    have:=hs y (List.mem_cons_of_mem _ hy);simp only [List.mem_append,List.mem_cons] at this ⊢;rcases this with q | q | q
    ·exact .inl q
    ·subst q; exact absurd hy h1.1
    ·exact .inr q
   simp only [List.length_append,List.length_cons] at z ⊢;omega
 exact Nat.le_trans (this G.g2 G.g1) G.p2
theorem JdT (z:Str) (ps:List Str):inV (.str z) (ps.map V.str)=decide (z∈ps):=by
 rw [Bool.eq_iff_iff,decide_eq_true_eq];unfold inV;rw [List.any_eq_true];constructor
 ·rintro ⟨v,hv,e⟩;obtain ⟨y,hy,rfl⟩:=List.mem_map.mp hv;have e':(y == z)=true:=e;rw [← beq_iff_eq.mp e'];exact hy
 ·intro h;exact ⟨.str z,List.mem_map.mpr ⟨z,h,rfl⟩,beq_iff_eq.mpr rfl⟩
theorem Jdd (ps:List Str):(ps.map V.str).all Jcv=true:=by
 rw [List.all_map,List.all_eq_true];exact fun _ _=>rfl
def Jgp (p:Str×Str):List JO:=[.inr p.1,.inr p.2]
theorem Jl1 {p q:Str×Str} (h:Jgp p=Jgp q):p=q:=by
 unfold Jgp at h;simp only [List.cons.injEq,Sum.inr.injEq,and_true] at h;exact Prod.ext h.1 h.2
theorem JiN {zs:List (Str×Str)} (h:zs.Nodup):(zs.map Jgp).Nodup:=by
 rw [List.Nodup,List.pairwise_map];exact List.Pairwise.imp (fun hne e=>hne (Jl1 e)) h
theorem JjF {K:PySem.W.Frag} {H:Hp} {zs:List (V×(Str×Str))} (h:Yq K H zs):JdE K H (zs.map (·.1)) ((zs.map (·.2)).map Jgp):=by
 refine ⟨by simp,fun i v ks hv hk=>?_⟩;rw [List.getElem?_map] at hv;obtain ⟨z,hz,rfl⟩:=Option.map_eq_some_iff.mp hv;rw [List.getElem?_map,List.getElem?_map,hz] at hk;have hk':Jgp z.2=ks:=Option.some.inj hk;rw [← hk'];exact h z (List.mem_of_getElem? hz)
theorem YL {K:PySem.W.Frag} {H H':Hp} {zs:List (V×(Str×Str))} (h:Yq K H zs) (e:Jg H H'):Yq K H' zs:=fun z hz=>let ⟨a,h1,h2⟩:=h z hz; ⟨a,h1,e.tup h2⟩
def JaC (K:PySem.W.Frag) (C:Addr) (H:Hp) (b:Addr) (ps:List Str) (zs:List (V×(Str×Str))) (gs:List Str):Prop :=
 ∃ dx tp tl tg,H b=some (.ins C dx [("places",.ref tp),("lanes",.ref tl),("goals",.ref tg)])∧H tp=some (.tup (ps.map V.str))∧H tl=some (.tup (zs.map (·.1)))∧Yq K H zs∧H tg=some (.tup (gs.map V.str))
theorem JaC.same {K:PySem.W.Frag} {C:Addr} {H H':Hp} {b:Addr} {ps:List Str} {zs:List (V×(Str×Str))} {gs:List Str} (h:JaC K C H b ps zs gs) (e:Jg H H'):JaC K C H' b ps zs gs :=
 let ⟨dx,tp,tl,tg,h1,h2,h3,h4,h5⟩:=h; ⟨dx,tp,tl,tg,e _ _ h1,e _ _ h2,e _ _ h3,YL h4 e,e _ _ h5⟩
def Zp (b:Addr) (H H':Hp):Prop:=∀ a u,a≠b→H a=some u→H' a=some u
theorem Zp.of {b:Addr} {H H':Hp} (e:Jg H H'):Zp b H H':=fun a u _ h=>e a u h
theorem Zp.trans {b:Addr} {H H' H2:Hp} (e:Zp b H H') (e2:Zp b H' H2):Zp b H H2:=fun a u hn h=>e2 a u hn (e a u hn h)
theorem Zp.put {b:Addr} {H:Hp} {o:HO}:Zp b H (upd H b o):=fun a u hn h=>by rw [Jq hn]; exact h
theorem Zp.seq {K:PySem.W.Frag} {b l C dx:Addr} {fs:List (Str×V)} {H H':Hp} {xs:List V} (e:Zp b H H') (hb:H b=some (.ins C dx fs)) (h:Jo K H l xs):Jo K H' l xs:=by
 rcases h with (h | ⟨o,h⟩) | h
 ·exact .inl (.inl (e _ _ (Z5 h hb (fun z=>nomatch z)) h))
 ·exact .inl (.inr ⟨o,e _ _ (Z5 h hb (fun z=>nomatch z)) h⟩)
 ·exact .inr h
theorem Zp.tup {K:PySem.W.Frag} {b l C dx:Addr} {fs:List (Str×V)} {H H':Hp} {xs:List V} (e:Zp b H H') (hb:H b=some (.ins C dx fs)) (h:JT K H l xs):JT K H' l xs:=by
 rcases h with (h | ⟨o,h⟩) | h
 ·exact .inl (.inl (e _ _ (Z5 h hb (fun z=>nomatch z)) h))
 ·exact .inl (.inr ⟨o,e _ _ (Z5 h hb (fun z=>nomatch z)) h⟩)
 ·exact .inr h
def Jm5:Sp:=fun vs H Q _=>∃ z:Str,vs=[.str z]∧z.length≤1000∧∀ H',Jg H H'→Q (.bl (Y5 z)) H'
def Jm2 (K:PySem.W.Frag):Sp:=fun vs H Q _=>∃ l:Addr,vs=[.ref l]∧((∃ ss:List Str,Jo K H l (ss.map V.str)∧ss.length≤64∧ss.Nodup)∨(∃ (us:List V) (kss:List (List JO)),Jo K H l us∧JdE K H us kss∧kss.length≤64∧kss.Nodup))∧∀ H',Jg H H'→Q .non H'
def JlG (K:PySem.W.Frag) (k:Addr):Sp:=fun vs H Q E=>∃ (z:Str) (t:Addr) (ps:List Str),vs=[.str z,.ref t]∧YU z∧(Jo K H t (ps.map V.str)∨JT K H t (ps.map V.str))∧(z∈ps→Q .non H)∧(z∉ps→E (.ref k) none H)
def Jjw (K:PySem.W.Frag):Sp:=fun vs H Q _=>∃ (l:Addr) (ps:List Str),vs=[.ref l]∧Jo K H l (ps.map V.str)∧1≤ps.length∧ps.length≤12∧(∀ p∈ps,Y5 p=true)∧ps.Nodup∧∀ H',Jg H H'→Q .non H'
def Jkn (K:PySem.W.Frag):Sp:=fun vs H Q _=>∃ (l lp:Addr) (zs:List (V×(Str×Str))) (ps:List Str),vs=[.ref l,.ref lp]∧Jo K H l (zs.map (·.1))∧Yq K H zs∧Jo K H lp (ps.map V.str)∧(∀ p∈ps,YU p)∧zs.length≤40∧(∀ z∈zs,z.2.1∈ps∧z.2.2∈ps)∧(zs.map (·.2)).Nodup∧∀ H',Jg H H'→Q .non H'
def Jko (K:PySem.W.Frag):Sp:=fun vs H Q _=>∃ (l lp:Addr) (gs ps:List Str),vs=[.ref l,.ref lp]∧Jo K H l (gs.map V.str)∧Jo K H lp (ps.map V.str)∧(∀ p∈ps,YU p)∧gs.length≤64∧(∀ g∈gs,g∈ps)∧gs.Nodup∧∀ H',Jg H H'→Q .non H'
def JiW (K:PySem.W.Frag) (C:Addr):Sp:=fun vs H Q _=>∃ (b lp ll lg dx:Addr) (ps:List Str) (zs:List (V×(Str×Str))) (gs:List Str),vs=[.ref b,.ref lp,.ref ll,.ref lg]∧H b=some (.ins C dx [])∧Jo K H lp (ps.map V.str)∧Jo K H ll (zs.map (·.1))∧Yq K H zs∧Jo K H lg (gs.map V.str)∧Jbk ps (zs.map (·.2)) gs ∧
 ∀ H' ps' zs' gs',Zp b H H'→ps'.Perm ps→ps'.Pairwise sle→zs'.Perm zs→(zs'.map (·.2)).Pairwise ple→gs'.Perm gs→gs'.Pairwise sle→JaC K C H' b ps' zs' gs'→Q .non H'
def Jkm (K:PySem.W.Frag) (C k:Addr):Sp:=fun vs H Q E=>∃ (b:Addr) (z:Str) (ps:List Str) (zs:List (V×(Str×Str))) (gs:List Str),vs=[.ref b,.str z]∧YU z∧JaC K C H b ps zs gs∧(z∈ps→Q .non H)∧(z∉ps→E (.ref k) none H)
def Jp (zs:List (Str×Str)) (p:Str):List Str:=(zs.filter fun z=>decide (z.1=p)).map (·.2)
def JmZ (K:PySem.W.Frag) (C k:Addr):Sp:=fun vs H Q E=>∃ (b:Addr) (z:Str) (ps:List Str) (zs:List (V×(Str×Str))) (gs:List Str),vs=[.ref b,.str z]∧YU z∧zs.length≤40∧JaC K C H b ps zs gs∧(z∈ps→∀ t H',Jg H H'→H' t=some (.tup ((Jp (zs.map (·.2)) z).map V.str))→Q (.ref t) H')∧(z∉ps→E (.ref k) none H)
def Jkk (K:PySem.W.Frag) (C k:Addr):Sp:=fun vs H Q E=>∃ (b:Addr) (z:Str) (ps:List Str) (zs:List (V×(Str×Str))) (gs:List Str),vs=[.ref b,.str z]∧YU z∧JaC K C H b ps zs gs∧(z∈ps→Q (.bl (decide (z∈gs))) H)∧(z∉ps→E (.ref k) none H)
def JoK (K:PySem.W.Frag):Sp:=fun vs H Q _=>∃ (a:Addr) (ns:List Int) (k:Int),vs=[.ref a,.int k]∧Jo K H a (ns.map V.int)∧0≤k∧Q (.int (JbP ns k)) H
def Jjx (K:PySem.W.Frag):Sp:=fun vs H Q _=>∃ (a:Addr) (ns:List Int),vs=[.ref a]∧Jo K H a (ns.map V.int)∧ns.length≤63∧∀ H',Q (.bl true) H'
def JnL:Sp:=fun vs H Q _=>∃ (c:Int) (n:Nat) (b:Int),vs=[.int c,.int n,.int b]∧n≤1000∧0 < b∧b < 1000000∧∀ (p:Addr) (xs:List Int) (H':Hp),H p=none→Jg H H'→H' p=some (.lst (xs.map V.int))→xs.length=n→(∀ x∈xs,0≤x∧x < b)→Q (.ref p) H'
theorem Jed {α:Type}:∀ {l r:List α},l.Nodup→(∀ x∈l,x∈r)→l.length≤r.length
 | [],_,_,_=>Nat.zero_le _
 | x :: l,r,hn,hs=>by
  have hx:=hs x (List.mem_cons_self ..);have h1:=List.nodup_cons.mp hn;obtain ⟨r1,r2,rfl⟩:=List.append_of_mem hx;have z:=Jed (l:=l) (r:=r1 ++ r2) h1.2 fun y hy=>by
   have:=hs y (List.mem_cons_of_mem _ hy);simp only [List.mem_append,List.mem_cons] at this ⊢;rcases this with q | q | q
   ·exact .inl q
   ·subst q; exact absurd hy h1.1
   ·exact .inr q
  simp only [List.length_append,List.length_cons] at z ⊢;omega
theorem Jcy {xs:List Int} {e:Int} (h0:0≤e) (h1:e < xs.length):∃ y,atI (xs.map V.int) e=some (.int y)∧y∈xs:=by
 obtain ⟨j,rfl⟩:∃ j:Nat,e=(j:Int):=⟨e.toNat,by omega⟩
 have hj:j < xs.length:=by omega
 exact ⟨xs[j],Ys (by rw [List.getElem?_map,List.getElem?_eq_getElem hj]; rfl),List.getElem_mem hj⟩
def LT:Str := "abcdefghijklmnopqrstuvwxyz"
theorem Jg6 {j:Int} (h0:0≤j) (h1:j < 26):atI LT.cps.toList j=some (97 + j.toNat):=by
 obtain ⟨i,rfl⟩:∃ i:Nat,j=(i:Int):=⟨j.toNat,by omega⟩
 have hi:i < 26:=by omega
 refine Ys ?_;rw [Int.toNat_natCast];have z:∀ i,i < 26→LT.cps.toList[i]?=some (97 + i):=by decide +kernel
 exact z i hi
theorem Jlo:LT.length≤sizeLine:=by decide +kernel
theorem JhN {j:Nat} (h:j < 26):Zw (97 + j)=true:=by
 unfold Zw;rw [decide_eq_true (by omega),decide_eq_true (by omega)]; rfl
theorem JfO:∀ {ys:List Str},(∀ y∈ys,∃ c,y=⟨#[c]⟩∧Zw c=true)→(Str.join Str.empty ys).length=ys.length∧∀ c∈(Str.join Str.empty ys).cps.toList,Zw c=true
 | [],_=>⟨rfl,fun c hc=>by simp [Str.join,Str.empty] at hc⟩
 | [y],h=>by
  obtain ⟨c,rfl,hc⟩:=h y (List.mem_cons_self ..);exact ⟨rfl,fun d hd=>by
   have e:d=c:=by simpa [Str.join] using hd
   rw [e]; exact hc⟩
 | y :: x :: r,h=>by
  obtain ⟨c,rfl,hc⟩:=h y (List.mem_cons_self ..);obtain ⟨a,b⟩:=JfO (ys:=x :: r) fun q hq=>h q (List.mem_cons_of_mem _ hq)
  have e:Str.join Str.empty (⟨#[c]⟩ :: x :: r)=(⟨#[c]⟩:Str) ++ Str.empty ++ Str.join Str.empty (x :: r):=rfl;rw [e];refine ⟨?_,fun d hd=>?_⟩
  ·rw [strLen_append,strLen_append,a];simp only [List.length_cons];show 1 + 0 + _=_;omega
  ·rcases PyProof.Rows.mem_cps_append.mp hd with q | q
   ·rcases PyProof.Rows.mem_cps_append.mp q with q | q
    ·have e2:d=c:=by simpa using q
     rw [e2]; exact hc
    ·simp [Str.empty] at q
   ·exact b d q
def nam (hd:Str) (j:Nat):Str:=hd ++ ⟨#[97 + j]⟩
theorem Jmd {hd:Str} {j:Nat} (h1:hd.length≤5) (h2:∀ c∈hd.cps.toList,Zw c=true) (hj:j < 26):Y5 (nam hd j)=true:=by
 unfold Y5 nam;have e:(hd ++ (⟨#[97 + j]⟩:Str)).length=hd.length + 1:=by rw [strLen_append]; rfl
 rw [Bool.and_eq_true,Bool.and_eq_true,decide_eq_true_eq,decide_eq_true_eq,e,List.all_eq_true];refine ⟨⟨by omega,by omega⟩,fun c hc=>?_⟩;rcases PyProof.Rows.mem_cps_append.mp hc with q | q
 ·exact h2 c q
 ·have e2:c=97 + j:=by simpa using q
  rw [e2]; exact JhN hj
theorem Jnk {hd:Str} {i j:Nat} (h:nam hd i=nam hd j):i=j:=by
 have e:(hd.cps ++ #[97 + i])=(hd.cps ++ #[97 + j]):=congrArg Str.cps h;have e2:=congrArg Array.toList e;rw [Array.toList_append,Array.toList_append] at e2;have e3:=List.append_cancel_left e2;simp at e3;omega
theorem Jme {hd:Str} {x:Int} {ss:List Str} (h:ss.length < 26) (hx:∀ m:Nat,m < 26→nam hd ((x + m) % 26).toNat∈ss):False:=by
 have nd:((List.range 26).map fun m=>nam hd ((x + (m:Nat)) % 26).toNat).Nodup:=by
  rw [List.Nodup,List.pairwise_map];refine List.Pairwise.imp_of_mem ?_ (List.pairwise_lt_range (n:=26));intro a b ha hb hlt e;have e2:=Jnk e;have:=List.mem_range.mp ha;have:=List.mem_range.mp hb;have h1:=Int.emod_nonneg (x + (a:Nat)) (b:=26) (by decide);have h2:=Int.emod_nonneg (x + (b:Nat)) (b:=26) (by decide);omega
 have z:=Jed (r:=ss) nd fun y hy=>by
  obtain ⟨m,hm,rfl⟩:=List.mem_map.mp hy;exact hx m (List.mem_range.mp hm)
 rw [List.length_map,List.length_range] at z;omega
theorem Jji {xs:List Int} {k:Int} (h0:0≤k) (h1:k≤xs.length):((JaK (xs.map V.int) none (some k)).length:Int)=k:=by
 unfold JaK;rw [List.length_map,HT.JlX];show ((List.take ((if k < 0 then _ else _) - 0) _).length:Int)=k;rw [if_neg (by omega),List.length_take,List.length_drop,List.length_map];omega
theorem Jiz {xs:List Int} {lo hi:Option Int}:∃ ys:List Int,JaK (xs.map V.int) lo hi=ys.map V.int∧∀ y∈ys,y∈xs:=by
 refine ⟨(xs.drop (HT.sIx xs.length 0 lo)).take (HT.sIx xs.length xs.length hi - HT.sIx xs.length 0 lo),?_,fun y hy=>List.mem_of_mem_drop (List.mem_of_mem_take hy)⟩;unfold JaK;rw [List.length_map,List.map_take,List.map_drop]
def Jlz:Sp:=fun vs H Q _=>∃ (c:Int) (n:Nat),vs=[.int c,.int n]∧1≤n∧n≤12∧∀ (p:Addr) (ss:List Str) (H':Hp),H p=none→Jg H H'→H' p=some (.lst (ss.map V.str))→ss.length=n→(∀ s∈ss,Y5 s=true)→ss.Nodup→Q (.ref p) H'
def Jlp (K:PySem.W.Frag) (H:Hp) (zs:List (V×(Int×Int))):Prop:=∀ z∈zs,∃ a,z.1=.ref a∧JT K H a [.int z.2.1,.int z.2.2]
def Jem (p:Int×Int):List JO:=[.inl p.1,.inl p.2]
theorem Jmi {p q:Int×Int} (h:Jem p=Jem q):p=q:=by
 unfold Jem at h;simp only [List.cons.injEq,Sum.inl.injEq,and_true] at h;exact Prod.ext h.1 h.2
theorem JiQ {K:PySem.W.Frag} {H:Hp} {zs:List (V×(Int×Int))} (h:Jlp K H zs):JdE K H (zs.map (·.1)) ((zs.map (·.2)).map Jem):=by
 refine ⟨by simp,fun i v ks hv hk=>?_⟩;rw [List.getElem?_map] at hv;obtain ⟨z,hz,rfl⟩:=Option.map_eq_some_iff.mp hv;rw [List.getElem?_map,List.getElem?_map,hz] at hk;have hk':Jem z.2=ks:=Option.some.inj hk;rw [← hk'];exact h z (List.mem_of_getElem? hz)
structure PW (K:PySem.W.Frag) (H0:Hp) (pl:Addr) (size:Nat) (H:Hp) (zs:List (V×(Int×Int))):Prop where
 sm:Jg H0 H
 at_:H pl=some (.lst (zs.map (·.1)))
 ip:Jlp K H zs
 nd:(zs.map (·.2)).Nodup
 rg:∀ z∈zs,(0≤z.2.1∧z.2.1 < size)∧(0≤z.2.2∧z.2.2 < size)
theorem PW.add {K:PySem.W.Frag} {H0:Hp} {pl:Addr} {size:Nat} {H H':Hp} {zs:List (V×(Int×Int))} (h:PW K H0 pl size H zs) (n0:H0 pl=none) (e:Jg H H') {t:Addr} {a b:Int} (ht:H' t=some (.tup [.int a,.int b]))
  (hn:(a,b)∉zs.map (·.2)) (hr:(0≤a∧a < size)∧(0≤b∧b < size)):PW K H0 pl size (upd H' pl (.lst (zs.map (·.1) ++ [.ref t]))) (zs ++ [(.ref t,(a,b))]):=by
 have hp':=e _ _ h.at_;have tup:∀ {a:Addr} {xs:List V},JT K H' a xs→JT K (upd H' pl (.lst (zs.map (·.1) ++ [.ref t]))) a xs:=fun {a xs} q=>by
  rcases q with (q | ⟨o,q⟩) | q
  ·exact .inl (.inl (by rw [Jq (Z5 q hp' (fun z=>nomatch z))]; exact q))
  ·exact .inl (.inr ⟨o,by rw [Jq (Z5 q hp' (fun z=>nomatch z))]; exact q⟩)
  ·exact .inr q
 refine ⟨fun b' u q=>?_,by rw [Jf,List.map_append]; rfl,fun z hz=>?_,?_,fun z hz=>?_⟩
 ·rw [Jq (Jr q n0)]; exact e _ _ (h.sm _ _ q)
 ·rcases List.mem_append.mp hz with q | q
  ·obtain ⟨c,h1,h2⟩:=h.ip z q;exact ⟨c,h1,tup (e.tup h2)⟩
  ·rw [List.mem_singleton.mp q];exact ⟨t,rfl,tup (JT.of ht)⟩
 ·rw [List.map_append,List.nodup_append];refine ⟨h.nd,by simp,fun x hx y hy q=>?_⟩;have hy':y=(a,b):=by simpa using hy
  rw [q,hy'] at hx;exact hn hx
 ·rcases List.mem_append.mp hz with q | q
  ·exact h.rg z q
  ·rw [List.mem_singleton.mp q]; exact hr
def Jlw (K:PySem.W.Frag):Sp:=fun vs H Q _=>∃ (c d:Int) (n:Nat),vs=[.int c,.int d,.int n]∧1≤n∧n≤12∧∀ (p:Addr) (zs:List (V×(Int×Int))) (H':Hp),H p=none→PW K H p n H' zs→zs.length≤40→Q (.ref p) H'
section
variable {P:Program} {w:World} {K:PySem.W.Frag} {mg:Str→Option Value} {base:Heap}
theorem Ja7 (T:Txt K mg):JM P w K mg base Y6 1 T.Jmp T.JjW ["_law_script", "_law_k"] (JoK K):=by
 refine T.JbK.F.ok JoL (fun vs H Q E h=>?_) (fun cdv A outer s H vs Q E hr h=>?_)
 ·obtain ⟨a,ns,k,rfl,_⟩:=h;rfl
 ·obtain ⟨a,ns,k,rfl,hS,h0,q⟩:=h;refine ⟨_,(@Jd _ _ _ _ _ (@JN _ _ _ _ _ _ _ _ (@Js _ _ _ _ _ _ _ _ (@Jcq _) (@pv _ 1 _ _ rfl (.inl rfl) rfl rfl) (@JI _ _ _ _ _ _ _ _ _ (@Yp _) rfl T.ZQ PySem.boot_len (@Ja _ _ _ _ _ (@pv _ 0 _ _ rfl (.inl rfl) rfl rfl) (@Jc _) rfl) (by decide) (by decide) rfl rfl) (JC _)) (@Jh _ _ _ (@Ju _ _ _ _ (@JB _ _ _ _ _ _ _ (@JF _) (@pv _ 0 _ _ rfl (.inl rfl) rfl rfl) (@pv _ 1 _ _ rfl (.inl rfl) rfl rfl) (fun _ _=>rfl)))) (@Jy _)) (@Jh _ _ _ (@Ju _ _ _ _ (@Jb _ _ _ _)))),?_⟩;refine ⟨_,rfl,_,rfl,a,_,rfl,.inl hS,_,_,rfl,rfl,_,rfl,?_⟩;rw [List.length_map];refine Yw (fun c=>?_) (fun c=>?_)
  ·have c':k < ns.length:=of_decide_eq_true c;refine ⟨_,rfl,_,rfl,a,_,k,.int (JbP ns k),rfl,rfl,hS,?_,q⟩;obtain ⟨j,rfl⟩:∃ j:Nat,k=(j:Int):=⟨k.toNat,by omega⟩
   have hj:j < ns.length:=by omega
   refine Ys ?_;rw [List.getElem?_map];unfold JbP;rw [if_pos c',Int.toNat_natCast,List.getD_eq_getElem?_getD,List.getElem?_eq_getElem hj];rfl
  ·have c':¬ k < ns.length:=fun z=>c (decide_eq_true z)
   have e:JbP ns k=0:=by unfold JbP; rw [if_neg c']
   rw [e] at q;exact q
theorem Jia (T:Txt K mg):JM P w K mg base Y6 1 T.JjY T.Jit ["_law_cell", "_law_many", "_law_base"] JnL:=by
 refine T.Jf6.F.ok JcF (fun vs H Q E h=>?_) (fun cdv A outer s H vs Q E hr h=>?_)
 ·obtain ⟨_,_,_,rfl,_⟩:=h;rfl
 ·obtain ⟨c,n,b,rfl,hn,hb0,hb1,q⟩:=h;refine ⟨_,(@Jd _ _ _ _ _ (@Jt _ _ 3 _ _ _ _ JcF.nd rfl (Or.inl rfl) (@Jj _ _ _ _ _ _ _ _ (@YE _) (@pv _ 0 _ _ rfl (.inl rfl) rfl rfl) (@Jb _ _ _ _)) rfl (.inl rfl)) (@Jd _ _ _ _ _ (@Jt _ _ 4 _ _ _ _ JcF.nd rfl (Or.inl rfl) (@Jj _ _ _ _ _ _ _ _ (@JQ _) (@pv _ 0 _ _ rfl (.inl rfl) rfl rfl) (@Jb _ _ _ _)) rfl (.inl rfl)) (@Jd _ _ _ _ _ (@Jt _ _ 5 _ _ _ _ JcF.nd rfl (Or.inl rfl) (@Ye _ _ _ _ (@Jc _)) rfl (.inl rfl)) (@Jd _ _ _ _ _ (@Yt _ _ _ _ _ _ _ _ PassesOwn.never rfl (@Ze _ _ _ _ _ _ rfl T.Zu (@Ja _ _ _ _ _ (@pv _ 1 _ _ rfl (.inl rfl) rfl rfl) (@Jc _) rfl) rfl) (@J8 _ _ 6 _ JcF.nd rfl (Or.inl rfl) (.inl rfl)) (@Jd _ _ _ _ _ (@Jt _ _ 4 _ _ _ _ JcF.nd rfl (Or.inl rfl) (@Jj _ _ _ _ _ _ _ _ (@JQ _) (@Jj _ _ _ _ _ _ _ _ (@JP _) (@Jj _ _ _ _ _ _ _ _ (@JP _) (@Jj _ _ _ _ _ _ _ _ (@ZU _) (@pv _ 4 _ _ rfl (.inl rfl) rfl rfl) (@Jb _ _ _ _)) (@Jj _ _ _ _ _ _ _ _ (@ZU _) (@Jb _ _ _ _) (@pv _ 6 _ _ rfl (.inl rfl) rfl rfl))) (@Jb _ _ _ _)) (@Jb _ _ _ _)) rfl (.inl rfl)) (@Jd _ _ _ _ _ (@JN _ _ _ _ _ _ _ _ (@Js _ _ _ _ _ _ _ _ (@Yc _) (@Jj _ _ _ _ _ _ _ _ (@JQ _) (@pv _ 0 _ _ rfl (.inl rfl) rfl rfl) (@Jb _ _ _ _)) (@Jb _ _ _ _) (JC _)) (@Jh _ _ _ (@JH _ _ _ _ (@Ja5 _ _ _ _ _ _ _ _ _ _ _ _ PySem.F.plainAttrs_list PySem.F.slot_list_append PySem.F.type_list_append (@Y3 _) (@pv _ 5 _ _ rfl (.inl rfl) rfl rfl) (@Ja _ _ _ _ _ (@Jj _ _ _ _ _ _ _ _ (@JQ _) (@pv _ 3 _ _ rfl (.inl rfl) rfl rfl) (@pv _ 2 _ _ rfl (.inl rfl) rfl rfl)) (@Jc _) rfl) rfl rfl rfl rfl rfl) rfl)) (@Jh _ _ _ (@JH _ _ _ _ (@Ja5 _ _ _ _ _ _ _ _ _ _ _ _ PySem.F.plainAttrs_list PySem.F.slot_list_append PySem.F.type_list_append (@Y3 _) (@pv _ 5 _ _ rfl (.inl rfl) rfl rfl) (@Ja _ _ _ _ _ (@Jj _ _ _ _ _ _ _ _ (@JQ _) (@Jj _ _ _ _ _ _ _ _ (@JP _) (@Jj _ _ _ _ _ _ _ _ (@YE _) (@pv _ 4 _ _ rfl (.inl rfl) rfl rfl) (@Jb _ _ _ _)) (@Jj _ _ _ _ _ _ _ _ (@JQ _) (@Jj _ _ _ _ _ _ _ _ (@ZU _) (@pv _ 4 _ _ rfl (.inl rfl) rfl rfl) (@Jb _ _ _ _)) (@Jb _ _ _ _))) (@pv _ 2 _ _ rfl (.inl rfl) rfl rfl)) (@Jc _) rfl) rfl rfl rfl rfl rfl) rfl))) (@Jh _ _ _ (@Jt _ _ 3 _ _ _ _ JcF.nd rfl (Or.inl rfl) (@Jj _ _ _ _ _ _ _ _ (@YE _) (@pv _ 3 _ _ rfl (.inl rfl) rfl rfl) (@pv _ 2 _ _ rfl (.inl rfl) rfl rfl)) rfl (.inl rfl))))) (by intro _; rfl)) (@Jh _ _ _ (@Ju _ _ _ _ (@pv _ 5 _ _ rfl (.inl rfl) rfl rfl))))))),?_⟩
  try dsimp only [cxK,Jes]
  refine ⟨_,rfl,_,_,rfl,rfl,⟨by decide,by decide⟩,_,rfl,_,_,rfl,rfl,(by show (0:Int) < 2147483647; decide),by show 0≤sizeLine; decide,fun p hp=>?_⟩;have hs0:n < sizeLine:=Nat.lt_of_le_of_lt hn (by decide);refine ⟨_,rfl,(n:Int),rfl,by omega,by omega,?_⟩;refine Zf (n:=n) (fun i σ H2=>∃ (r m:Int) (xs:List Int) (v:Option V),Jg H H2∧H2 p=some (.lst (xs.map V.int))∧xs.length=i∧(∀ x∈xs,0≤x∧x < b)∧σ=[some (.int c),some (.int n),some (.int b),some (.int r),some (.int m),some (.ref p),v])
   ⟨_,_,[],none,Jg.upd hp,Jf,rfl,(fun x hx=>nomatch hx),rfl⟩ ?_ ?_
  ·rintro i σ H2 hi ⟨r,m,xs,v,e,hx,hl,hr,rfl⟩;have add:∀ x:Int,0≤x∧x < b→Jg H (upd H2 p (.lst (xs.map V.int ++ [.int x])))∧upd H2 p (.lst (xs.map V.int ++ [.int x])) p=some (.lst ((xs ++ [x]).map V.int))∧(xs ++ [x]).length=i + 1∧∀ y∈xs ++ [x],0≤y∧y < b:=fun x h=>by
    refine ⟨fun b' u q=>?_,by rw [Jf,List.map_append]; rfl,by simp [hl],fun y hy=>?_⟩
    ·rw [Jq (Jr q hp)]; exact e b' u q
    ·rcases List.mem_append.mp hy with z | z
     ·exact hr y z
     ·rw [List.mem_singleton.mp z]; exact h
   refine ⟨_,rfl,_,_,rfl,rfl,.inr ⟨by decide,by decide⟩,_,rfl,_,_,rfl,rfl,.inl ⟨by decide,by decide⟩,_,_,rfl,rfl,_,_,rfl,rfl,_,_,rfl,rfl,(by show (0:Int) < 2147483647; decide),?_⟩;have hxl:(xs.map V.int).length < sizeLine:=by rw [List.length_map]; omega
   refine ⟨_,rfl,_,_,rfl,rfl,(by show (0:Int) < 2; decide),rfl,_,rfl,Yw (fun _=>?_) (fun _=>?_)⟩
   ·refine ⟨_,rfl,.inl ⟨rfl,_,Jo.of hx⟩,_,rfl,_,rfl,_,_,rfl,rfl,hb0,p,_,_,rfl,rfl,hx,hxl,?_⟩;refine ⟨_,rfl,_,rfl,_,_,rfl,rfl,⟨hb0,by show b < 1073741824; omega⟩,?_⟩;obtain ⟨a1,a2,a3,a4⟩:=add (r % b) ⟨Int.emod_nonneg _ (by omega),Int.emod_lt_of_pos _ hb0⟩;exact ⟨_,_,xs ++ [r % b],_,a1,a2,a3,a4,rfl⟩
   ·refine ⟨_,rfl,.inl ⟨rfl,_,Jo.of hx⟩,_,rfl,_,_,rfl,rfl,⟨by decide,by decide⟩,_,rfl,_,_,rfl,rfl,.inr ⟨by decide,by decide⟩,_,_,rfl,rfl,(by show (0:Int) < 2147483647; decide),_,_,rfl,rfl,_,rfl,_,_,rfl,rfl,hb0,p,_,_,rfl,rfl,hx,hxl,?_⟩;refine ⟨_,rfl,_,rfl,_,_,rfl,rfl,⟨hb0,by show b < 1073741824; omega⟩,?_⟩;obtain ⟨a1,a2,a3,a4⟩:=add (((m * 48271 + 7 * (0 + (i:Int)) + 11) % 2147483647 / 8 + (m * 48271 + 7 * (0 + (i:Int)) + 11) % 2147483647 * 69621 % 2147483647) % b) ⟨Int.emod_nonneg _ (by omega),Int.emod_lt_of_pos _ hb0⟩;exact ⟨_,_,_,_,a1,a2,a3,a4,rfl⟩
  ·rintro σ H2 ⟨r,m,xs,v,e,hx,hl,hr,rfl⟩;exact ⟨_,rfl,q p xs H2 hp e hx hl hr⟩
theorem Jie (T:Txt K mg):JM P w K mg base Y6 1 T.Jdn T.JcW ["text"] Jm5:=by
 refine T.Jdq.F.ok JhS (fun vs H Q E h=>?_) (fun cdv A outer s H vs Q E hr h=>?_)
 ·obtain ⟨_,rfl,_⟩:=h;rfl
 ·obtain ⟨z,rfl,hz,q⟩:=h;have hzl:z.length≤sizeLine:=Nat.le_trans hz (by decide);refine ⟨_,(@Jd _ _ _ _ _ (@JN _ _ _ _ _ _ _ _ (@PW.pt _ _ _ (@JbM _ _ _ _ _ _ _ (@Js _ _ _ _ _ _ _ _ (@Jcq _) (@JI _ _ _ _ _ _ _ _ _ (@Jev _) rfl T.ZQ PySem.boot_len (@Ja _ _ _ _ _ (@pv _ 0 _ _ rfl (.inl rfl) rfl rfl) (@Jc _) rfl) (by decide) (by decide) rfl rfl) (@Jb _ _ _ _) (JC _)) (@Ja4 _ _ _ _ (@Js _ _ _ _ _ _ _ _ (@Jcr _) (@JI _ _ _ _ _ _ _ _ _ (@Jev _) rfl T.ZQ PySem.boot_len (@Ja _ _ _ _ _ (@pv _ 0 _ _ rfl (.inl rfl) rfl rfl) (@Jc _) rfl) (by decide) (by decide) rfl rfl) (@Jaw _ _ _ _ _ rfl T.Jba T.Ja2 (by decide)) (JC _))))) (@Jh _ _ _ (@Ju _ _ _ _ (@JdQ _ _ _ _))) (@Jy _)) (@Jh _ _ _ (@Ju _ _ _ _ (@JI _ _ _ _ _ _ _ _ _ (@Jmt _ rfl) rfl T.JmN PyProof.Rows.boot_all (@Ja _ _ _ _ _ (@Jcp _ _ _ _ _ _ _ 1 ["sign"] [] _ _ _ _ ["text"] ((Jl JbL).names) (by decide +kernel) (@Jn2 _ _ _ _ (@pv _ 0 _ _ rfl (.inl rfl) rfl rfl)) (fun _ _ _ _=>(@YK _ _ _ _ _ _ _ _ _ 0 (by decide +kernel) rfl rfl)) (fun _ _ _ _=>(@Zh _)) (fun _ _ _ _=>(@Jl5 _ _ _ _ _ _ _ _ _ _ _ _ (@Jg1 _) (@Jg1 _) (@JS _ _ _ _) (@Yd _ _ _ _ _ _ _ _ _ 0 rfl rfl (by decide) (by decide)) (@JS _ _ _ _) (by with_unfolding_all rfl))) rfl rfl rfl (by intro _; rfl)) (@Jc _) rfl) (by decide) (by decide) rfl rfl)))),?_⟩;refine ⟨_,rfl,z,rfl,hzl,_,_,rfl,rfl,_,rfl,Yw (fun c=>Y9 ?_) (fun c=>?_)⟩
  ·have c':(z.length:Int) < 1:=of_decide_eq_true c;have e:Y5 z=false:=by unfold Y5; rw [decide_eq_false (by omega)]; rfl
   rw [← e];exact q H (Jg.refl _)
  refine ⟨_,rfl,z,rfl,hzl,_,_,rfl,rfl,_,rfl,Yw (fun d=>?_) (fun d=>?_)⟩
  ·have d':(6:Int) < z.length:=of_decide_eq_true d;have e:Y5 z=false:=by unfold Y5; rw [decide_eq_false (p:=z.length≤6) (by omega),Bool.and_false]; rfl
   rw [← e];exact q H (Jg.refl _)
  have c':¬ (z.length:Int) < 1:=fun w=>c (decide_eq_true w)
  have d':¬ (6:Int) < z.length:=fun w=>d (decide_eq_true w)
  have e:Y5 z=z.cps.toList.all Zw:=by unfold Y5; rw [decide_eq_true (by omega),decide_eq_true (by omega)]; rfl
  refine ⟨_,rfl,z,rfl,fun D hD=>?_⟩;refine Jhz (fun i v=>∃ c,z.cps[i]?=some c∧v=.bl (Zw c)) rfl hD hzl (fun i c H2 hc e2 Q' hQ=>?_) (fun ys H2 e2 hD2 hl hF=>?_)
  ·refine ⟨_,rfl,_,_,rfl,rfl,_,rfl,?_⟩;have e1:(!decide ([c] < [97]))=decide (97≤c):=by rw [lt1,Bool.eq_iff_iff]; simp
   have e2:(!decide ([122] < [c]))=decide (c≤122):=by rw [lt1,Bool.eq_iff_iff]; simp
   by_cases h1:97≤c
   ·refine Zr (e1.trans (decide_eq_true h1)) ⟨_,_,rfl,rfl,?_⟩;refine hQ _ ⟨c,hc,congrArg V.bl (e2.trans ?_)⟩;unfold Zw;rw [decide_eq_true h1]; rfl
   ·refine YA (e1.trans (decide_eq_false h1)) (hQ _ ⟨c,hc,congrArg V.bl ?_⟩);unfold Zw;rw [decide_eq_false h1]; rfl
  ·have hys:ys=(z.cps.toList.map Zw).map V.bl:=by
    apply List.ext_getElem?;intro i;by_cases hi:i < ys.length
    ·obtain ⟨c,h1,h2⟩:=hF i _ (List.getElem?_eq_getElem hi);rw [List.getElem?_eq_getElem hi,h2,List.getElem?_map,List.getElem?_map,Array.getElem?_toList,h1];rfl
    ·rw [List.getElem?_eq_none (by omega),List.getElem?_eq_none];rw [List.length_map,List.length_map,Array.length_toList];have e9:z.cps.size=z.length:=rfl;omega
   refine ⟨D,z.cps.toList.map Zw,rfl,by rw [← hys]; exact Jo.of hD2,?_⟩;have e3:(z.cps.toList.map Zw).all id=Y5 z:=by rw [e,List.all_map]; rfl
   rw [e3];exact q H2 e2
theorem Jai (T:Txt K mg):JM P w K mg base Y6 1 T.JaI T.Jao ["things"] (Jm2 K):=by
 refine T.Zb.F.ok Jd5 (fun vs H Q E h=>?_) (fun cdv A outer s H vs Q E hr h=>?_)
 ·obtain ⟨_,rfl,_⟩:=h;rfl
 ·obtain ⟨l,rfl,hl,q⟩:=h;refine ⟨_,(@Jh _ _ _ (@JN _ _ _ _ _ _ _ _ (@Js _ _ _ _ _ _ _ _ (@Jcq _) (@JI _ _ _ _ _ _ _ _ _ (@JiT _) rfl T.ZQ PySem.boot_len (@Ja _ _ _ _ _ (@ZC _ _ _ _ _ _ _ _ _ (@Jk9 _ rfl hr.units) rfl T.JmM PyProof.Rows.boot_set (@Ja _ _ _ _ _ (@pv _ 0 _ _ rfl (.inl rfl) rfl rfl) (@Jc _) rfl) (by decide) (by decide) rfl rfl) (@Jc _) rfl) (by decide) (by decide) rfl rfl) (@JI _ _ _ _ _ _ _ _ _ (@Yp _) rfl T.ZQ PySem.boot_len (@Ja _ _ _ _ _ (@pv _ 0 _ _ rfl (.inl rfl) rfl rfl) (@Jc _) rfl) (by decide) (by decide) rfl rfl) (JC _)) (@Jh _ _ _ (@JdO _ _)) (@Jy _))),?_⟩;rcases hl with ⟨ss,hS,hz,nd⟩ | ⟨us,kss,hS,tt,hz,nd⟩
  ·refine ⟨_,rfl,.inl ⟨l,ss,rfl,hS,hz,fun p hp=>⟨p,_,rfl,Jf,_,rfl,l,_,rfl,.inl ((Jg.upd hp).seq hS),_,_,rfl,rfl,_,rfl,YA (decide_eq_false ?_) (q _ (Jg.upd hp))⟩⟩⟩;rw [JfV nd,List.length_map];exact Int.lt_irrefl _
  ·refine ⟨_,rfl,.inr ⟨l,us,kss,rfl,hS,tt,hz,fun p hp=>⟨p,_,rfl,Jf,_,rfl,l,_,rfl,.inl ((Jg.upd hp).seq hS),_,_,rfl,rfl,_,rfl,YA (decide_eq_false ?_) (q _ (Jg.upd hp))⟩⟩⟩;rw [JfV nd,tt.1];exact Int.lt_irrefl _
theorem Jay (T:Txt K mg):JM P w K mg base (Y4 P w) 1 T.Jce T.JbC ["place", "places"] (JlG K T.Yv):=by
 refine T.Zv.F.ok1 Jgg (fun vs H Q E h=>?_) (fun cdv A outer s H vs Q E hr h=>?_)
 ·obtain ⟨_,_,_,rfl,_⟩:=h;rfl
 ·obtain ⟨z,t,ps,rfl,ht,hS,q1,q2⟩:=h;refine ⟨_,(@Jh _ _ _ (@JN _ _ _ _ _ _ _ _ (@Js _ _ _ _ _ _ _ _ (@Ja6 _) (@pv _ 0 _ _ rfl (.inl rfl) rfl rfl) (@pv _ 1 _ _ rfl (.inl rfl) rfl rfl) (by with_unfolding_all rfl)) (@Jh _ _ _ (@JcO _ _ _ _ _ _ _ _ _ T.Jf2 T.Jhh Jdw (@JeK _ _ _ _ _ _ (PJ.cons (@Jh2 _ _ _ _ (@pv _ 0 _ _ rfl (.inl rfl) rfl rfl)) (PJ.cons (@JS _ _ _ _) PJ.nil)) rfl) rfl rfl (by decide) rfl)) (@Jy _))),?_⟩;refine ⟨_,rfl,_,rfl,t,_,rfl,hS,rfl,Jdd ps,_,rfl,?_⟩;rw [if_pos rfl,JdT];by_cases hin:z∈ps
  ·exact YA (by rw [decide_eq_true hin]; rfl) (q1 hin)
  ·have hz:=JgX ht;have e1:(Str.empty ++ reprText z).length=(reprText z).length:=by rw [strLen_append]; exact Nat.zero_add _
   refine Zr (by rw [decide_eq_false hin]; rfl) ⟨_,rfl,z,rfl,Nat.le_trans hz (by decide),_,rfl,by rw [e1]; exact Nat.le_trans hz (by decide),_,rfl,?_,?_,q2 hin⟩
   all_goals
    rw [strLen_append,e1];refine Nat.le_trans (Nat.add_le_add_right hz _) (by decide)
theorem JfF (T:Txt K mg):JM P w K mg base Y6 2 T.JbF T.Jbc ["places"] (Jjw K):=by
 refine T.JbJ.F.ok Jda (fun vs H Q E h=>?_) (fun cdv A outer s H vs Q E hr h=>?_)
 ·obtain ⟨_,_,rfl,_⟩:=h;rfl
 ·obtain ⟨l,ps,rfl,hS,h1,h2,h3,h4,q⟩:=h;refine ⟨_,(@Jd _ _ _ _ _ (@JN _ _ _ _ _ _ _ _ (@PW.pt _ _ _ (@JbM _ _ _ _ _ _ _ (@Js _ _ _ _ _ _ _ _ (@Jcq _) (@JI _ _ _ _ _ _ _ _ _ (@Yp _) rfl T.ZQ PySem.boot_len (@Ja _ _ _ _ _ (@pv _ 0 _ _ rfl (.inl rfl) rfl rfl) (@Jc _) rfl) (by decide) (by decide) rfl rfl) (@Jb _ _ _ _) (JC _)) (@Ja4 _ _ _ _ (@Js _ _ _ _ _ _ _ _ (@Jcr _) (@JI _ _ _ _ _ _ _ _ _ (@Yp _) rfl T.ZQ PySem.boot_len (@Ja _ _ _ _ _ (@pv _ 0 _ _ rfl (.inl rfl) rfl rfl) (@Jc _) rfl) (by decide) (by decide) rfl rfl) (@Jaw _ _ _ _ _ rfl T.JaP T.JaN (by decide)) (JC _))))) (@Jh _ _ _ (@JdO _ _)) (@Jy _)) (@Jd _ _ _ _ _ (@Yt _ _ _ _ _ _ _ _ PassesOwn.never rfl (@Yr _ _ _ _ (@pv _ 0 _ _ rfl (.inl rfl) rfl rfl)) (@J8 _ _ 1 _ Jda.nd rfl (Or.inl rfl) (.inl rfl)) (@Jh _ _ _ (@JN _ _ _ _ _ _ _ _ (@Jd8 _ _ _ _ (@JbU _ _ _ (@Jn _ _ _ _ _ _ _ _ _ _ _ _ _ _ _ T.Jdq (Jie T) (hr.mono (by decide)) JL (@Ja _ _ _ _ _ (@pv _ 1 _ _ rfl (.inl rfl) rfl rfl) (@Jc _) rfl) rfl (by decide) rfl rfl) (by intro _; rfl))) (@Jh _ _ _ (@JdO _ _)) (@Jy _))) (by intro _; rfl)) (@Jh _ _ _ (@JH _ _ _ _ (@Jn _ _ _ _ _ _ _ _ _ _ _ _ _ _ _ T.Zb (Jai T) (hr.mono (by decide)) JL (@Ja _ _ _ _ _ (@pv _ 0 _ _ rfl (.inl rfl) rfl rfl) (@Jc _) rfl) rfl (by decide) rfl rfl) rfl)))),?_⟩;refine ⟨_,rfl,l,_,rfl,.inl hS,_,_,rfl,rfl,_,rfl,YA (decide_eq_false (by rw [List.length_map]; omega)) ?_⟩;refine ⟨_,rfl,l,_,rfl,.inl hS,_,_,rfl,rfl,_,rfl,YA (decide_eq_false (by rw [List.length_map]; omega)) ?_⟩;refine ⟨_,rfl,l,rfl,⟨_,hS⟩,Jan (xs:=ps.map V.str) (fun i σ H2=>Jg H H2∧∃ v,σ=[some (.ref l),v]) ⟨Jg.refl _,none,rfl⟩ (fun i σ H2 _ h=>h.1.seq hS) ?_ ?_⟩
  ·rintro i x σ H2 hx ⟨e2,v,rfl⟩;obtain ⟨p,hp,rfl⟩:=List.mem_map.mp (List.mem_of_getElem? hx);refine ⟨_,rfl,p,rfl,Nat.le_trans (Jip (h3 p hp)).1 (by decide),fun H3 e3=>⟨_,rfl,YA (by rw [h3 p hp]; rfl) ?_⟩⟩;exact ⟨e2.trans e3,_,rfl⟩
  ·rintro σ H2 ⟨e2,v,rfl⟩;exact ⟨_,rfl,l,rfl,.inl ⟨ps,e2.seq hS,by omega,h4⟩,fun H3 e3=>q H3 (e2.trans e3)⟩
theorem Jgs (T:Txt K mg):JM P w K mg base Y6 2 T.Jcb T.Jbz ["lanes", "places"] (Jkn K):=by
 refine T.Jci.F.ok Jdt (fun vs H Q E h=>?_) (fun cdv A outer s H vs Q E hr h=>?_)
 ·obtain ⟨_,_,_,_,rfl,_⟩:=h;rfl
 ·obtain ⟨l,lp,zs,ps,rfl,hS,hP,hp,ht,h1,h2,h3,q⟩:=h;refine ⟨_,(@Jd _ _ _ _ _ (@JN _ _ _ _ _ _ _ _ (@Js _ _ _ _ _ _ _ _ (@Jcr _) (@JI _ _ _ _ _ _ _ _ _ (@Yp _) rfl T.ZQ PySem.boot_len (@Ja _ _ _ _ _ (@pv _ 0 _ _ rfl (.inl rfl) rfl rfl) (@Jc _) rfl) (by decide) (by decide) rfl rfl) (@Jaw _ _ _ _ _ rfl T.Jbb T.Ja3 (by decide)) (JC _)) (@Jh _ _ _ (@JdO _ _)) (@Jy _)) (@Jd _ _ _ _ _ (@Yt _ _ _ _ _ _ _ _ PassesOwn.never rfl (@Yr _ _ _ _ (@pv _ 0 _ _ rfl (.inl rfl) rfl rfl)) (@J8 _ _ 2 _ Jdt.nd rfl (Or.inl rfl) (.inl rfl)) (@Jd _ _ _ _ _ (@JH _ _ _ _ (@Jn _ _ _ _ _ _ _ _ _ _ _ _ _ _ _ T.Zv (Jay T) (hr.mono (by decide)) Y0 (@Ja _ _ _ _ _ (@JB _ _ _ _ _ _ _ (@YF _) (@pv _ 2 _ _ rfl (.inl rfl) rfl rfl) (@Jb _ _ _ _) (fun _ _=>rfl)) (@Ja _ _ _ _ _ (@pv _ 1 _ _ rfl (.inl rfl) rfl rfl) (@Jc _) rfl) rfl) rfl (by decide) rfl rfl) rfl) (@Jh _ _ _ (@JH _ _ _ _ (@Jn _ _ _ _ _ _ _ _ _ _ _ _ _ _ _ T.Zv (Jay T) (hr.mono (by decide)) Y0 (@Ja _ _ _ _ _ (@JB _ _ _ _ _ _ _ (@YF _) (@pv _ 2 _ _ rfl (.inl rfl) rfl rfl) (@Jb _ _ _ _) (fun _ _=>rfl)) (@Ja _ _ _ _ _ (@pv _ 1 _ _ rfl (.inl rfl) rfl rfl) (@Jc _) rfl) rfl) rfl (by decide) rfl rfl) rfl))) (by intro _; rfl)) (@Jh _ _ _ (@JH _ _ _ _ (@Jn _ _ _ _ _ _ _ _ _ _ _ _ _ _ _ T.Zb (Jai T) (hr.mono (by decide)) JL (@Ja _ _ _ _ _ (@pv _ 0 _ _ rfl (.inl rfl) rfl rfl) (@Jc _) rfl) rfl (by decide) rfl rfl) rfl)))),?_⟩;refine ⟨_,rfl,l,_,rfl,.inl hS,_,_,rfl,rfl,_,rfl,YA (decide_eq_false (by rw [List.length_map]; omega)) ?_⟩;refine ⟨_,rfl,l,rfl,⟨_,hS⟩,Jan (xs:=zs.map (·.1)) (fun i σ H2=>H2=H∧∃ v,σ=[some (.ref l),some (.ref lp),v]) ⟨rfl,none,rfl⟩ (fun i σ H2 _ h=>by rw [h.1]; exact hS) ?_ ?_⟩
  ·rintro i x σ H2 hx ⟨rfl,v,rfl⟩;obtain ⟨z,hz,rfl⟩:=List.mem_map.mp (List.mem_of_getElem? hx);obtain ⟨a,ea,ha⟩:=hP z hz;obtain ⟨i1,i2⟩:=h2 z hz;refine ⟨_,rfl,a,_,_,.str z.2.1,ea,rfl,ha,rfl,_,rfl,z.2.1,lp,ps,rfl,ht _ i1,.inl hp,fun _=>?_,fun hn=>absurd i1 hn⟩;exact ⟨_,rfl,a,_,_,.str z.2.2,ea,rfl,ha,rfl,_,rfl,z.2.2,lp,ps,rfl,ht _ i2,.inl hp,fun _=>⟨rfl,_,rfl⟩,fun hn=>absurd i2 hn⟩
  ·rintro σ H2 ⟨rfl,v,rfl⟩;exact ⟨_,rfl,l,rfl,.inr ⟨_,_,hS,JjF hP,by rw [List.length_map,List.length_map]; omega,JiN h3⟩,fun H3 e3=>q H3 e3⟩
theorem Jgt (T:Txt K mg):JM P w K mg base Y6 2 T.Jcc T.JbA ["goals", "places"] (Jko K):=by
 refine T.Jcj.F.ok Jdu (fun vs H Q E h=>?_) (fun cdv A outer s H vs Q E hr h=>?_)
 ·obtain ⟨_,_,_,_,rfl,_⟩:=h;rfl
 ·obtain ⟨l,lp,gs,ps,rfl,hS,hp,ht,h1,h2,h3,q⟩:=h;refine ⟨_,(@Jd _ _ _ _ _ (@Yt _ _ _ _ _ _ _ _ PassesOwn.never rfl (@Yr _ _ _ _ (@pv _ 0 _ _ rfl (.inl rfl) rfl rfl)) (@J8 _ _ 2 _ Jdu.nd rfl (Or.inl rfl) (.inl rfl)) (@Jh _ _ _ (@JH _ _ _ _ (@Jn _ _ _ _ _ _ _ _ _ _ _ _ _ _ _ T.Zv (Jay T) (hr.mono (by decide)) Y0 (@Ja _ _ _ _ _ (@pv _ 2 _ _ rfl (.inl rfl) rfl rfl) (@Ja _ _ _ _ _ (@pv _ 1 _ _ rfl (.inl rfl) rfl rfl) (@Jc _) rfl) rfl) rfl (by decide) rfl rfl) rfl)) (by intro _; rfl)) (@Jh _ _ _ (@JH _ _ _ _ (@Jn _ _ _ _ _ _ _ _ _ _ _ _ _ _ _ T.Zb (Jai T) (hr.mono (by decide)) JL (@Ja _ _ _ _ _ (@pv _ 0 _ _ rfl (.inl rfl) rfl rfl) (@Jc _) rfl) rfl (by decide) rfl rfl) rfl))),?_⟩;refine ⟨_,rfl,l,rfl,⟨_,hS⟩,Jan (xs:=gs.map V.str) (fun i σ H2=>H2=H∧∃ v,σ=[some (.ref l),some (.ref lp),v]) ⟨rfl,none,rfl⟩ (fun i σ H2 _ h=>by rw [h.1]; exact hS) ?_ ?_⟩
  ·rintro i x σ H2 hx ⟨rfl,v,rfl⟩;obtain ⟨g,hg,rfl⟩:=List.mem_map.mp (List.mem_of_getElem? hx);exact ⟨_,rfl,_,rfl,g,lp,ps,rfl,ht _ (h2 g hg),.inl hp,fun _=>⟨rfl,_,rfl⟩,fun hn=>absurd (h2 g hg) hn⟩
  ·rintro σ H2 ⟨rfl,v,rfl⟩;exact ⟨_,rfl,l,rfl,.inl ⟨gs,hS,h1,h3⟩,fun H3 e3=>q H3 e3⟩
theorem Jhy (T:Txt K mg):JM P w K mg base Y6 3 T.Jbg T.Jb9 ["self", "places", "lanes", "goals"] (JiW K T.JD):=by
 refine T.Jc8.F.ok Jhv (fun vs H Q E h=>?_) (fun cdv A outer s H vs Q E hr h=>?_)
 ·obtain ⟨_,_,_,_,_,_,_,_,rfl,_⟩:=h;rfl
 ·obtain ⟨b,lp,ll,lg,dx,ps,zs,gs,rfl,hb,hp,hl,hP,hg,G,q⟩:=h;refine ⟨_,(@Jd _ _ _ _ _ (@JH _ _ _ _ (@Jn _ _ _ _ _ _ _ _ _ _ _ _ _ _ _ T.JbJ (JfF T) (hr.mono (by decide)) JL (@Ja _ _ _ _ _ (@pv _ 1 _ _ rfl (.inl rfl) rfl rfl) (@Jc _) rfl) rfl (by decide) rfl rfl) rfl) (@Jd _ _ _ _ _ (@JH _ _ _ _ (@Jn _ _ _ _ _ _ _ _ _ _ _ _ _ _ _ T.Jci (Jgs T) (hr.mono (by decide)) JL (@Ja _ _ _ _ _ (@pv _ 2 _ _ rfl (.inl rfl) rfl rfl) (@Ja _ _ _ _ _ (@pv _ 1 _ _ rfl (.inl rfl) rfl rfl) (@Jc _) rfl) rfl) rfl (by decide) rfl rfl) rfl) (@Jd _ _ _ _ _ (@JH _ _ _ _ (@Jn _ _ _ _ _ _ _ _ _ _ _ _ _ _ _ T.Jcj (Jgt T) (hr.mono (by decide)) JL (@Ja _ _ _ _ _ (@pv _ 3 _ _ rfl (.inl rfl) rfl rfl) (@Ja _ _ _ _ _ (@pv _ 1 _ _ rfl (.inl rfl) rfl rfl) (@Jc _) rfl) rfl) rfl (by decide) rfl rfl) rfl) (@Jd _ _ _ _ _ (@JcP _ _ _ _ _ _ _ _ (@pv _ 0 _ _ rfl (.inl rfl) rfl rfl) (@ZC _ _ _ _ _ _ _ _ _ (@JaQ _) rfl T.Jdz PyProof.Rows.boot_tuple (@Ja _ _ _ _ _ (@JI _ _ _ _ _ _ _ _ _ (@Jbh _) rfl T.JaT PyProof.Rows.boot_sorted (@Ja _ _ _ _ _ (@pv _ 1 _ _ rfl (.inl rfl) rfl rfl) (@Jc _) rfl) (by decide) (by decide) rfl rfl) (@Jc _) rfl) (by decide) (by decide) rfl rfl) rfl) (@Jd _ _ _ _ _ (@JcP _ _ _ _ _ _ _ _ (@pv _ 0 _ _ rfl (.inl rfl) rfl rfl) (@ZC _ _ _ _ _ _ _ _ _ (@JaQ _) rfl T.Jdz PyProof.Rows.boot_tuple (@Ja _ _ _ _ _ (@JI _ _ _ _ _ _ _ _ _ (@Jj4 _) rfl T.JaT PyProof.Rows.boot_sorted (@Ja _ _ _ _ _ (@pv _ 2 _ _ rfl (.inl rfl) rfl rfl) (@Jc _) rfl) (by decide) (by decide) rfl rfl) (@Jc _) rfl) (by decide) (by decide) rfl rfl) rfl) (@Jh _ _ _ (@JcP _ _ _ _ _ _ _ _ (@pv _ 0 _ _ rfl (.inl rfl) rfl rfl) (@ZC _ _ _ _ _ _ _ _ _ (@JaQ _) rfl T.Jdz PyProof.Rows.boot_tuple (@Ja _ _ _ _ _ (@JI _ _ _ _ _ _ _ _ _ (@Jbh _) rfl T.JaT PyProof.Rows.boot_sorted (@Ja _ _ _ _ _ (@pv _ 3 _ _ rfl (.inl rfl) rfl rfl) (@Jc _) rfl) (by decide) (by decide) rfl rfl) (@Jc _) rfl) (by decide) (by decide) rfl rfl) rfl))))))),?_⟩;have ht:∀ p∈ps,YU p:=fun p h=>YB (G.p3 p h)
  have hzl:zs.length≤40:=by have:=G.l1; rwa [List.length_map] at this
  have hl2:∀ z∈zs,z.2.1∈ps∧z.2.2∈ps:=fun z hz=>G.l2 z.2 (List.mem_map.mpr ⟨z,hz,rfl⟩)
  have hgl:=G.glen;refine ⟨_,rfl,lp,ps,rfl,hp,G.p1,G.p2,G.p3,G.p4,fun H1 e1=>?_⟩;refine ⟨_,rfl,_,rfl,ll,lp,zs,ps,rfl,e1.seq hl,YL hP e1,e1.seq hp,ht,hzl,hl2,G.l3,fun H2 e2=>?_⟩;have e12:=e1.trans e2;refine ⟨_,rfl,_,rfl,lg,lp,gs,ps,rfl,e12.seq hg,e12.seq hp,ht,by omega,G.g1,G.g2,fun H3 e3=>?_⟩;have e13:=e12.trans e3;have hb3:=e13 _ _ hb;refine ⟨_,rfl,lp,ps,rfl,e13.seq hp,by have:=G.p2; omega,fun p4 ps' n4 pp ps4=>⟨p4,_,rfl,.inl ⟨Jo.of Jf,fun t5 n5=>?_⟩⟩⟩;have e35:=(Jg.upd (o:=.lst (ps'.map V.str)) n4).trans (Jg.upd (o:=.tup (ps'.map V.str)) n5);refine ⟨_,rfl,b,_,dx,_,rfl,e35 _ _ hb3,T.Yo,T.Z6,by decide,?_⟩;have b6:=(Zp.of (b:=b) (e13.trans e35)).trans (Zp.put (o:=.ins T.JD dx (Yb "places" (.ref t5) [])));have t5b:t5≠b:=fun e=>by
   have z:=(Jg.upd (o:=.lst (ps'.map V.str)) n4) _ _ hb3;rw [e,z] at n5; cases n5
  have hp6:upd (upd (upd H3 p4 (.lst (ps'.map V.str))) t5 (.tup (ps'.map V.str))) b (.ins T.JD dx (Yb "places" (.ref t5) [])) t5=some (.tup (ps'.map V.str)):=by rw [Jq t5b,Jf]
  have hb6:upd (upd (upd H3 p4 (.lst (ps'.map V.str))) t5 (.tup (ps'.map V.str))) b (.ins T.JD dx (Yb "places" (.ref t5) [])) b=some (.ins T.JD dx [("places",.ref t5)]):=Jf;generalize upd (upd (upd H3 p4 (.lst (ps'.map V.str))) t5 (.tup (ps'.map V.str))) b (.ins T.JD dx (Yb "places" (.ref t5) []))=H6 at b6 hp6 hb6;refine ⟨_,rfl,ll,zs,rfl,b6.seq hb hl,fun z hz=>let ⟨a,h1,h2⟩:=hP z hz; ⟨a,h1,b6.tup hb h2⟩,by omega,fun p7 zs' n7 zp zs7=>⟨p7,_,rfl,.inl ⟨Jo.of Jf,fun t8 n8=>?_⟩⟩⟩;have e68:=(Jg.upd (o:=.lst (zs'.map (·.1))) n7).trans (Jg.upd (o:=.tup (zs'.map (·.1))) n8);refine ⟨_,rfl,b,_,dx,_,rfl,e68 _ _ hb6,T.Yo,T.Jbv,by show 1 < 1000; decide,?_⟩;have b9:=(b6.trans (Zp.of e68)).trans (Zp.put (o:=.ins T.JD dx (Yb "lanes" (.ref t8) [("places",.ref t5)])));have t8b:t8≠b:=fun e=>by
   have z:=(Jg.upd (o:=.lst (zs'.map (·.1))) n7) _ _ hb6;rw [e,z] at n8; cases n8
  have hl9:upd (upd (upd H6 p7 (.lst (zs'.map (·.1)))) t8 (.tup (zs'.map (·.1)))) b (.ins T.JD dx (Yb "lanes" (.ref t8) [("places",.ref t5)])) t8=some (.tup (zs'.map (·.1))):=by rw [Jq t8b,Jf]
  have hp9:upd (upd (upd H6 p7 (.lst (zs'.map (·.1)))) t8 (.tup (zs'.map (·.1)))) b (.ins T.JD dx (Yb "lanes" (.ref t8) [("places",.ref t5)])) t5=some (.tup (ps'.map V.str)):=by rw [Jq t5b]; exact e68 _ _ hp6
  have hb9:upd (upd (upd H6 p7 (.lst (zs'.map (·.1)))) t8 (.tup (zs'.map (·.1)))) b (.ins T.JD dx (Yb "lanes" (.ref t8) [("places",.ref t5)])) b=some (.ins T.JD dx [("places",.ref t5),("lanes",.ref t8)]):=Jf;generalize upd (upd (upd H6 p7 (.lst (zs'.map (·.1)))) t8 (.tup (zs'.map (·.1)))) b (.ins T.JD dx (Yb "lanes" (.ref t8) [("places",.ref t5)]))=H9 at b9 hl9 hp9 hb9;refine ⟨_,rfl,lg,gs,rfl,b9.seq hb hg,by omega,fun p10 gs' n10 gp gs10=>⟨p10,_,rfl,.inl ⟨Jo.of Jf,fun t11 n11=>?_⟩⟩⟩;have e911:=(Jg.upd (o:=.lst (gs'.map V.str)) n10).trans (Jg.upd (o:=.tup (gs'.map V.str)) n11);refine ⟨_,rfl,b,_,dx,_,rfl,e911 _ _ hb9,T.Yo,T.Jbw,by show 2 < 1000; decide,?_⟩;have b12:=(b9.trans (Zp.of e911)).trans (Zp.put (o:=.ins T.JD dx (Yb "goals" (.ref t11) [("places",.ref t5),("lanes",.ref t8)])));have t11b:t11≠b:=fun e=>by
   have z:=(Jg.upd (o:=.lst (gs'.map V.str)) n10) _ _ hb9;rw [e,z] at n11; cases n11
  refine q _ ps' zs' gs' b12 pp ps4 zp zs7 gp gs10 ⟨dx,t5,t8,t11,Jf,?_,?_,fun z hz=>?_,?_⟩
  ·rw [Jq t5b]; exact e911 _ _ hp9
  ·rw [Jq t8b]; exact e911 _ _ hl9
  ·obtain ⟨a,h1,h2⟩:=hP z (zp.mem_iff.mp hz);exact ⟨a,h1,b12.tup hb h2⟩
  ·rw [Jq t11b,Jf]
theorem Zc (T:Txt K mg):JM P w K mg base (Y4 P w) 2 T.Z0 T.ZR ["self", "place"] (Jkm K T.JD T.Yv):=by
 refine T.JW.F.ok1 JdL (fun vs H Q E h=>?_) (fun cdv A outer s H vs Q E hr h=>?_)
 ·obtain ⟨_,_,_,_,_,rfl,_⟩:=h;rfl
 ·obtain ⟨b,z,ps,zs,gs,rfl,ht,⟨dx,tp,tl,tg,hb,hp,_⟩,q1,q2⟩:=h;refine ⟨_,(@Jh _ _ _ (@JH _ _ _ _ (@Jn _ _ _ _ _ _ _ _ _ _ _ _ _ _ _ T.Zv (Jay T) (hr.mono (by decide)) Yz (@Ja _ _ _ _ _ (@pv _ 1 _ _ rfl (.inl rfl) rfl rfl) (@Ja _ _ _ _ _ (@Yk _ _ _ _ _ (@pv _ 0 _ _ rfl (.inl rfl) rfl rfl) rfl) (@Jc _) rfl) rfl) rfl (by decide) rfl rfl) rfl)),?_⟩;exact ⟨_,rfl,_,rfl,b,_,dx,_,.ref tp,rfl,hb,T.Yo,T.Z6,rfl,z,tp,ps,rfl,ht,.inr (JT.of hp),q1,q2⟩
theorem Jfe (T:Txt K mg):JM P w K mg base (Y4 P w) 3 T.Jbf T.JaU ["self", "place"] (Jkk K T.JD T.Yv):=by
 refine T.Z8.F.ok1 Je7 (fun vs H Q E h=>?_) (fun cdv A outer s H vs Q E hr h=>?_)
 ·obtain ⟨_,_,_,_,_,rfl,_⟩:=h;rfl
 ·obtain ⟨b,z,ps,zs,gs,rfl,ht,B,q1,q2⟩:=h;refine ⟨_,(@Jd _ _ _ _ _ (@JH _ _ _ _ (@JV _ _ _ _ _ _ _ _ _ _ _ _ _ _ _ _ _ _ _ _ (@pv _ 0 _ _ rfl (.inl rfl) rfl rfl) T.Yo T.JW.m (Zc T) (hr.mono (by decide)) T.JW.b .nil Yz (@Ja _ _ _ _ _ (@pv _ 1 _ _ rfl (.inl rfl) rfl rfl) (@Jc _) rfl) rfl rfl rfl) rfl) (@Jh _ _ _ (@Ju _ _ _ _ (@JeL _ _ _ _ _ _ _ _ (@Jg2 _) (@pv _ 1 _ _ rfl (.inl rfl) rfl rfl) (@Yk _ _ _ _ _ (@pv _ 0 _ _ rfl (.inl rfl) rfl rfl) rfl) (by with_unfolding_all rfl))))),?_⟩;obtain ⟨dx,tp,tl,tg,hb,hp,hl,hP,hg⟩:=id B;refine ⟨_,rfl,b,dx,_,rfl,hb,rfl,_,rfl,b,z,ps,zs,gs,rfl,ht,B,fun hin=>?_,q2⟩;refine ⟨_,rfl,_,rfl,b,_,dx,_,.ref tg,rfl,hb,T.Yo,T.Jbw,rfl,tg,_,rfl,.inr (JT.of hg),rfl,Jdd gs,?_⟩;rw [if_neg Bool.false_ne_true,JdT];exact q1 hin
theorem JaO (T:Txt K mg):JM P w K mg base (Y4 P w) 3 T.Jc1 T.Jb8 ["self", "place"] (JmZ K T.JD T.Yv):=by
 refine T.Yy.F.ok1 Jhu (fun vs H Q E h=>?_) (fun cdv A outer s H vs Q E hr h=>?_)
 ·obtain ⟨_,_,_,_,_,rfl,_⟩:=h;rfl
 ·obtain ⟨b,z,ps,zs,gs,rfl,ht,hlen,B,q1,q2⟩:=h;refine ⟨_,(@Jd _ _ _ _ _ (@JH _ _ _ _ (@JV _ _ _ _ _ _ _ _ _ _ _ _ _ _ _ _ _ _ _ _ (@pv _ 0 _ _ rfl (.inl rfl) rfl rfl) T.Yo T.JW.m (Zc T) (hr.mono (by decide)) T.JW.b .nil Yz (@Ja _ _ _ _ _ (@pv _ 1 _ _ rfl (.inr (.inl rfl)) rfl rfl) (@Jc _) rfl) rfl rfl rfl) rfl) (@Jh _ _ _ (@Ju _ _ _ _ (@ZC _ _ _ _ _ _ _ _ _ (@JaQ _) rfl T.Jdz PyProof.Rows.boot_tuple (@Ja _ _ _ _ _ (@Jcp _ _ _ _ _ _ _ 1 ["lane", "place"] [1] _ _ _ _ ["self", "place"] ((Jl Ja0).names) (by decide +kernel) (@JcQ _ _ _ _ (@Yk _ _ _ _ _ (@pv _ 0 _ _ rfl (.inl rfl) rfl rfl) rfl)) (fun _ _ _ _=>(@YK _ _ _ _ _ _ _ _ _ 0 (by decide +kernel) rfl rfl)) (fun _ _ _ _=>(@Jgq _ _ _ (@Js _ _ _ _ _ _ _ _ (@Yc _) (@JB _ _ _ _ _ _ _ (show IxR _ (JlZ K) from (@YF _)) (@Yd _ _ _ _ _ _ _ _ _ 0 rfl rfl (by decide) (by decide)) (@Jb _ _ _ _) (fun _ _=>rfl)) (@JX _ _ _ _ _ _ _ _ _ 1 rfl rfl (by decide) (by decide)) (JC _)))) (fun _ _ _ _=>(@JB _ _ _ _ _ _ _ (show IxR _ (JlZ K) from (@YF _)) (@Yd _ _ _ _ _ _ _ _ _ 0 rfl rfl (by decide) (by decide)) (@Jb _ _ _ _) (fun _ _=>rfl))) rfl rfl rfl (by intro _; rfl)) (@Jc _) rfl) (by decide) (by decide) rfl rfl)))),?_⟩;obtain ⟨dx,tp,tl,tg,hb,hp,hl,hP,hg⟩:=id B;refine ⟨_,rfl,b,dx,_,rfl,hb,rfl,_,rfl,b,z,ps,zs,gs,rfl,ht,B,fun hin=>?_,q2⟩;refine ⟨_,rfl,b,_,dx,_,.ref tl,rfl,hb,T.Yo,T.Jbv,rfl,tl,rfl,⟨_,JT.of hl⟩,fun D hD=>?_⟩;refine Jfr (xs:=zs.map (·.1)) (fun i ys H2=>Jg H H2∧H2 D=some (.lst ys)∧ys=(Jp ((zs.map (·.2)).take i) z).map V.str) rfl (fun i ys H2 p=>JT.of (p.1 _ _ hl)) ?_ (fun i ys H2 p=>p.2.1) ?_ ?_
  ·exact ⟨Jg.upd hD,Jf,by simp [Jp]⟩
  ·rintro i x ys H2 hx ⟨e2,hy,rfl⟩;rw [List.getElem?_map] at hx;obtain ⟨y,hy1,rfl⟩:=Option.map_eq_some_iff.mp hx;obtain ⟨a,ea,ha⟩:=hP y (List.mem_of_getElem? hy1);have ha2:=e2.tup ha;have step:(zs.map (·.2)).take (i + 1)=(zs.map (·.2)).take i ++ [y.2]:=by
    rw [List.take_succ,List.getElem?_map,hy1]; rfl
   have wstep:Jp ((zs.map (·.2)).take (i + 1)) z=Jp ((zs.map (·.2)).take i) z ++ (if y.2.1=z then [y.2.2] else []):=by
    unfold Jp;rw [step,List.filter_append,List.map_append];by_cases h:y.2.1=z
    ·simp [h]
    ·simp [h]
   have wl:(Jp ((zs.map (·.2)).take i) z).length≤40:=by
    unfold Jp;rw [List.length_map];refine Nat.le_trans (List.length_filter_le _ _) ?_;rw [List.length_take,List.length_map];omega
   refine ⟨_,rfl,a,_,_,.str y.2.1,ea,rfl,ha2,rfl,_,rfl,rfl,_,rfl,?_⟩;by_cases h:y.2.1=z
   ·refine Zr (by rw [h]; exact decide_eq_true rfl) ⟨_,rfl,a,_,_,.str y.2.2,ea,rfl,ha2,rfl,hy,by rw [List.length_map]; exact Nat.lt_of_le_of_lt wl (by decide),fun b' u e=>?_,Jf,?_⟩
    ·rw [Jq (Jr e hD)]; exact e2 b' u e
    ·rw [wstep,if_pos h,List.map_append]; rfl
   ·refine YA (decide_eq_false (fun e=>h (V.str.inj e))) ⟨e2,hy,?_⟩;rw [wstep,if_neg h,List.append_nil]
  ·rintro ys H2 ⟨e2,hy,rfl⟩;rw [List.length_map] at hy;rw [show zs.length=(zs.map (·.2)).length by simp,List.take_length] at hy;refine ⟨D,_,rfl,.inl ⟨Jo.of hy,fun t n=>?_⟩⟩;exact q1 hin t _ (e2.trans (Jg.upd n)) Jf
theorem Jid (T:Txt K mg):JM P w K mg base Y6 2 T.JgG T.Jfj ["_law_cell", "_law_many"] Jlz:=by
 refine T.JeW.F.ok YJ (fun vs H Q E h=>?_) (fun cdv A outer s H vs Q E hr h=>?_)
 ·obtain ⟨_,_,rfl,_⟩:=h;rfl
 ·obtain ⟨c,n,rfl,hn1,hn2,q⟩:=h;refine ⟨_,(@Jd _ _ _ _ _ (@Jt _ _ 2 _ _ _ _ YJ.nd rfl (Or.inr rfl) (@JS _ _ _ _) rfl (by first | exact .inl rfl | exact .inr rfl | assumption)) (@Jd _ _ _ _ _ (@J2 _ _ _ (@Jt _ _ 3 _ _ _ _ YJ.nd rfl (Or.inl rfl) (@Jn _ _ _ _ _ _ _ _ _ _ _ _ _ _ _ T.Jf6 (Jia T) (hr.mono (by decide)) JL (@Ja _ _ _ _ _ (@Jj _ _ _ _ _ _ _ _ (@YE _) (@pv _ 0 _ _ rfl (.inl rfl) rfl rfl) (@Jb _ _ _ _)) (@Ja _ _ _ _ _ (@Jj _ _ _ _ _ _ _ _ (@ZU _) (@Jb _ _ _ _) (@pv _ 1 _ _ rfl (.inl rfl) rfl rfl)) (@Ja _ _ _ _ _ (@Jb _ _ _ _) (@Jc _) rfl) rfl) rfl) rfl (by decide) rfl rfl) rfl (.inl rfl))) (@Jd _ _ _ _ _ (@Jt _ _ 4 _ _ _ _ YJ.nd rfl (Or.inl rfl) (@Ye _ _ _ _ (@Jc _)) rfl (.inl rfl)) (@Jd _ _ _ _ _ (@Yt _ _ _ _ _ _ _ _ PassesOwn.never rfl (@Ze _ _ _ _ _ _ rfl T.Zu (@Ja _ _ _ _ _ (@pv _ 1 _ _ rfl (.inl rfl) rfl rfl) (@Jc _) rfl) rfl) (@J8 _ _ 5 _ YJ.nd rfl (Or.inl rfl) (.inl rfl)) (@Jd _ _ _ _ _ (@Jt _ _ 6 _ _ _ _ YJ.nd rfl (Or.inl rfl) (@Jfa _ _ _ _ _ _ _ _ _ _ (@Jgc _) (@pv _ 3 _ _ rfl (.inl rfl) rfl rfl) (@JeJ _ _ _ (@Jj _ _ _ _ _ _ _ _ (@ZU _) (@Jb _ _ _ _) (@pv _ 5 _ _ rfl (.inl rfl) rfl rfl))) (@JeJ _ _ _ (@Jj _ _ _ _ _ _ _ _ (@JP _) (@Jj _ _ _ _ _ _ _ _ (@ZU _) (@Jb _ _ _ _) (@pv _ 5 _ _ rfl (.inl rfl) rfl rfl)) (@Jb _ _ _ _)))) rfl (.inl rfl)) (@Jd _ _ _ _ _ (@Jt _ _ 7 _ _ _ _ YJ.nd rfl (Or.inl rfl) (@Jj _ _ _ _ _ _ _ _ (@JP _) (@Jb _ _ _ _) (@Jj _ _ _ _ _ _ _ _ (@JQ _) (@JB _ _ _ _ _ _ _ (@JF _) (@pv _ 3 _ _ rfl (.inl rfl) rfl rfl) (@Jj _ _ _ _ _ _ _ _ (@JP _) (@Jj _ _ _ _ _ _ _ _ (@ZU _) (@Jb _ _ _ _) (@pv _ 5 _ _ rfl (.inl rfl) rfl rfl)) (@Jb _ _ _ _)) (fun _ _=>rfl)) (@Jb _ _ _ _))) rfl (.inl rfl)) (@Jd _ _ _ _ _ (@J2 _ _ _ (@JN _ _ _ _ _ _ _ _ (@Js _ _ _ _ _ _ _ _ (@Yc _) (@Jj _ _ _ _ _ _ _ _ (@JQ _) (@pv _ 0 _ _ rfl (.inl rfl) rfl rfl) (@Jb _ _ _ _)) (@Jb _ _ _ _) (JC _)) (@Jd _ _ _ _ _ (@Jt _ _ 6 _ _ _ _ YJ.nd rfl (Or.inl rfl) (@Jfa _ _ _ _ _ _ _ _ _ _ (@Jgc _) (@pv _ 3 _ _ rfl (.inl rfl) rfl rfl) (@Ji2 _) (@JeJ _ _ _ (@Jb _ _ _ _))) rfl (.inl rfl)) (@Jd _ _ _ _ _ (@Jt _ _ 7 _ _ _ _ YJ.nd rfl (Or.inl rfl) (@Jj _ _ _ _ _ _ _ _ (@JP _) (@Jb _ _ _ _) (@Jj _ _ _ _ _ _ _ _ (@JQ _) (@JB _ _ _ _ _ _ _ (@JF _) (@pv _ 3 _ _ rfl (.inl rfl) rfl rfl) (@Jb _ _ _ _) (fun _ _=>rfl)) (@Jb _ _ _ _))) rfl (.inl rfl)) (@Jh _ _ _ (@Jn1 _ _ _ _ _ _ (@Jj _ _ _ _ _ _ _ _ (@JQ _) (@Jj _ _ _ _ _ _ _ _ (@JP _) (@JB _ _ _ _ _ _ _ (@JF _) (@pv _ 3 _ _ rfl (.inl rfl) rfl rfl) (@Jb _ _ _ _) (fun _ _=>rfl)) (@Jj _ _ _ _ _ _ _ _ (@ZU _) (@Jb _ _ _ _) (@pv _ 5 _ _ rfl (.inl rfl) rfl rfl))) (@Jb _ _ _ _)) (@Jn3 _ _ _ _ _ _ _ (@pv _ 6 _ _ rfl (.inl rfl) rfl rfl) (@Jj _ _ _ _ _ _ _ _ (@JQ _) (@JB _ _ _ _ _ _ _ (@JF _) (@pv _ 3 _ _ rfl (.inl rfl) rfl rfl) (@Jb _ _ _ _) (fun _ _=>rfl)) (@pv _ 7 _ _ rfl (.inl rfl) rfl rfl)) (@JlJ _) (by intro _; rfl)) rfl rfl rfl)))) (@Jy _))) (@Jd _ _ _ _ _ (@J2 _ _ _ (@JN _ _ _ _ _ _ _ _ (@Js _ _ _ _ _ _ _ _ (@Yc _) (@Jj _ _ _ _ _ _ _ _ (@JQ _) (@pv _ 0 _ _ rfl (.inl rfl) rfl rfl) (@Jb _ _ _ _)) (@Jb _ _ _ _) (JC _)) (@Jd _ _ _ _ _ (@Jt _ _ 6 _ _ _ _ YJ.nd rfl (Or.inl rfl) (@Jj _ _ _ _ _ _ _ _ (@Jn6 _) (@Ye _ _ _ _ (@Ja _ _ _ _ _ (@Jj _ _ _ _ _ _ _ _ (@JQ _) (@Jj _ _ _ _ _ _ _ _ (@JP _) (@JB _ _ _ _ _ _ _ (@JF _) (@pv _ 3 _ _ rfl (.inl rfl) rfl rfl) (@Jb _ _ _ _) (fun _ _=>rfl)) (@Jj _ _ _ _ _ _ _ _ (@YE _) (@pv _ 5 _ _ rfl (.inl rfl) rfl rfl) (@Jb _ _ _ _))) (@Jb _ _ _ _)) (@Jc _) rfl)) (@Jb _ _ _ _)) rfl (.inl rfl)) (@Jh _ _ _ (@Jt _ _ 7 _ _ _ _ YJ.nd rfl (Or.inl rfl) (@Jj _ _ _ _ _ _ _ _ (@JP _) (@Jb _ _ _ _) (@Jj _ _ _ _ _ _ _ _ (@JQ _) (@Jj _ _ _ _ _ _ _ _ (@JP _) (@pv _ 5 _ _ rfl (.inl rfl) rfl rfl) (@JB _ _ _ _ _ _ _ (@JF _) (@pv _ 3 _ _ rfl (.inl rfl) rfl rfl) (@Jb _ _ _ _) (fun _ _=>rfl))) (@Jb _ _ _ _))) rfl (.inl rfl)))) (@Jy _))) (@Jd _ _ _ _ _ (@J2 _ _ _ (@Jt _ _ 8 _ _ _ _ YJ.nd rfl (Or.inl rfl) (@Ja5 _ _ _ _ _ _ _ _ _ _ _ _ PySem.F.plainAttrs_str PySem.F.slot_str_join PySem.F.type_str_join (@Jnl _) (@JS _ _ _ _) (@Ja _ _ _ _ _ (@Jcp _ _ _ _ _ _ _ 1 ["_law_x", "_law_letters"] [2] _ _ _ _ ["_law_cell", "_law_many", "_law_letters", "_law_free", "_law_found", "_law_k", "_law_places", "_law_size", "_law_head", "_law_more", "_law_name"] ((Jl JeH).names) (by decide +kernel) (@Yr _ _ _ _ (@Jfa _ _ _ _ _ _ _ _ _ _ (@Jgc _) (@pv _ 6 _ _ rfl (.inl rfl) rfl rfl) (@Ji2 _) (@JeJ _ _ _ (@Jj _ _ _ _ _ _ _ _ (@Y2 _) (@pv _ 7 _ _ rfl (.inl rfl) rfl rfl) (@Jb _ _ _ _))))) (fun _ _ _ _=>(@YK _ _ _ _ _ _ _ _ _ 0 (by decide +kernel) rfl rfl)) (fun _ _ _ _=>(@Zh _)) (fun _ _ _ _=>(@JB _ _ _ _ _ _ _ (@JkS _) (@JX _ _ _ _ _ _ _ _ _ 1 rfl rfl (by decide) (by decide)) (@Yd _ _ _ _ _ _ _ _ _ 0 rfl rfl (by decide) (by decide)) (fun _ _=>rfl))) rfl rfl rfl (by intro _; rfl)) (@Jc _) rfl) rfl rfl rfl rfl rfl) rfl (.inl rfl))) (@Jh _ _ _ (@Yt _ _ _ _ _ _ _ _ PassesOwn.never rfl (@Ze _ _ _ _ _ _ rfl T.Zu (@Ja _ _ _ _ _ (@Jb _ _ _ _) (@Jc _) rfl) rfl) (@J8 _ _ 9 _ YJ.nd rfl (Or.inl rfl) (.inl rfl)) (@Jd _ _ _ _ _ (@Jt _ _ 10 _ _ _ _ YJ.nd rfl (Or.inl rfl) (@Jj _ _ _ _ _ _ _ _ (@JjI _) (@pv _ 8 _ _ rfl (.inl rfl) rfl rfl) (@JB _ _ _ _ _ _ _ (@JkS _) (@pv _ 2 _ _ rfl (.inr (.inl rfl)) rfl rfl) (@Jj _ _ _ _ _ _ _ _ (@JQ _) (@Jj _ _ _ _ _ _ _ _ (@JP _) (@JB _ _ _ _ _ _ _ (@JF _) (@pv _ 6 _ _ rfl (.inl rfl) rfl rfl) (@Jj _ _ _ _ _ _ _ _ (@Y2 _) (@pv _ 7 _ _ rfl (.inl rfl) rfl rfl) (@Jb _ _ _ _)) (fun _ _=>rfl)) (@pv _ 9 _ _ rfl (.inl rfl) rfl rfl)) (@Jb _ _ _ _)) (fun _ _=>rfl))) rfl (.inl rfl)) (@Jh _ _ _ (@JN _ _ _ _ _ _ _ _ (@Js _ _ _ _ _ _ _ _ (@Ja6 _) (@pv _ 10 _ _ rfl (.inl rfl) rfl rfl) (@pv _ 4 _ _ rfl (.inl rfl) rfl rfl) (by with_unfolding_all rfl)) (@Jd _ _ _ _ _ (@JH _ _ _ _ (@Ja5 _ _ _ _ _ _ _ _ _ _ _ _ PySem.F.plainAttrs_list PySem.F.slot_list_append PySem.F.type_list_append (@Y3 _) (@pv _ 4 _ _ rfl (.inl rfl) rfl rfl) (@Ja _ _ _ _ _ (@pv _ 10 _ _ rfl (.inl rfl) rfl rfl) (@Jc _) rfl) rfl rfl rfl rfl rfl) rfl) (@Jh _ _ _ (@Jl0 _ _))) (@Jy _)))) (by intro _; rfl)))))))) (by intro _; rfl)) (@Jh _ _ _ (@Ju _ _ _ _ (@pv _ 4 _ _ rfl (.inl rfl) rfl rfl))))))),?_⟩
  try dsimp only [cxK,Jes]
  refine ⟨fun σ1 H1=>∃ (pf:Addr) (fs:List Int),Jg H H1∧H1 pf=some (.lst (fs.map V.int))∧fs.length=7 * n∧(∀ x∈fs,0≤x∧x < 26)∧σ1=[some (.int c),some (.int n),some (.str LT),some (.ref pf),none,none,none,none,none,none,none],
   ⟨_,rfl,_,_,rfl,rfl,⟨by decide,by decide⟩,_,rfl,_,_,rfl,rfl,.inl ⟨by decide,by decide⟩,c / 4,7 * n,26,congrArg (fun z=>[V.int (c / 4),V.int z,V.int 26]) (by omega:7 * (n:Int)=((7 * n:Nat):Int)),by omega,by decide,by decide,fun pf fs H1 h1 e1 h2 h3 h4=>⟨pf,fs,e1,h2,h3,h4,rfl⟩⟩,?_⟩
  rintro σ1 H1 ⟨pf,fs,e1,hf,hfl,hfr,rfl⟩;refine ⟨by show 0≤sizeLine; decide,fun pl hpl=>?_⟩;have npl:H pl=none:=by
   cases hd:H pl with
   | none=>rfl
   | some u=>rw [e1 _ _ hd] at hpl; cases hpl
  have sl:=hfl;refine ⟨_,rfl,(n:Int),rfl,by omega,by omega,?_⟩;refine Zf (n:=n) (fun i σ H2=>∃ (ss:List Str) (v5 v6 v7 v8 v9 v10:Option V),Jg H1 H2∧H2 pl=some (.lst (ss.map V.str))∧ss.length=i∧(∀ s∈ss,Y5 s=true)∧ss.Nodup∧σ=[some (.int c),some (.int n),some (.str LT),some (.ref pf),some (.ref pl),v5,v6,v7,v8,v9,v10])
   ⟨[],none,none,none,none,none,none,Jg.upd hpl,Jf,rfl,(fun s hs=>nomatch hs),List.nodup_nil,rfl⟩ ?_ ?_
  ·rintro i σ H2 hi ⟨ss,v5,v6,v7,v8,v9,v10,e2,hs2,hsl,hsg,hsn,rfl⟩;have hf2:=Jo.of (K:=K) (e2 _ _ hf);have at_:∀ {H':Hp} {e:Int},Jg H2 H'→0≤e→e < 7 * n→∃ y,(0≤y∧y < 26)∧atI (fs.map V.int) e=some (.int y):=fun {H' e} _ h0 h1=>by
    obtain ⟨y,h2,h3⟩:=Jcy (xs:=fs) (e:=e) h0 (by omega);exact ⟨y,hfr y h3,h2⟩
   refine ⟨_,rfl,_,rfl,_,_,rfl,rfl,.inl ⟨by decide,by decide⟩,_,rfl,_,rfl,_,_,rfl,rfl,.inl ⟨by decide,by decide⟩,_,_,rfl,rfl,_,rfl,pf,_,rfl,hf2,fun p1 n1=>?_⟩;obtain ⟨ys1,ey1,my1⟩:=Jiz (xs:=fs) (lo:=some (7 * (0 + (i:Int)))) (hi:=some (7 * (0 + (i:Int)) + 6));have ly1:ys1.length=6:=by
    have z:=congrArg List.length ey1;rw [List.length_map] at z;rw [← z];unfold JaK;rw [List.length_map];have a1:HT.sIx fs.length 0 (some (7 * (0 + (i:Int))))=7 * i:=by
     rw [show (7 * (0 + (i:Int)))=((7 * i:Nat):Int) by omega,HT.JiX];omega
    have a2:HT.sIx fs.length fs.length (some (7 * (0 + (i:Int)) + 6))=7 * i + 6:=by
     rw [show (7 * (0 + (i:Int)) + 6)=((7 * i + 6:Nat):Int) by omega,HT.JiX];omega
    rw [a1,a2,List.length_take,List.length_drop,List.length_map];omega
   have e3:=Jg.upd (o:=.lst (JaK (fs.map V.int) (some (7 * (0 + (i:Int)))) (some (7 * (0 + (i:Int)) + 6)))) n1;have h3:upd H2 p1 (.lst (JaK (fs.map V.int) (some (7 * (0 + (i:Int)))) (some (7 * (0 + (i:Int)) + 6)))) p1=some (.lst (ys1.map V.int)):=by rw [Jf,ey1]
   generalize upd H2 p1 (.lst (JaK (fs.map V.int) (some (7 * (0 + (i:Int)))) (some (7 * (0 + (i:Int)) + 6))))=H3 at e3 h3;obtain ⟨y1,yr1,ya1⟩:=at_ e3 (e:=7 * (0 + (i:Int)) + 6) (by omega) (by omega);refine ⟨_,rfl,_,rfl,_,_,rfl,rfl,.inl ⟨by decide,by decide⟩,_,_,rfl,rfl,pf,_,_,.int y1,rfl,rfl,e3.seq hf2,ya1,_,_,rfl,rfl,(by show (0:Int) < 6; decide),_,_,rfl,rfl,?_⟩;refine ⟨fun σ1 H4=>∃ (pp:Addr) (xs:List Int) (sz:Int),Jg H2 H4∧H4 pp=some (.lst (xs.map V.int))∧xs.length=6∧(∀ x∈xs,0≤x∧x < 26)∧1≤sz∧sz≤6∧σ1=[some (.int c),some (.int n),some (.str LT),some (.ref pf),some (.ref pl),some (.int (0 + (i:Int))),some (.ref pp),some (.int sz),v8,v9,v10],?_,?_⟩
   ·refine ⟨_,rfl,_,_,rfl,rfl,(by show (0:Int) < 4; decide),rfl,_,rfl,Yw (fun _=>?_) (fun _=>?_)⟩
    ·refine ⟨_,rfl,_,rfl,pf,_,rfl,e3.seq hf2,fun p4 n4=>?_⟩;obtain ⟨ys2,ey2,my2⟩:=Jiz (xs:=fs) (lo:=none) (hi:=some 6);have ly2:ys2.length=6:=by
      have z:=congrArg List.length ey2;rw [List.length_map] at z;have z2:=Jji (xs:=fs) (k:=6) (by decide) (by omega);omega
     have n42:H2 p4=none:=by
      cases hd:H2 p4 with
      | none=>rfl
      | some u=>rw [e3 _ _ hd] at n4; cases n4
     have e4:=e3.trans (Jg.upd (o:=.lst (JaK (fs.map V.int) none (some 6))) n4);obtain ⟨y6,yr6,ya6⟩:=at_ e4 (e:=6) (by omega) (by omega);refine ⟨_,rfl,pf,_,_,.int y6,rfl,rfl,e4.seq hf2,ya6,_,_,rfl,rfl,(by show (0:Int) < 6; decide),_,_,rfl,rfl,?_⟩;obtain ⟨y0,yr0,ya0⟩:=at_ e4 (e:=0) (by omega) (by omega);obtain ⟨yo,yro,yao⟩:=at_ e4 (e:=1) (by omega) (by omega);have hsz1:1≤1 + y6 % 6∧1 + y6 % 6≤6:=by omega
     refine ⟨_,rfl,pf,_,_,.int yo,rfl,rfl,e4.seq hf2,yao,_,rfl,_,_,rfl,rfl,.inl ⟨by decide,by decide⟩,_,_,rfl,rfl,_,_,rfl,rfl,(by show (0:Int) < 26; decide),?_⟩;have hj0:=Int.emod_nonneg y0 (b:=1 + y6 % 6) (by omega);have hj1:=Int.emod_lt_of_pos y0 (b:=1 + y6 % 6) (by omega);refine ⟨_,rfl,_,rfl,pf,_,_,.int y0,rfl,rfl,e4.seq hf2,ya0,_,rfl,_,_,rfl,rfl,(by show (0:Int) < 1 + y6 % 6; omega),p4,_,_,(y0 % (1 + y6 % 6)).toNat,rfl,rfl,Jf,?_,?_⟩
     ·rw [ey2,List.length_map,ly2];unfold ixN;rw [if_pos hj0,if_pos (by omega)]
     ·refine ⟨p4,ys2.set (y0 % (1 + y6 % 6)).toNat ((yo + 5 * (0 + (i:Int))) % 26),1 + y6 % 6,fun b u e=>?_,?_,by rw [List.length_set]; exact ly2,fun x hx=>?_,hsz1.1,hsz1.2,rfl⟩
      ·rw [Jq (Jr e n42)]; exact e4 b u e
      ·rw [Jf,ey2,List.map_set]
      ·rcases List.mem_or_eq_of_mem_set hx with w | w
       ·exact hfr x (my2 x w)
       ·rw [w]; omega
    ·exact ⟨p1,ys1,1 + y1 % 6,e3,h3,ly1,fun x hx=>hfr x (my1 x hx),by omega,by omega,rfl⟩
   rintro σ1 H4 ⟨pp,xs,sz,e4,hx4,lx4,rx4,s41,s42,rfl⟩;refine ⟨fun σ1 H4=>∃ (pp:Addr) (xs:List Int) (sz:Int),Jg H2 H4∧H4 pp=some (.lst (xs.map V.int))∧xs.length=6∧(∀ x∈xs,0≤x∧x < 26)∧1≤sz∧sz≤6∧σ1=[some (.int c),some (.int n),some (.str LT),some (.ref pf),some (.ref pl),some (.int (0 + (i:Int))),some (.ref pp),some (.int sz),v8,v9,v10],?_,?_⟩
   ·refine ⟨_,rfl,_,_,rfl,rfl,(by show (0:Int) < 4; decide),rfl,_,rfl,Yw (fun _=>?_) (fun _=>⟨pp,xs,sz,e4,hx4,lx4,rx4,s41,s42,rfl⟩)⟩;obtain ⟨yo,yro,yao⟩:=at_ e4 (e:=1) (by omega) (by omega);refine ⟨_,rfl,pf,_,_,.int yo,rfl,rfl,e4.seq hf2,yao,_,rfl,_,_,rfl,rfl,⟨by decide,by decide⟩,_,_,rfl,rfl,_,_,rfl,rfl,(by show (0:Int) < 26; decide),by show 1≤sizeLine; decide,fun p5 n5=>?_⟩;have e5:=e4.trans (Jg.upd (o:=.lst [.int ((yo + (0 + (i:Int)) / 6) % 26)]) n5);refine ⟨p5,6,_,rfl,rfl,Jf,by decide,by decide,by show 1 * 6≤sizeLine; decide,fun p6 n6=>?_⟩;have e6:=e5.trans (Jg.upd (o:=.lst (List.replicate (6:Int).toNat [V.int ((yo + (0 + (i:Int)) / 6) % 26)]).flatten) n6);obtain ⟨y0,yr0,ya0⟩:=at_ e6 (e:=0) (by omega) (by omega);refine ⟨_,rfl,_,rfl,pf,_,_,.int y0,rfl,rfl,e6.seq hf2,ya0,_,_,rfl,rfl,_,_,rfl,rfl,(by show (0:Int) < 6; decide),_,_,rfl,rfl,?_⟩;refine ⟨p6,List.replicate 6 ((yo + (0 + (i:Int)) / 6) % 26),_,e6,?_,by simp,fun x hx=>?_,?_,?_,rfl⟩
    ·rw [Jf]; rfl
    ·rw [(List.mem_replicate.mp hx).2]; omega
    ·omega
    ·omega
   clear hx4 lx4 rx4 s41 s42 e4 pp xs sz H4 e3 h3 H3 ya1 yr1 y1 ly1 my1 ey1 ys1;rintro σ1 H4 ⟨pp,xs,sz,e4,hx4,lx4,rx4,s41,s42,rfl⟩;refine ⟨fun σ1 H5=>∃ hd:Str,Jg H2 H5∧H5 pp=some (.lst (xs.map V.int))∧hd.length≤5∧(∀ c∈hd.cps.toList,Zw c=true)∧σ1=[some (.int c),some (.int n),some (.str LT),some (.ref pf),some (.ref pl),some (.int (0 + (i:Int))),some (.ref pp),some (.int sz),some (.str hd),v9,v10],?_,?_⟩
   ·refine ⟨rfl,_,rfl,_,rfl,_,_,rfl,rfl,_,rfl,pp,_,rfl,Jo.of hx4,fun p5 n5=>⟨p5,rfl,⟨_,Jo.of Jf⟩,fun D hD=>?_⟩⟩;have e5:=Jg.upd (o:=.lst (JaK (xs.map V.int) none (some (sz - 1)))) n5;have hcl:=Jji (xs:=xs) (k:=sz - 1) (by omega) (by omega);refine Jhf (xs:=JaK (xs.map V.int) none (some (sz - 1))) (fun _ v=>∃ c,v=.str ⟨#[c]⟩∧Zw c=true) rfl (Jo.of Jf) hD (by have:sizeLine=16777216:=sizeLine_eq; omega) (fun i x H6 hx6 e6 Q' hQ=>?_) (fun ys H6 e6 hD6 hl6 hF=>?_)
    ·obtain ⟨j,hj,rfl⟩:=List.mem_map.mp (Jnn (List.mem_of_getElem? hx6));obtain ⟨hj0,hj1⟩:=rx4 j hj;exact ⟨_,rfl,_,rfl,_,_,_,rfl,rfl,Jlo,Jg6 hj0 hj1,hQ _ ⟨_,rfl,JhN (by omega)⟩⟩
    ·obtain ⟨zs,rfl,hz⟩:∃ zs:List Str,ys=zs.map V.str∧∀ y∈zs,∃ c,y=⟨#[c]⟩∧Zw c=true:=by
      clear hD6 hl6
      induction ys with
      | nil=>exact ⟨[],rfl,fun u hu=>nomatch hu⟩
      | cons v r ih =>
       obtain ⟨zs,rfl,hz⟩:=ih fun i v' e=>hF (i + 1) v' (by simpa using e)
       obtain ⟨d,rfl,hu⟩:=hF 0 v rfl;refine ⟨⟨#[d]⟩ :: zs,rfl,fun u' h'=>?_⟩;rcases List.mem_cons.mp h' with rfl | h'
       ·exact ⟨d,rfl,hu⟩
       ·exact hz u' h'
     rw [List.length_map] at hl6;obtain ⟨j1,j2⟩:=JfO hz;have ej:Txt.join Str.empty zs=Str.join Str.empty zs:=StrLaws.glued_eq_join _ _;have hsum:(zs.map (·.length)).sum=zs.length:=PyProof.Rows.sumLen_of_ones zs fun u hu=>by
      obtain ⟨d,rfl,_⟩:=hz u hu;rfl
     refine ⟨_,D,zs,rfl,rfl,Jo.of hD6,by show _ + zs.length * 0≤_; omega,Txt.join Str.empty zs,(e4.trans e5).trans e6,e6 _ _ (e5 _ _ hx4),?_,?_,rfl⟩
     ·rw [ej,j1]; omega
     ·rw [ej]; exact j2
   rintro σ1 H5 ⟨hd,e5,hx5,hd1,hd2,rfl⟩;obtain ⟨x,hxa,hxm⟩:=Jcy (xs:=xs) (e:=sz - 1) (by omega) (by omega);have hs5:=e5 _ _ hs2;refine ⟨26,rfl,by decide,by decide,Zf (n:=26) (fun j σ H6=>H6=H5∧(∀ m:Nat,m < j→nam hd ((x + m) % 26).toNat∈ss)∧∃ v9 v10,σ=[some (.int c),some (.int n),some (.str LT),some (.ref pf),some (.ref pl),some (.int (0 + (i:Int))),some (.ref pp),some (.int sz),some (.str hd),v9,v10]) ⟨rfl,fun m hm=>absurd hm (Nat.not_lt_zero _),_,_,rfl⟩ ?_ ?_⟩
   ·rintro j σ H6 hj ⟨rfl,hin,v9,v10,rfl⟩;have m0:=Int.emod_nonneg (x + (0 + (j:Int))) (b:=26) (by decide);have m1:=Int.emod_lt_of_pos (x + (0 + (j:Int))) (b:=26) (by decide);have en:(x + (0 + (j:Int))) % 26=(x + (j:Nat)) % 26:=by rw [Int.zero_add]
    refine ⟨_,rfl,_,rfl,_,rfl,_,rfl,_,_,rfl,rfl,pp,_,_,.int x,rfl,rfl,Jo.of hx5,hxa,_,rfl,_,_,rfl,rfl,_,_,rfl,rfl,(by show (0:Int) < 26; decide),_,_,_,rfl,rfl,Jlo,Jg6 m0 m1,_,_,rfl,rfl,?_,?_⟩
    ·show hd.length + 1≤sizeLine;have:sizeLine=16777216:=sizeLine_eq;omega
    ·refine ⟨_,rfl,_,rfl,pl,_,rfl,.inl (Jo.of hs5),rfl,Jdd ss,_,rfl,?_⟩;rw [if_pos rfl,JdT];show if (!decide (nam hd ((x + (0 + (j:Int))) % 26).toNat∈ss))=true then _ else _;rw [en];by_cases hmem:nam hd ((x + (j:Nat)) % 26).toNat∈ss
     ·refine YA (by rw [decide_eq_true hmem]; rfl) ⟨rfl,fun m hm=>?_,_,_,rfl⟩;by_cases hmj:m=j
      ·rw [hmj]; exact hmem
      ·exact hin m (by omega)
     ·refine Zr (by rw [decide_eq_false hmem]; rfl) ?_;refine ⟨_,rfl,.inl ⟨rfl,_,Jo.of hs5⟩,_,rfl,pl,_,_,rfl,rfl,hs5,by rw [List.length_map]; have:sizeLine=16777216:=sizeLine_eq; omega,?_⟩;refine ⟨ss ++ [nam hd ((x + (j:Nat)) % 26).toNat],_,_,_,_,_,_,fun b u e=>?_,?_,by simp [hsl],fun s hs=>?_,?_,rfl⟩
      ·rw [Jq (Jr e hpl)]; exact e5 b u (e2 b u e)
      ·rw [Jf,List.map_append];rfl
      ·rcases List.mem_append.mp hs with w | w
       ·exact hsg s w
       ·rw [List.mem_singleton.mp w];exact Jmd hd1 hd2 (by rw [en] at m0 m1; omega)
      ·rw [List.nodup_append];refine ⟨hsn,by simp,fun a ha b hb e=>?_⟩;rw [List.mem_singleton] at hb;subst hb e;exact hmem ha
   ·rintro σ H6 ⟨rfl,hin,_⟩;exact (Jme (x:=x) (ss:=ss) (by omega) fun m hm=>hin m hm).elim
  ·rintro σ H2 ⟨ss,v5,v6,v7,v8,v9,v10,e2,hs2,hsl,hsg,hsn,rfl⟩;exact ⟨_,rfl,q pl ss H2 npl (e1.trans e2) hs2 hsl hsg hsn⟩
theorem Jl8 (T:Txt K mg):JM P w K mg base Y6 2 T.JgE T.Jfh ["_law_cell", "_law_draw", "_law_size"] (Jlw K):=by
 refine T.JgP.F.ok Zk (fun vs H Q E h=>?_) (fun cdv A outer s H vs Q E hr h=>?_)
 ·obtain ⟨_,_,_,rfl,_⟩:=h;rfl
 ·obtain ⟨c,d,n,rfl,hn1,hn2,q⟩:=h;have hu:=Jcu hr;have szl:sizeLine=16777216:=sizeLine_eq;refine ⟨_,(@Jd _ _ _ _ _ (@Jt _ _ 3 _ _ _ _ Zk.nd rfl (Or.inl rfl) (@Ye _ _ _ _ (@Jc _)) rfl (.inl rfl)) (@Jd _ _ _ _ _ (@Jt _ _ 4 _ _ _ _ Zk.nd rfl (Or.inl rfl) (@Jj _ _ _ _ _ _ _ _ (@JQ _) (@Jj _ _ _ _ _ _ _ _ (@YE _) (@pv _ 0 _ _ rfl (.inl rfl) rfl rfl) (@Jb _ _ _ _)) (@Jb _ _ _ _)) rfl (.inl rfl)) (@Jd _ _ _ _ _ (@J2 _ _ _ (@JN _ _ _ _ _ _ _ _ (@Js _ _ _ _ _ _ _ _ (@Yc _) (@Jj _ _ _ _ _ _ _ _ (@JQ _) (@pv _ 0 _ _ rfl (.inl rfl) rfl rfl) (@Jb _ _ _ _)) (@Jb _ _ _ _) (JC _)) (@Jh _ _ _ (@Yt _ _ _ _ _ _ _ _ PassesOwn.never rfl (@Ze _ _ _ _ _ _ rfl T.Zu (@Ja _ _ _ _ _ (@Jj _ _ _ _ _ _ _ _ (@Y2 _) (@pv _ 2 _ _ rfl (.inl rfl) rfl rfl) (@Jb _ _ _ _)) (@Jc _) rfl) rfl) (@J8 _ _ 5 _ Zk.nd rfl (Or.inl rfl) (.inl rfl)) (@Jd _ _ _ _ _ (@JH _ _ _ _ (@Ja5 _ _ _ _ _ _ _ _ _ _ _ _ PySem.F.plainAttrs_list PySem.F.slot_list_append PySem.F.type_list_append (@Y3 _) (@pv _ 3 _ _ rfl (.inl rfl) rfl rfl) (@Ja _ _ _ _ _ (@YX _ _ _ _ _ (@Ja _ _ _ _ _ (@pv _ 5 _ _ rfl (.inl rfl) rfl rfl) (@Ja _ _ _ _ _ (@Jj _ _ _ _ _ _ _ _ (@JP _) (@pv _ 5 _ _ rfl (.inl rfl) rfl rfl) (@Jb _ _ _ _)) (@Jc _) rfl) rfl)) (@Jc _) rfl) rfl rfl rfl rfl rfl) rfl) (@Jh _ _ _ (@JH _ _ _ _ (@Ja5 _ _ _ _ _ _ _ _ _ _ _ _ PySem.F.plainAttrs_list PySem.F.slot_list_append PySem.F.type_list_append (@Y3 _) (@pv _ 3 _ _ rfl (.inl rfl) rfl rfl) (@Ja _ _ _ _ _ (@YX _ _ _ _ _ (@Ja _ _ _ _ _ (@pv _ 5 _ _ rfl (.inl rfl) rfl rfl) (@Ja _ _ _ _ _ (@JI _ _ _ _ _ _ _ _ _ (@JbW _ rfl) rfl T.JdS PyProof.Rows.boot_max (@Ja _ _ _ _ _ (@Jb _ _ _ _) (@Ja _ _ _ _ _ (@Jj _ _ _ _ _ _ _ _ (@Y2 _) (@pv _ 5 _ _ rfl (.inl rfl) rfl rfl) (@Jb _ _ _ _)) (@Jc _) rfl) rfl) (by decide) (by decide) rfl rfl) (@Jc _) rfl) rfl)) (@Jc _) rfl) rfl rfl rfl rfl rfl) rfl))) (by intro _; rfl))) (@Jy _))) (@Jd _ _ _ _ _ (@J2 _ _ _ (@JN _ _ _ _ _ _ _ _ (@Js _ _ _ _ _ _ _ _ (@Yc _) (@Jj _ _ _ _ _ _ _ _ (@JQ _) (@pv _ 0 _ _ rfl (.inl rfl) rfl rfl) (@Jb _ _ _ _)) (@Jb _ _ _ _) (JC _)) (@Jh _ _ _ (@Yt _ _ _ _ _ _ _ _ PassesOwn.never rfl (@Jky _ _ _ _ _ _ _ rfl T.Zu (@Ja _ _ _ _ _ (@Jb _ _ _ _) (@Ja _ _ _ _ _ (@Jj _ _ _ _ _ _ _ _ (@Y2 _) (@pv _ 2 _ _ rfl (.inl rfl) rfl rfl) (@Jb _ _ _ _)) (@Jc _) rfl) rfl) rfl rfl) (@J8 _ _ 5 _ Zk.nd rfl (Or.inl rfl) (.inl rfl)) (@Jd _ _ _ _ _ (@JH _ _ _ _ (@Ja5 _ _ _ _ _ _ _ _ _ _ _ _ PySem.F.plainAttrs_list PySem.F.slot_list_append PySem.F.type_list_append (@Y3 _) (@pv _ 3 _ _ rfl (.inl rfl) rfl rfl) (@Ja _ _ _ _ _ (@YX _ _ _ _ _ (@Ja _ _ _ _ _ (@pv _ 5 _ _ rfl (.inl rfl) rfl rfl) (@Ja _ _ _ _ _ (@Jj _ _ _ _ _ _ _ _ (@JP _) (@pv _ 5 _ _ rfl (.inl rfl) rfl rfl) (@Jb _ _ _ _)) (@Jc _) rfl) rfl)) (@Jc _) rfl) rfl rfl rfl rfl rfl) rfl) (@Jh _ _ _ (@JH _ _ _ _ (@Ja5 _ _ _ _ _ _ _ _ _ _ _ _ PySem.F.plainAttrs_list PySem.F.slot_list_append PySem.F.type_list_append (@Y3 _) (@pv _ 3 _ _ rfl (.inl rfl) rfl rfl) (@Ja _ _ _ _ _ (@YX _ _ _ _ _ (@Ja _ _ _ _ _ (@pv _ 5 _ _ rfl (.inl rfl) rfl rfl) (@Ja _ _ _ _ _ (@Jb _ _ _ _) (@Jc _) rfl) rfl)) (@Jc _) rfl) rfl rfl rfl rfl rfl) rfl))) (by intro _; rfl))) (@Jy _))) (@Jd _ _ _ _ _ (@J2 _ _ _ (@JN _ _ _ _ _ _ _ _ (@Js _ _ _ _ _ _ _ _ (@Yc _) (@Jj _ _ _ _ _ _ _ _ (@JQ _) (@pv _ 0 _ _ rfl (.inl rfl) rfl rfl) (@Jb _ _ _ _)) (@Jb _ _ _ _) (JC _)) (@Jh _ _ _ (@Jt _ _ 4 _ _ _ _ Zk.nd rfl (Or.inl rfl) (@Jj _ _ _ _ _ _ _ _ (@ZU _) (@Jb _ _ _ _) (@JI _ _ _ _ _ _ _ _ _ (@JbW _ rfl) rfl T.JdS PyProof.Rows.boot_max (@Ja _ _ _ _ _ (@Jb _ _ _ _) (@Ja _ _ _ _ _ (@Jj _ _ _ _ _ _ _ _ (@Y2 _) (@pv _ 2 _ _ rfl (.inl rfl) rfl rfl) (@Jb _ _ _ _)) (@Jc _) rfl) rfl) (by decide) (by decide) rfl rfl)) rfl (.inl rfl))) (@Jy _))) (@Jd _ _ _ _ _ (@J2 _ _ _ (@JN _ _ _ _ _ _ _ _ (@Js _ _ _ _ _ _ _ _ (@Yc _) (@Jj _ _ _ _ _ _ _ _ (@JQ _) (@pv _ 0 _ _ rfl (.inl rfl) rfl rfl) (@Jb _ _ _ _)) (@Jb _ _ _ _) (JC _)) (@Jh _ _ _ (@Jt _ _ 4 _ _ _ _ Zk.nd rfl (Or.inl rfl) (@Jj _ _ _ _ _ _ _ _ (@JQ _) (@Jj _ _ _ _ _ _ _ _ (@JP _) (@Jj _ _ _ _ _ _ _ _ (@YE _) (@pv _ 0 _ _ rfl (.inl rfl) rfl rfl) (@Jb _ _ _ _)) (@Jb _ _ _ _)) (@Jb _ _ _ _)) rfl (.inl rfl))) (@Jy _))) (@Jd _ _ _ _ _ (@J2 _ _ _ (@Jt _ _ 6 _ _ _ _ Zk.nd rfl (Or.inl rfl) (@Jn _ _ _ _ _ _ _ _ _ _ _ _ _ _ _ T.Jf6 (Jia T) (hr.mono (by decide)) JL (@Ja _ _ _ _ _ (@pv _ 1 _ _ rfl (.inl rfl) rfl rfl) (@Ja _ _ _ _ _ (@Jj _ _ _ _ _ _ _ _ (@ZU _) (@Jb _ _ _ _) (@pv _ 4 _ _ rfl (.inl rfl) rfl rfl)) (@Ja _ _ _ _ _ (@pv _ 2 _ _ rfl (.inl rfl) rfl rfl) (@Jc _) rfl) rfl) rfl) rfl (by decide) rfl rfl) rfl (.inl rfl))) (@Jd _ _ _ _ _ (@Yt _ _ _ _ _ _ _ _ PassesOwn.never rfl (@Ze _ _ _ _ _ _ rfl T.Zu (@Ja _ _ _ _ _ (@pv _ 4 _ _ rfl (.inl rfl) rfl rfl) (@Jc _) rfl) rfl) (@J8 _ _ 5 _ Zk.nd rfl (Or.inl rfl) (.inl rfl)) (@Jd _ _ _ _ _ (@Jt _ _ 7 _ _ _ _ Zk.nd rfl (Or.inl rfl) (@YX _ _ _ _ _ (@Ja _ _ _ _ _ (@JB _ _ _ _ _ _ _ (@JF _) (@pv _ 6 _ _ rfl (.inl rfl) rfl rfl) (@Jj _ _ _ _ _ _ _ _ (@ZU _) (@Jb _ _ _ _) (@pv _ 5 _ _ rfl (.inl rfl) rfl rfl)) (fun _ _=>rfl)) (@Ja _ _ _ _ _ (@JB _ _ _ _ _ _ _ (@JF _) (@pv _ 6 _ _ rfl (.inl rfl) rfl rfl) (@Jj _ _ _ _ _ _ _ _ (@JP _) (@Jj _ _ _ _ _ _ _ _ (@ZU _) (@Jb _ _ _ _) (@pv _ 5 _ _ rfl (.inl rfl) rfl rfl)) (@Jb _ _ _ _)) (fun _ _=>rfl)) (@Jc _) rfl) rfl)) rfl (.inl rfl)) (@Jd _ _ _ _ _ (@J2 _ _ _ (@JN _ _ _ _ _ _ _ _ (@Js _ _ _ _ _ _ _ _ (@Yc _) (@Jj _ _ _ _ _ _ _ _ (@JQ _) (@pv _ 0 _ _ rfl (.inl rfl) rfl rfl) (@Jb _ _ _ _)) (@Jb _ _ _ _) (JC _)) (@Jh _ _ _ (@Jt _ _ 7 _ _ _ _ Zk.nd rfl (Or.inl rfl) (@YX _ _ _ _ _ (@Ja _ _ _ _ _ (@Jj _ _ _ _ _ _ _ _ (@JP _) (@Jb _ _ _ _) (@Jj _ _ _ _ _ _ _ _ (@YE _) (@pv _ 5 _ _ rfl (.inl rfl) rfl rfl) (@Jb _ _ _ _))) (@Ja _ _ _ _ _ (@JB _ _ _ _ _ _ _ (@JF _) (@pv _ 6 _ _ rfl (.inl rfl) rfl rfl) (@pv _ 5 _ _ rfl (.inl rfl) rfl rfl) (fun _ _=>rfl)) (@Jc _) rfl) rfl)) rfl (.inl rfl))) (@Jy _))) (@Jh _ _ _ (@J2 _ _ _ (@JN _ _ _ _ _ _ _ _ (@Js _ _ _ _ _ _ _ _ (@Jhw _ hu) (@pv _ 7 _ _ rfl (.inl rfl) rfl rfl) (@pv _ 3 _ _ rfl (.inl rfl) rfl rfl) (by with_unfolding_all rfl)) (@Jh _ _ _ (@JH _ _ _ _ (@Ja5 _ _ _ _ _ _ _ _ _ _ _ _ PySem.F.plainAttrs_list PySem.F.slot_list_append PySem.F.type_list_append (@Y3 _) (@pv _ 3 _ _ rfl (.inl rfl) rfl rfl) (@Ja _ _ _ _ _ (@pv _ 7 _ _ rfl (.inl rfl) rfl rfl) (@Jc _) rfl) rfl rfl rfl rfl rfl) rfl)) (@Jy _)))))) (by intro _; rfl)) (@Jh _ _ _ (@Ju _ _ _ _ (@pv _ 3 _ _ rfl (.inl rfl) rfl rfl))))))))))),?_⟩
  try dsimp only [cxK,Jes]
  refine ⟨by show 0≤sizeLine; decide,fun pl hpl=>?_⟩;have W0:PW K H pl n (upd H pl (.lst [])) []:=⟨Jg.upd hpl,Jf,(fun z hz=>nomatch hz),List.nodup_nil,(fun z hz=>nomatch hz)⟩
  generalize upd H pl (.lst [])=H1 at W0;refine ⟨_,rfl,_,_,rfl,rfl,⟨by decide,by decide⟩,_,_,rfl,rfl,(by show (0:Int) < 9; decide),?_⟩;refine ⟨fun σ1 H2=>∃ zs v5,PW K H pl n H2 zs∧(c % 4=0→zs.length≤22)∧(c % 4≠0→zs=[])∧σ1=[some (.int c),some (.int d),some (.int n),some (.ref pl),some (.int (c / 4 % 9)),v5,none,none],?_,?_⟩
  ·refine ⟨_,rfl,_,_,rfl,rfl,(by show (0:Int) < 4; decide),rfl,_,rfl,Yw (fun c0=>?_) (fun c0=>⟨[],none,W0,fun _=>Nat.zero_le _,fun _=>rfl,rfl⟩)⟩;have c0':c % 4=0:=V.int.inj (of_decide_eq_true c0);refine ⟨_,rfl,_,_,rfl,rfl,(n:Int) - 1,rfl,by omega,by omega,?_⟩;rw [show ((n:Int) - 1).toNat=n - 1 by omega];refine Zf (n:=n - 1) (fun i σ H2=>∃ zs v5,PW K H pl n H2 zs∧zs.length=2 * i∧(∀ z∈zs,z.2.1 < i)∧σ=[some (.int c),some (.int d),some (.int n),some (.ref pl),some (.int (c / 4 % 9)),v5,none,none]) ⟨[],none,W0,rfl,(fun z hz=>nomatch hz),rfl⟩ ?_ ?_
   ·rintro i σ H2 hi ⟨zs,v5,W,hl,hz,rfl⟩;refine ⟨_,rfl,.inl ⟨rfl,_,Jo.of W.at_⟩,_,rfl,_,rfl,_,_,rfl,rfl,by show 2≤sizeLine; omega,fun t1 n1=>⟨pl,_,_,rfl,rfl,(Jg.upd n1) _ _ W.at_,by rw [List.length_map]; omega,?_⟩⟩;have W1:=W.add hpl (Jg.upd n1) (t:=t1) (a:=0 + (i:Int)) (b:=0 + (i:Int) + 1) Jf (fun q=>by
     obtain ⟨z,h1,h2⟩:=List.mem_map.mp q;have:=hz z h1;rw [h2] at this;have:(0:Int) + i < i:=this;omega) ⟨by omega,by omega⟩
    refine ⟨_,rfl,.inl ⟨rfl,_,Jo.of W1.at_⟩,_,rfl,_,rfl,_,_,rfl,rfl,_,_,rfl,by show 2≤sizeLine; omega,fun t2 n2=>⟨pl,_,_,rfl,rfl,(Jg.upd n2) _ _ W1.at_,by rw [List.length_map,List.length_append]; show _ + 1 < _; omega,?_⟩⟩;have W2:=W1.add hpl (Jg.upd n2) (t:=t2) (a:=0 + (i:Int)) (b:=if 0 + (i:Int) - 1 > 0 then 0 + (i:Int) - 1 else 0) Jf (fun q=>by
     rw [List.map_append,List.mem_append] at q;rcases q with q | q
     ·obtain ⟨z,h1,h2⟩:=List.mem_map.mp q;have:=hz z h1;rw [h2] at this;have:(0:Int) + i < i:=this;omega
     ·have e:=congrArg Prod.snd (List.mem_singleton.mp q);have e:(if 0 + (i:Int) - 1 > 0 then 0 + (i:Int) - 1 else 0)=0 + (i:Int) + 1:=e;split at e <;> omega) ⟨by omega,by split <;> omega⟩
    exact ⟨_,_,W2,by simp [hl]; omega,fun z hz2=>by
     rcases List.mem_append.mp hz2 with q | q
     ·rcases List.mem_append.mp q with q | q
      ·have:=hz z q; show z.2.1 < ((i + 1:Nat):Int); omega
      ·rw [List.mem_singleton.mp q]; show (0:Int) + i < ((i + 1:Nat):Int); omega
     ·rw [List.mem_singleton.mp q]; show (0:Int) + i < ((i + 1:Nat):Int); omega,rfl⟩
   ·rintro σ H2 ⟨zs,v5,W,hl,hz,rfl⟩;exact ⟨zs,v5,W,fun _=>by omega,fun h=>absurd c0' h,rfl⟩
  rintro σ1 H2 ⟨zs,v5,W,l1,l2,rfl⟩;refine ⟨fun σ1 H2=>∃ zs v5,PW K H pl n H2 zs∧(c % 4=0∨c % 4=1→zs.length≤22)∧(c % 4≠0→c % 4≠1→zs=[])∧σ1=[some (.int c),some (.int d),some (.int n),some (.ref pl),some (.int (c / 4 % 9)),v5,none,none],?_,?_⟩
  ·refine ⟨_,rfl,_,_,rfl,rfl,(by show (0:Int) < 4; decide),rfl,_,rfl,Yw (fun c1=>?_) (fun c1=>⟨zs,v5,W,fun h=>l1 (h.elim id fun e=>absurd (decide_eq_true (congrArg V.int e)) c1),fun h _=>l2 h,rfl⟩)⟩;have c1':c % 4=1:=V.int.inj (of_decide_eq_true c1);obtain rfl:zs=[]:=l2 (by omega);refine ⟨_,rfl,_,_,rfl,rfl,1,(n:Int) - 1,rfl,⟨by omega,by omega,by omega,by omega⟩,?_⟩;rw [show ((n:Int) - 1 - 1).toNat=n - 2 by omega];refine Zf (n:=n - 2) (fun i σ H2=>∃ zs v5,PW K H pl n H2 zs∧zs.length=2 * i∧(∀ z∈zs,z.2.1 < 1 + i)∧σ=[some (.int c),some (.int d),some (.int n),some (.ref pl),some (.int (c / 4 % 9)),v5,none,none]) ⟨[],v5,W,rfl,(fun z hz=>nomatch hz),rfl⟩ ?_ ?_
   ·rintro i σ H2 hi ⟨zs,v5,W,hl,hz,rfl⟩;refine ⟨_,rfl,.inl ⟨rfl,_,Jo.of W.at_⟩,_,rfl,_,rfl,_,_,rfl,rfl,by show 2≤sizeLine; omega,fun t1 n1=>⟨pl,_,_,rfl,rfl,(Jg.upd n1) _ _ W.at_,by rw [List.length_map]; omega,?_⟩⟩;have W1:=W.add hpl (Jg.upd n1) (t:=t1) (a:=1 + (i:Int)) (b:=1 + (i:Int) + 1) Jf (fun q=>by
     obtain ⟨z,h1,h2⟩:=List.mem_map.mp q;have:=hz z h1;rw [h2] at this;have:(1:Int) + i < 1 + i:=this;omega) ⟨by omega,by omega⟩
    refine ⟨_,rfl,.inl ⟨rfl,_,Jo.of W1.at_⟩,_,rfl,by show 2≤sizeLine; omega,fun t2 n2=>⟨pl,_,_,rfl,rfl,(Jg.upd n2) _ _ W1.at_,by rw [List.length_map,List.length_append]; show _ + 1 < _; omega,?_⟩⟩;have W2:=W1.add hpl (Jg.upd n2) (t:=t2) (a:=1 + (i:Int)) (b:=0) Jf (fun q=>by
     rw [List.map_append,List.mem_append] at q;rcases q with q | q
     ·obtain ⟨z,h1,h2⟩:=List.mem_map.mp q;have:=hz z h1;rw [h2] at this;have:(1:Int) + i < 1 + i:=this;omega
     ·have e:=congrArg Prod.snd (List.mem_singleton.mp q);have e:(0:Int)=1 + (i:Int) + 1:=e;omega) ⟨by omega,by omega⟩
    exact ⟨_,_,W2,by simp [hl]; omega,fun z hz2=>by
     rcases List.mem_append.mp hz2 with q | q
     ·rcases List.mem_append.mp q with q | q
      ·have:=hz z q; show z.2.1 < 1 + ((i + 1:Nat):Int); omega
      ·rw [List.mem_singleton.mp q]; show (1:Int) + i < 1 + ((i + 1:Nat):Int); omega
     ·rw [List.mem_singleton.mp q]; show (1:Int) + i < 1 + ((i + 1:Nat):Int); omega,rfl⟩
   ·rintro σ H2 ⟨zs,v5,W,hl,hz,rfl⟩;exact ⟨zs,v5,W,fun _=>by omega,fun h h'=>absurd c1' h',rfl⟩
  clear l1 l2 W v5 zs H2;rintro σ1 H2 ⟨zs,v5,W,l1,l2,rfl⟩;have m9:0≤c / 4 % 9∧c / 4 % 9≤8:=by omega
  refine ⟨fun σ1 H3=>∃ m:Int,H3=H2∧0≤m∧zs.length + m≤40∧(c % 4=2→m≤2 * ((n:Int) - 2)∨m=0)∧σ1=[some (.int c),some (.int d),some (.int n),some (.ref pl),some (.int m),v5,none,none],?_,?_⟩
  ·refine ⟨_,rfl,_,_,rfl,rfl,(by show (0:Int) < 4; decide),rfl,_,rfl,Yw (fun c2=>?_) (fun c2=>⟨_,rfl,m9.1,?_,fun h=>absurd (decide_eq_true (congrArg V.int h)) c2,rfl⟩)⟩
   ·have c2':c % 4=2:=V.int.inj (of_decide_eq_true c2);obtain rfl:zs=[]:=l2 (by omega) (by omega);refine ⟨_,rfl,_,_,rfl,rfl,_,_,rfl,_,_,rfl,rfl,.inl ⟨by decide,by decide⟩,_,rfl,?_,?_,fun _=>?_,rfl⟩
    ·split <;> omega
    ·show ((0:Nat):Int) + _≤40;split <;> omega
    ·split <;> omega
   ·by_cases h:c % 4=0∨c % 4=1
    ·have:=l1 h; omega
    ·rw [l2 (fun e=>h (.inl e)) (fun e=>h (.inr e))];show ((0:Nat):Int) + _≤40;omega
  rintro σ1 H3 ⟨m,rfl,hm0,hm1,hm2,rfl⟩;refine ⟨fun σ1 H4=>∃ m:Nat,H4=H3∧zs.length + m≤40∧(c % 4=2→m≤2 * (n - 2))∧σ1=[some (.int c),some (.int d),some (.int n),some (.ref pl),some (.int m),v5,none,none],?_,?_⟩
  ·refine ⟨_,rfl,_,_,rfl,rfl,(by show (0:Int) < 4; decide),rfl,_,rfl,Yw (fun c3=>?_) (fun c3=>⟨m.toNat,rfl,by omega,fun h=>by have:=hm2 h; omega,by rw [Int.toNat_of_nonneg hm0]⟩)⟩;have c3':c % 4=3:=V.int.inj (of_decide_eq_true c3);obtain rfl:zs=[]:=l2 (by omega) (by omega);refine ⟨_,rfl,_,_,rfl,rfl,⟨by decide,by decide⟩,_,_,rfl,rfl,_,_,rfl,rfl,(by show (0:Int) < 41; decide),((c / 4 + 40) % 41).toNat,rfl,?_,fun h=>by omega,?_⟩
   ·show 0 + _≤40;omega
   ·rw [Int.toNat_of_nonneg (by omega)]; rfl
  clear hm2 hm1 hm0 m;rintro σ1 H4 ⟨m,rfl,hm1,hm2,rfl⟩;refine ⟨fun σ1 H5=>∃ (pe:Addr) (es:List Int),PW K H pl n H5 zs∧Jo K H5 pe (es.map V.int)∧pe≠pl∧es.length=2 * m∧(∀ x∈es,0≤x∧x < n)∧σ1=[some (.int c),some (.int d),some (.int n),some (.ref pl),some (.int m),v5,some (.ref pe),none],
   ⟨_,rfl,_,rfl,_,_,rfl,rfl,.inl ⟨by decide,by decide⟩,_,rfl,d,2 * m,n,congrArg (fun z=>[V.int d,V.int z,V.int n]) (by omega:2 * (m:Int)=((2 * m:Nat):Int)),by omega,by omega,by omega,fun pe es H4 h1 e4 h2 h3 h4=>?_⟩,?_⟩
  ·exact ⟨pe,es,⟨W.sm.trans e4,e4 _ _ W.at_,fun z hz=>let ⟨a,g1,g2⟩:=W.ip z hz; ⟨a,g1,e4.tup g2⟩,W.nd,W.rg⟩,Jo.of h2,(fun e=>by rw [e,W.at_] at h1; cases h1),h3,h4,rfl⟩
  rintro σ1 H4 ⟨pe,es,W4,he,hne,hel,her,rfl⟩;refine ⟨_,rfl,(m:Int),rfl,by omega,by omega,?_⟩;refine Zf (n:=m) (fun i σ H5=>∃ zs' v5 v7,PW K H pl n H5 zs'∧Jo K H5 pe (es.map V.int)∧zs'.length≤zs.length + i∧σ=[some (.int c),some (.int d),some (.int n),some (.ref pl),some (.int m),v5,some (.ref pe),v7]) ⟨zs,v5,none,W4,he,by omega,rfl⟩ ?_ ?_
  ·rintro i σ H5 hi ⟨zs',v5,v7,W5,he5,hl5,rfl⟩;obtain ⟨x1,a1,g1⟩:=Jcy (xs:=es) (e:=2 * (0 + (i:Int))) (by omega) (by omega);obtain ⟨x2,a2,g2⟩:=Jcy (xs:=es) (e:=2 * (0 + (i:Int)) + 1) (by omega) (by omega);refine ⟨_,rfl,_,rfl,_,_,rfl,rfl,.inl ⟨by decide,by decide⟩,pe,_,_,.int x1,rfl,rfl,he5,a1,_,rfl,_,rfl,_,_,rfl,rfl,.inl ⟨by decide,by decide⟩,_,_,rfl,rfl,pe,_,_,.int x2,rfl,rfl,he5,a2,by show 2≤sizeLine; omega,fun t n1=>?_⟩;have e6:=Jg.upd (o:=.tup [.int x1,.int x2]) n1;refine ⟨fun σ1 H6=>∃ t a b,Jg H5 H6∧H6 t=some (.tup [.int a,.int b])∧((0≤a∧a < n)∧(0≤b∧b < n))∧σ1=[some (.int c),some (.int d),some (.int n),some (.ref pl),some (.int m),some (.int (0 + (i:Int))),some (.ref pe),some (.ref t)],?_,?_⟩
   ·refine ⟨_,rfl,_,_,rfl,rfl,(by show (0:Int) < 4; decide),rfl,_,rfl,Yw (fun c2=>?_) (fun c2=>⟨t,x1,x2,e6,Jf,⟨her x1 g1,her x2 g2⟩,rfl⟩)⟩;have c2':c % 4=2:=V.int.inj (of_decide_eq_true c2);have hmm:=hm2 c2';obtain ⟨x3,a3,g3⟩:=Jcy (xs:=es) (e:=0 + (i:Int)) (by omega) (by omega);refine ⟨_,rfl,_,_,rfl,rfl,⟨by decide,by decide⟩,_,_,rfl,rfl,_,rfl,_,rfl,pe,_,_,.int x3,rfl,rfl,e6.seq he5,a3,by show 2≤sizeLine; omega,fun t2 n2=>?_⟩;exact ⟨t2,1 + (0 + (i:Int)) / 2,x3,e6.trans (Jg.upd n2),Jf,⟨by omega,her x3 g3⟩,rfl⟩
   rintro σ1 H6 ⟨t,a,b,e6,ht,hab,rfl⟩;refine ⟨fun σ1 H7=>∃ zs' v5 v7,PW K H pl n H7 zs'∧Jo K H7 pe (es.map V.int)∧zs'.length≤zs.length + (i + 1)∧σ1=[some (.int c),some (.int d),some (.int n),some (.ref pl),some (.int m),v5,some (.ref pe),v7],?_,fun σ' H' h=>h⟩;have W6:PW K H pl n H6 zs':=⟨W5.sm.trans e6,e6 _ _ W5.at_,fun z hz=>let ⟨a,g1,g2⟩:=W5.ip z hz; ⟨a,g1,e6.tup g2⟩,W5.nd,W5.rg⟩
   classical
   refine ⟨_,rfl,_,rfl,t,pl,_,Jem (a,b),_,rfl,rfl,JT.of ht,Jo.of W6.at_,JiQ W6.ip,_,rfl,?_⟩;have emem:(Jem (a,b)∈(zs'.map (·.2)).map Jem)↔(a,b)∈zs'.map (·.2):=by
    constructor
    ·intro h;obtain ⟨y,h1,h2⟩:=List.mem_map.mp h;rw [← Jmi h2]; exact h1
    ·exact fun h=>List.mem_map.mpr ⟨_,h,rfl⟩
   by_cases hin:(a,b)∈zs'.map (·.2)
   ·refine YA (by rw [if_pos rfl,decide_eq_true (emem.mpr hin)]; rfl) ⟨zs',_,_,W6,e6.seq he5,by omega,rfl⟩
   ·refine Zr (by rw [if_pos rfl,decide_eq_false (fun h=>hin (emem.mp h))]; rfl) ?_;refine ⟨_,rfl,.inl ⟨rfl,_,Jo.of W6.at_⟩,_,rfl,pl,_,_,rfl,rfl,W6.at_,by rw [List.length_map]; omega,?_⟩;refine ⟨_,_,_,W6.add hpl (Jg.refl _) ht hin hab,?_,by simp; omega,rfl⟩;rcases e6.seq he5 with (h | ⟨o,h⟩) | h
    ·exact .inl (.inl (by rw [Jq hne]; exact h))
    ·exact .inl (.inr ⟨o,by rw [Jq hne]; exact h⟩)
    ·exact .inr h
  ·rintro σ H5 ⟨zs',v5,v7,W5,he5,hl5,rfl⟩;exact ⟨_,rfl,q pl zs' H5 hpl W5 (by omega)⟩
end
def JlD:Sp:=fun vs H Q _=>∃ (c kd:Int) (n:Nat),vs=[.int c,.int kd,.int n]∧1≤n∧n≤12∧∀ (p:Addr) (gs:List Int) (H':Hp),H p=none→Jg H H'→H' p=some (.lst (gs.map V.int))→gs.Nodup→(∀ g∈gs,0≤g∧g < n)→Q (.ref p) H'
def nm (ps:List Str) (x:Int):Str:=ps.getD x.toNat Str.empty
theorem JhA {ps:List Str} {x:Int} (h0:0≤x) (h1:x < ps.length):atI (ps.map V.str) x=some (.str (nm ps x)):=by
 obtain ⟨j,rfl⟩:∃ j:Nat,x=(j:Int):=⟨x.toNat,by omega⟩
 have hj:j < ps.length:=by omega
 refine Ys ?_;unfold nm;rw [List.getElem?_map,List.getD_eq_getElem?_getD,Int.toNat_natCast,List.getElem?_eq_getElem hj];rfl
theorem JfI {ps:List Str} {x:Int} (h0:0≤x) (h1:x < ps.length):nm ps x∈ps:=by
 have hj:x.toNat < ps.length:=by omega
 unfold nm;rw [List.getD_eq_getElem?_getD,List.getElem?_eq_getElem hj];exact List.getElem_mem hj
theorem Jih {ps:List Str} (nd:ps.Nodup) {x y:Int} (h0:0≤x) (h1:x < ps.length) (g0:0≤y) (g1:y < ps.length) (e:nm ps x=nm ps y):x=y:=by
 have hx:x.toNat < ps.length:=by omega
 have hy:y.toNat < ps.length:=by omega
 unfold nm at e;rw [List.getD_eq_getElem?_getD,List.getD_eq_getElem?_getD,List.getElem?_eq_getElem hx,List.getElem?_eq_getElem hy] at e;have e:ps[x.toNat]=ps[y.toNat]:=e;have z:x.toNat=y.toNat:=by
  rcases Nat.lt_trichotomy x.toNat y.toNat with h | h | h
  ·exact absurd e (List.pairwise_iff_getElem.mp nd _ _ hx hy h)
  ·exact h
  ·exact absurd e.symm (List.pairwise_iff_getElem.mp nd _ _ hy hx h)
 omega
def nm2 (ps:List Str) (p:Int×Int):Str×Str:=(nm ps p.1,nm ps p.2)
theorem Jg4 {α β:Type} {f:α→β}:∀ {l:List α},l.Nodup→(∀ a∈l,∀ b∈l,f a=f b→a=b)→(l.map f).Nodup:=by
 intro l h hi;rw [List.Nodup,List.pairwise_map];exact List.Pairwise.imp_of_mem (fun ha hb hne e=>hne (hi _ ha _ hb e)) h
structure Ground (K:PySem.W.Frag) (H:Hp) (t:Addr) (ps:List Str) (zs:List (V×(Str×Str))) (gs:List Str):Prop where
 good:Jbk ps (zs.map (·.2)) gs
 at_:∃ pn pl pg,H t=some (.tup [.ref pn,.ref pl,.ref pg])∧H pn=some (.lst (ps.map V.str))∧H pl=some (.lst (zs.map (·.1)))∧Yq K H zs∧H pg=some (.lst (gs.map V.str))
theorem Ground.same {K:PySem.W.Frag} {H H':Hp} {t:Addr} {ps:List Str} {zs:List (V×(Str×Str))} {gs:List Str} (G:Ground K H t ps zs gs) (e:Jg H H'):Ground K H' t ps zs gs :=
 ⟨G.good,let ⟨pn,pl,pg,h1,h2,h3,h4,h5⟩:=G.at_; ⟨pn,pl,pg,e _ _ h1,e _ _ h2,e _ _ h3,YL h4 e,e _ _ h5⟩⟩
def Jkl (K:PySem.W.Frag):Sp:=fun vs H Q _=>∃ (a:Addr) (ns:List Int) (k:Int),vs=[.ref a,.int k]∧Jo K H a (ns.map V.int)∧0≤k∧∀ t ps zs gs H',Jg H H'→Ground K H' t ps zs gs→Q (.ref t) H'
section
variable {P:Program} {w:World} {K:PySem.W.Frag} {mg:Str→Option Value} {base:Heap}
theorem Jl9 (T:Txt K mg):JM P w K mg base Y6 2 T.JgI T.Jfl ["_law_cell", "_law_kind", "_law_size"] JlD:=by
 refine T.JgQ.F.ok JcG (fun vs H Q E h=>?_) (fun cdv A outer s H vs Q E hr h=>?_)
 ·obtain ⟨_,_,_,rfl,_⟩:=h;rfl
 ·obtain ⟨c,kd,n,rfl,hn1,hn2,q⟩:=h;have szl:sizeLine=16777216:=sizeLine_eq;refine ⟨_,(@Jd _ _ _ _ _ (@J2 _ _ _ (@Jt _ _ 3 _ _ _ _ JcG.nd rfl (Or.inr rfl) (@Jn _ _ _ _ _ _ _ _ _ _ _ _ _ _ _ T.Jf6 (Jia T) (hr.mono (by decide)) JL (@Ja _ _ _ _ _ (@Jj _ _ _ _ _ _ _ _ (@YE _) (@pv _ 0 _ _ rfl (.inl rfl) rfl rfl) (@Jb _ _ _ _)) (@Ja _ _ _ _ _ (@pv _ 2 _ _ rfl (.inl rfl) rfl rfl) (@Ja _ _ _ _ _ (@Jb _ _ _ _) (@Jc _) rfl) rfl) rfl) rfl (by decide) rfl rfl) rfl (by first | exact .inl rfl | exact .inr rfl | assumption))) (@Jd _ _ _ _ _ (@J2 _ _ _ (@JdP _ _ _ _ _ _ _ _ _ _ 4 1 ["_law_k", "_law_marks"] [3] _ _ _ _ ["_law_cell", "_law_kind", "_law_size", "_law_marks", "_law_found"] ((Jl JeI).names) (by decide +kernel) JcG.nd rfl (@Ze _ _ _ _ _ _ rfl T.Zu (@Ja _ _ _ _ _ (@pv _ 2 _ _ rfl (.inl rfl) rfl rfl) (@Jc _) rfl) rfl) (fun _ _ _ _=>(@YK _ _ _ _ _ _ _ _ _ 0 (by decide +kernel) rfl rfl)) (fun _ _ _ _=>(@Jgq _ _ _ (@Js _ _ _ _ _ _ _ _ (@Yc _) (@JB _ _ _ _ _ _ _ (show IxR _ (Jbs K) from (@JF _)) (@JX _ _ _ _ _ _ _ _ _ 1 rfl rfl (by decide) (by decide)) (@Yd _ _ _ _ _ _ _ _ _ 0 rfl rfl (by decide) (by decide)) (fun _ _=>rfl)) (@Jb _ _ _ _) (JC _)))) (fun _ _ _ _=>(@Yd _ _ _ _ _ _ _ _ _ 0 rfl rfl (by decide) (by decide))) rfl rfl rfl rfl rfl (by intro _; rfl))) (@Jd _ _ _ _ _ (@J2 _ _ _ (@JN _ _ _ _ _ _ _ _ (@PW.pt _ _ _ (@Jkv _ _ _ _ _ _ _ (@Js _ _ _ _ _ _ _ _ (@Jcq _) (@pv _ 1 _ _ rfl (.inl rfl) rfl rfl) (@Jb _ _ _ _) (JC _)) (@Ji0 _ _ _ _ (@Js _ _ _ _ _ _ _ _ (@JoT _) (@Jj _ _ _ _ _ _ _ _ (@JQ _) (@pv _ 0 _ _ rfl (.inl rfl) rfl rfl) (@Jb _ _ _ _)) (@Jb _ _ _ _) (JC _))))) (@Jh _ _ _ (@Jt _ _ 4 _ _ _ _ JcG.nd rfl (Or.inl rfl) (@Ye _ _ _ _ (@Ja _ _ _ _ _ (@Jj _ _ _ _ _ _ _ _ (@Y2 _) (@pv _ 2 _ _ rfl (.inl rfl) rfl rfl) (@Jb _ _ _ _)) (@Jc _) rfl)) rfl (.inl rfl))) (@Jy _))) (@Jd _ _ _ _ _ (@J2 _ _ _ (@JN _ _ _ _ _ _ _ _ (@PW.pt _ _ _ (@Jkv _ _ _ _ _ _ _ (@Js _ _ _ _ _ _ _ _ (@Yc _) (@Jj _ _ _ _ _ _ _ _ (@JQ _) (@pv _ 0 _ _ rfl (.inl rfl) rfl rfl) (@Jb _ _ _ _)) (@Jb _ _ _ _) (JC _)) (@Ji0 _ _ _ _ (@Js _ _ _ _ _ _ _ _ (@Jh9 _ hr.units0) (@pv _ 4 _ _ rfl (.inl rfl) rfl rfl) (@Ye _ _ _ _ (@Jc _)) (JC _))))) (@Jh _ _ _ (@Jt _ _ 4 _ _ _ _ JcG.nd rfl (Or.inl rfl) (@Ye _ _ _ _ (@Ja _ _ _ _ _ (@Jj _ _ _ _ _ _ _ _ (@Y2 _) (@pv _ 2 _ _ rfl (.inl rfl) rfl rfl) (@Jb _ _ _ _)) (@Jc _) rfl)) rfl (.inl rfl))) (@Jy _))) (@Jh _ _ _ (@Ju _ _ _ _ (@pv _ 4 _ _ rfl (.inl rfl) rfl rfl))))))),?_⟩;refine ⟨fun σ1 H1=>∃ (pm:Addr) (ms:List Int),Jg H H1∧Jo K H1 pm (ms.map V.int)∧ms.length=n∧σ1=[some (.int c),some (.int kd),some (.int n),some (.ref pm),none],
   ⟨_,rfl,_,_,rfl,rfl,⟨by decide,by decide⟩,_,rfl,_,n,_,rfl,by omega,by decide,by decide,fun pm ms H1 h1 e1 h2 h3 h4=>⟨pm,ms,e1,Jo.of h2,h3,rfl⟩⟩,?_⟩
  rintro σ1 H1 ⟨pm,ms,e1,hm,hml,rfl⟩;have fresh:∀ {p:Addr} {H':Hp},Jg H H'→H' p=none→H p=none:=fun {p H'} e h=>by
   cases hd:H p with
   | none=>rfl
   | some u=>rw [e _ _ hd] at h; cases h
  let R:St→Hp→Prop:=fun σ1 H2=>∃ (p:Addr) (gs:List Int),H p=none∧Jg H H2∧H2 p=some (.lst (gs.map V.int))∧gs.Nodup∧(∀ g∈gs,0≤g∧g < n)∧σ1=[some (.int c),some (.int kd),some (.int n),some (.ref pm),some (.ref p)]
  have one:∀ {p:Addr} {H2:Hp},Jg H H2→H2 p=none→R [some (.int c),some (.int kd),some (.int n),some (.ref pm),some (.ref p)] (upd H2 p (.lst [.int ((n:Int) - 1)])):=fun {p H2} e2 np =>
   ⟨p,[(n:Int) - 1],fresh e2 np,e2.trans (Jg.upd np),Jf,by simp,fun g hg=>by rw [List.mem_singleton.mp hg]; omega,rfl⟩
  refine ⟨R,?_,?_⟩
  ·refine ⟨_,rfl,(n:Int),rfl,by omega,by omega,fun D hD=>?_⟩;rw [show ((n:Int)).toNat=n from Int.toNat_natCast n];refine Jj3 (n:=n) (fun i ys H2=>Jg H1 H2∧H2 D=some (.lst ys)∧∃ gs:List Int,ys=gs.map V.int∧gs.length≤i∧gs.Nodup∧∀ g∈gs,0≤g∧g < i) rfl ⟨Jg.upd hD,Jf,[],rfl,Nat.le_refl _,List.nodup_nil,fun g hg=>nomatch hg⟩ (fun i ys H2 p=>p.2.1) ?_ ?_
   ·rintro i ys H2 hi ⟨e2,hy,gs,rfl,hgl,hgn,hgr⟩;obtain ⟨x,a1,_⟩:=Jcy (xs:=ms) (e:=0 + (i:Int)) (by omega) (by omega);refine ⟨_,rfl,_,rfl,pm,_,_,.int x,rfl,rfl,e2.seq hm,a1,rfl,_,rfl,Yw (fun _=>?_) (fun _=>?_)⟩
    ·refine ⟨_,rfl,hy,by rw [List.length_map]; omega,fun b u e=>?_,Jf,gs ++ [0 + (i:Int)],by rw [List.map_append]; rfl,by simp; omega,?_,fun g hg=>?_⟩
     ·rw [Jq (Jr e hD)]; exact e2 b u e
     ·rw [List.nodup_append];refine ⟨hgn,by simp,fun x hx y hy e=>?_⟩;rw [List.mem_singleton] at hy;have:=hgr x hx;omega
     ·rcases List.mem_append.mp hg with w | w
      ·have:=hgr g w; omega
      ·rw [List.mem_singleton.mp w]; omega
    ·exact ⟨e2,hy,gs,rfl,by omega,hgn,fun g hg=>by have:=hgr g hg; omega⟩
   ·rintro ys H2 ⟨e2,hy,gs,rfl,_,hgn,hgr⟩;exact ⟨D,gs,fresh e1 hD,e1.trans e2,hy,hgn,hgr,rfl⟩
  rintro σ1 H2 ⟨p2,gs2,np2,e2,hp2,nd2,rg2,rfl⟩;refine ⟨R,?_,?_⟩
  ·refine ⟨_,rfl,_,_,rfl,rfl,_,rfl,Yw (fun _=>?_) (fun _=>ZJ ⟨p2,gs2,np2,e2,hp2,nd2,rg2,rfl⟩)⟩;refine ⟨_,rfl,_,_,rfl,rfl,(by show (0:Int) < 3; decide),rfl,_,rfl,Yw (fun _=>?_) (fun _=>⟨p2,gs2,np2,e2,hp2,nd2,rg2,rfl⟩)⟩;exact ⟨_,rfl,_,_,rfl,rfl,by show 1≤sizeLine; omega,fun p np=>one e2 np⟩
  clear rg2 nd2 hp2 e2 np2 gs2 p2 H2;rintro σ1 H2 ⟨p2,gs2,np2,e2,hp2,nd2,rg2,rfl⟩;refine ⟨R,?_,?_⟩
  ·refine ⟨_,rfl,_,_,rfl,rfl,(by show (0:Int) < 3; decide),rfl,_,rfl,Yw (fun _=>?_) (fun _=>ZJ ⟨p2,gs2,np2,e2,hp2,nd2,rg2,rfl⟩)⟩;refine ⟨_,rfl,by show 0≤sizeLine; omega,fun l nl=>⟨p2,l,_,rfl,rfl,(Jg.upd nl).seq (Jo.of hp2),Jo.of Jf,_,rfl,Yw (fun _=>?_) (fun _=>?_)⟩⟩
   ·exact ⟨_,rfl,_,_,rfl,rfl,by show 1≤sizeLine; omega,fun p np=>one (e2.trans (Jg.upd nl)) np⟩
   ·exact ⟨p2,gs2,np2,e2.trans (Jg.upd nl),(Jg.upd nl) _ _ hp2,nd2,rg2,rfl⟩
  clear rg2 nd2 hp2 e2 np2 gs2 p2 H2;rintro σ1 H2 ⟨p2,gs2,np2,e2,hp2,nd2,rg2,rfl⟩;exact ⟨_,rfl,q p2 gs2 H2 np2 e2 hp2 nd2 rg2⟩
theorem JbV {K:PySem.W.Frag} {H:Hp} {D:Addr} {ys ys':List V} {zs:List (V×(Str×Str))} (h:Yq K H zs) (hD:H D=some (.lst ys)):Yq K (upd H D (.lst ys')) zs:=fun z hz=>by
 obtain ⟨a,h1,h2⟩:=h z hz;refine ⟨a,h1,?_⟩;rcases h2 with (q | ⟨o,q⟩) | q
 ·exact .inl (.inl (by rw [Jq (Z5 q hD (fun z=>nomatch z))]; exact q))
 ·exact .inl (.inr ⟨o,by rw [Jq (Z5 q hD (fun z=>nomatch z))]; exact q⟩)
 ·exact .inr q
theorem JkC (T:Txt K mg):JM P w K mg base Y6 3 T.Jfp T.Jep ["_law_script", "_law_at_here"] (Jkl K):=by
 refine T.Jfw.F.ok Zy (fun vs H Q E h=>?_) (fun cdv A outer s H vs Q E hr h=>?_)
 ·obtain ⟨_,_,_,rfl,_⟩:=h;rfl
 ·obtain ⟨a,ns,k,rfl,hS,h0,q⟩:=h;have szl:sizeLine=16777216:=sizeLine_eq;refine ⟨_,(@Jd _ _ _ _ _ (@J2 _ _ _ (@Jt _ _ 2 _ _ _ _ Zy.nd rfl (Or.inl rfl) (@Jn _ _ _ _ _ _ _ _ _ _ _ _ _ _ _ T.JbK (Ja7 T) (hr.mono (by decide)) JL (@Ja _ _ _ _ _ (@pv _ 0 _ _ rfl (.inl rfl) rfl rfl) (@Ja _ _ _ _ _ (@Jj _ _ _ _ _ _ _ _ (@JP _) (@pv _ 1 _ _ rfl (.inl rfl) rfl rfl) (@Jb _ _ _ _)) (@Jc _) rfl) rfl) rfl (by decide) rfl rfl) rfl (.inl rfl))) (@Jd _ _ _ _ _ (@J2 _ _ _ (@Jt _ _ 3 _ _ _ _ Zy.nd rfl (Or.inl rfl) (@JB _ _ _ _ _ _ _ (@JF _) (@Ye _ _ _ _ (@Ja _ _ _ _ _ (@Jb _ _ _ _) (@Ja _ _ _ _ _ (@Jb _ _ _ _) (@Ja _ _ _ _ _ (@Jb _ _ _ _) (@Ja _ _ _ _ _ (@Jb _ _ _ _) (@Ja _ _ _ _ _ (@Jb _ _ _ _) (@Ja _ _ _ _ _ (@Jb _ _ _ _) (@Ja _ _ _ _ _ (@Jb _ _ _ _) (@Jc _) rfl) rfl) rfl) rfl) rfl) rfl) rfl)) (@Jj _ _ _ _ _ _ _ _ (@JQ _) (@pv _ 2 _ _ rfl (.inl rfl) rfl rfl) (@Jb _ _ _ _)) (fun _ _=>rfl)) rfl (.inl rfl))) (@Jd _ _ _ _ _ (@J2 _ _ _ (@JN _ _ _ _ _ _ _ _ (@Js _ _ _ _ _ _ _ _ (@Yc _) (@Jj _ _ _ _ _ _ _ _ (@JQ _) (@Jj _ _ _ _ _ _ _ _ (@YE _) (@pv _ 2 _ _ rfl (.inl rfl) rfl rfl) (@Jb _ _ _ _)) (@Jb _ _ _ _)) (@Jb _ _ _ _) (JC _)) (@Jh _ _ _ (@Jt _ _ 3 _ _ _ _ Zy.nd rfl (Or.inl rfl) (@Jj _ _ _ _ _ _ _ _ (@JP _) (@Jb _ _ _ _) (@Jj _ _ _ _ _ _ _ _ (@JQ _) (@Jj _ _ _ _ _ _ _ _ (@YE _) (@pv _ 2 _ _ rfl (.inl rfl) rfl rfl) (@Jb _ _ _ _)) (@Jb _ _ _ _))) rfl (.inl rfl))) (@Jy _))) (@Jd _ _ _ _ _ (@J2 _ _ _ (@Jt _ _ 4 _ _ _ _ Zy.nd rfl (Or.inr rfl) (@Jn _ _ _ _ _ _ _ _ _ _ _ _ _ _ _ T.JeW (Jid T) (hr.mono (by decide)) JL (@Ja _ _ _ _ _ (@Jn _ _ _ _ _ _ _ _ _ _ _ _ _ _ _ T.JbK (Ja7 T) (hr.mono (by decide)) JL (@Ja _ _ _ _ _ (@pv _ 0 _ _ rfl (.inl rfl) rfl rfl) (@Ja _ _ _ _ _ (@Jj _ _ _ _ _ _ _ _ (@JP _) (@pv _ 1 _ _ rfl (.inl rfl) rfl rfl) (@Jb _ _ _ _)) (@Jc _) rfl) rfl) rfl (by decide) rfl rfl) (@Ja _ _ _ _ _ (@pv _ 3 _ _ rfl (.inl rfl) rfl rfl) (@Jc _) rfl) rfl) rfl (by decide) rfl rfl) rfl (by first | exact .inl rfl | exact .inr rfl | assumption))) (@Jd _ _ _ _ _ (@J2 _ _ _ (@Jt _ _ 5 _ _ _ _ Zy.nd rfl (Or.inl rfl) (@Jn _ _ _ _ _ _ _ _ _ _ _ _ _ _ _ T.JbK (Ja7 T) (hr.mono (by decide)) JL (@Ja _ _ _ _ _ (@pv _ 0 _ _ rfl (.inl rfl) rfl rfl) (@Ja _ _ _ _ _ (@pv _ 1 _ _ rfl (.inl rfl) rfl rfl) (@Jc _) rfl) rfl) rfl (by decide) rfl rfl) rfl (.inl rfl))) (@Jd _ _ _ _ _ (@J2 _ _ _ (@Jt _ _ 6 _ _ _ _ Zy.nd rfl (Or.inl rfl) (@Jn _ _ _ _ _ _ _ _ _ _ _ _ _ _ _ T.JgP (Jl8 T) (hr.mono (by decide)) JL (@Ja _ _ _ _ _ (@pv _ 5 _ _ rfl (.inl rfl) rfl rfl) (@Ja _ _ _ _ _ (@Jn _ _ _ _ _ _ _ _ _ _ _ _ _ _ _ T.JbK (Ja7 T) (hr.mono (by decide)) JL (@Ja _ _ _ _ _ (@pv _ 0 _ _ rfl (.inl rfl) rfl rfl) (@Ja _ _ _ _ _ (@Jj _ _ _ _ _ _ _ _ (@JP _) (@pv _ 1 _ _ rfl (.inl rfl) rfl rfl) (@Jb _ _ _ _)) (@Jc _) rfl) rfl) rfl (by decide) rfl rfl) (@Ja _ _ _ _ _ (@pv _ 3 _ _ rfl (.inl rfl) rfl rfl) (@Jc _) rfl) rfl) rfl) rfl (by decide) rfl rfl) rfl (.inl rfl))) (@Jd _ _ _ _ _ (@J2 _ _ _ (@Jt _ _ 7 _ _ _ _ Zy.nd rfl (Or.inl rfl) (@Jn _ _ _ _ _ _ _ _ _ _ _ _ _ _ _ T.JgQ (Jl9 T) (hr.mono (by decide)) JL (@Ja _ _ _ _ _ (@Jn _ _ _ _ _ _ _ _ _ _ _ _ _ _ _ T.JbK (Ja7 T) (hr.mono (by decide)) JL (@Ja _ _ _ _ _ (@pv _ 0 _ _ rfl (.inl rfl) rfl rfl) (@Ja _ _ _ _ _ (@Jj _ _ _ _ _ _ _ _ (@JP _) (@pv _ 1 _ _ rfl (.inl rfl) rfl rfl) (@Jb _ _ _ _)) (@Jc _) rfl) rfl) rfl (by decide) rfl rfl) (@Ja _ _ _ _ _ (@Jj _ _ _ _ _ _ _ _ (@JQ _) (@pv _ 5 _ _ rfl (.inl rfl) rfl rfl) (@Jb _ _ _ _)) (@Ja _ _ _ _ _ (@pv _ 3 _ _ rfl (.inl rfl) rfl rfl) (@Jc _) rfl) rfl) rfl) rfl (by decide) rfl rfl) rfl (.inl rfl))) (@Jd _ _ _ _ _ (@J2 _ _ _ (@JdP _ _ _ _ _ _ _ _ _ _ 8 2 ["_law_a", "_law_b", "_law_names_here"] [4] _ _ _ _ ["_law_script", "_law_at_here", "_law_cell", "_law_size", "_law_names_here", "_law_kind", "_law_pairs_here", "_law_goals_here", "_law_lanes"] ((Jl JcH).names) (by decide +kernel) Zy.nd rfl (@Yr _ _ _ _ (@pv _ 6 _ _ rfl (.inl rfl) rfl rfl)) (fun _ _ _ _=>(show PG _ _ (Jiq K 2 _) from Jh0 rfl (@Jbt _ _ _ _ _ (@YK _ _ _ _ _ _ _ _ _ 0 (by decide +kernel) rfl rfl) (@Jbt _ _ _ _ _ (@YK _ _ _ _ _ _ _ _ _ 1 (by decide +kernel) rfl rfl) (@Jgr _) rfl) rfl))) (fun _ _ _ _=>(@Zh _)) (fun _ _ _ _=>(@YX _ _ _ _ _ (@Ja _ _ _ _ _ (@JB _ _ _ _ _ _ _ (show IxR _ (Jbs K) from (@JF _)) (@JX _ _ _ _ _ _ _ _ _ 2 rfl rfl (by decide) (by decide)) (@Yd _ _ _ _ _ _ _ _ _ 0 rfl rfl (by decide) (by decide)) (fun _ _=>rfl)) (@Ja _ _ _ _ _ (@JB _ _ _ _ _ _ _ (show IxR _ (Jbs K) from (@JF _)) (@JX _ _ _ _ _ _ _ _ _ 2 rfl rfl (by decide) (by decide)) (@Yd _ _ _ _ _ _ _ _ _ 1 rfl rfl (by decide) (by decide)) (fun _ _=>rfl)) (@Jc _) rfl) rfl))) rfl rfl rfl rfl rfl (by intro _; rfl))) (@Jh _ _ _ (@Ju _ _ _ _ (@YX _ _ _ _ _ (@Ja _ _ _ _ _ (@pv _ 4 _ _ rfl (.inr (.inl rfl)) rfl rfl) (@Ja _ _ _ _ _ (@pv _ 8 _ _ rfl (.inl rfl) rfl rfl) (@Ja _ _ _ _ _ (@Jcp _ _ _ _ _ _ _ 1 ["_law_k", "_law_names_here"] [4] _ _ _ _ ["_law_script", "_law_at_here", "_law_cell", "_law_size", "_law_names_here", "_law_kind", "_law_pairs_here", "_law_goals_here", "_law_lanes"] ((Jl JcH).names) (by decide +kernel) (@Yr _ _ _ _ (@pv _ 7 _ _ rfl (.inl rfl) rfl rfl)) (fun _ _ _ _=>(@YK _ _ _ _ _ _ _ _ _ 0 (by decide +kernel) rfl rfl)) (fun _ _ _ _=>(@Zh _)) (fun _ _ _ _=>(@JB _ _ _ _ _ _ _ (show IxR _ (Jbs K) from (@JF _)) (@JX _ _ _ _ _ _ _ _ _ 1 rfl rfl (by decide) (by decide)) (@Yd _ _ _ _ _ _ _ _ _ 0 rfl rfl (by decide) (by decide)) (fun _ _=>rfl))) rfl rfl rfl (by intro _; rfl)) (@Jc _) rfl) rfl) rfl)))))))))))),?_⟩
  try dsimp only [cxK,Jes]
  refine ⟨fun σ1 H1=>∃ c:Int,H1=H∧σ1=[some (.ref a),some (.int k),some (.int c),none,none,none,none,none,none],
   ⟨_,rfl,_,rfl,_,_,rfl,rfl,a,ns,_,rfl,hS,by omega,_,rfl,rfl⟩,?_⟩
  rintro σ1 H1 ⟨c,rfl,rfl⟩;refine ⟨fun σ1 H2=>∃ n:Nat,Jg H1 H2∧1≤n∧n≤12∧σ1=[some (.ref a),some (.int k),some (.int c),some (.int n),none,none,none,none,none],?_,?_⟩
  ·refine ⟨by show 7≤sizeLine; omega,fun l nl=>?_⟩;obtain ⟨n,hn,h1,h2⟩:∃ n:Nat,atI [V.int 4,V.int 3,V.int 5,V.int 6,V.int 2,V.int 5,V.int 1] (c % 7)=some (.int n)∧1≤n∧n≤12:=by
    have h:c % 7=0∨c % 7=1∨c % 7=2∨c % 7=3∨c % 7=4∨c % 7=5∨c % 7=6:=by omega
    rcases h with h | h | h | h | h | h | h <;> rw [h]
    ·exact ⟨4,rfl,by decide,by decide⟩
    ·exact ⟨3,rfl,by decide,by decide⟩
    ·exact ⟨5,rfl,by decide,by decide⟩
    ·exact ⟨6,rfl,by decide,by decide⟩
    ·exact ⟨2,rfl,by decide,by decide⟩
    ·exact ⟨5,rfl,by decide,by decide⟩
    ·exact ⟨1,rfl,by decide,by decide⟩
   exact ⟨_,rfl,_,_,rfl,rfl,(by show (0:Int) < 7; decide),l,_,_,.int n,rfl,rfl,Jo.of Jf,hn,n,Jg.upd nl,h1,h2,rfl⟩
  rintro σ1 H2 ⟨n,e2,hn1,hn2,rfl⟩;refine ⟨fun σ1 H3=>∃ n:Nat,H3=H2∧1≤n∧n≤12∧σ1=[some (.ref a),some (.int k),some (.int c),some (.int n),none,none,none,none,none],?_,?_⟩
  ·refine ⟨_,rfl,_,_,rfl,rfl,⟨by decide,by decide⟩,_,_,rfl,rfl,(by show (0:Int) < 6; decide),rfl,_,rfl,Yw (fun _=>?_) (fun _=>⟨n,rfl,hn1,hn2,rfl⟩)⟩;refine ⟨_,rfl,_,_,rfl,rfl,⟨by decide,by decide⟩,_,_,rfl,rfl,(by show (0:Int) < 12; decide),_,_,rfl,rfl,(1 + c / 42 % 12).toNat,rfl,by omega,by omega,?_⟩;rw [Int.toNat_of_nonneg (by omega)]; rfl
  clear hn1 hn2 n;rintro σ1 H3 ⟨n,rfl,hn1,hn2,rfl⟩;refine ⟨fun σ1 H4=>∃ (pn:Addr) (ps:List Str),Jg H1 H4∧H4 pn=some (.lst (ps.map V.str))∧ps.length=n∧(∀ s∈ps,Y5 s=true)∧ps.Nodup∧σ1=[some (.ref a),some (.int k),some (.int c),some (.int n),some (.ref pn),none,none,none,none],
   ⟨_,rfl,_,rfl,_,_,rfl,rfl,a,ns,_,rfl,e2.seq hS,by omega,_,rfl,_,n,rfl,hn1,hn2,fun pn ps H4 h1 e4 h2 h3 h4 h5=>⟨pn,ps,e2.trans e4,h2,h3,h4,h5,rfl⟩⟩,?_⟩
  rintro σ1 H4 ⟨pn,ps,e4,hpn,hpl,hpg,hpd,rfl⟩;refine ⟨fun σ1 H5=>∃ kd:Int,H5=H4∧σ1=[some (.ref a),some (.int k),some (.int c),some (.int n),some (.ref pn),some (.int kd),none,none,none],
   ⟨_,rfl,_,rfl,a,ns,_,rfl,e4.seq hS,h0,_,rfl,rfl⟩,?_⟩
  rintro σ1 H5 ⟨kd,rfl,rfl⟩;refine ⟨fun σ1 H6=>∃ (pp:Addr) (zs:List (V×(Int×Int))),PW K H5 pp n H6 zs∧zs.length≤40∧σ1=[some (.ref a),some (.int k),some (.int c),some (.int n),some (.ref pn),some (.int kd),some (.ref pp),none,none],
   ⟨_,rfl,_,rfl,_,rfl,_,_,rfl,rfl,a,ns,_,rfl,e4.seq hS,by omega,_,rfl,kd,_,n,rfl,hn1,hn2,fun pp zs H6 h1 W hl=>⟨pp,zs,W,hl,rfl⟩⟩,?_⟩
  rintro σ1 H6 ⟨pp,zs,W,hzl,rfl⟩;have e6:=e4.trans W.sm;refine ⟨fun σ1 H7=>∃ (pg:Addr) (gs:List Int),Jg H6 H7∧H7 pg=some (.lst (gs.map V.int))∧gs.Nodup∧(∀ g∈gs,0≤g∧g < n)∧σ1=[some (.ref a),some (.int k),some (.int c),some (.int n),some (.ref pn),some (.int kd),some (.ref pp),some (.ref pg),none],
   ⟨_,rfl,_,rfl,_,_,rfl,rfl,a,ns,_,rfl,e6.seq hS,by omega,_,rfl,_,_,rfl,rfl,(by show (0:Int) < 4; decide),_,rfl,_,_,n,rfl,hn1,hn2,fun pg gs H7 h1 e7 h2 h3 h4=>⟨pg,gs,e7,h2,h3,h4,rfl⟩⟩,?_⟩
  rintro σ1 H7 ⟨pg,gs,e7,hpgs,hgd,hgr,rfl⟩;have e17:=e6.trans e7;have hpn7:=e7 _ _ (W.sm _ _ hpn);have hpp7:=e7 _ _ W.at_;refine ⟨fun σ1 H8=>∃ (pl:Addr) (ls:List (V×(Str×Str))),Jg H7 H8∧H8 pl=some (.lst (ls.map (·.1)))∧Yq K H8 ls∧ls.map (·.2)=(zs.map (·.2)).map (nm2 ps)∧σ1=[some (.ref a),some (.int k),some (.int c),some (.int n),some (.ref pn),some (.int kd),some (.ref pp),some (.ref pg),some (.ref pl)],?_,?_⟩
  ·refine ⟨_,rfl,pp,rfl,⟨_,Jo.of hpp7⟩,fun D hD=>?_⟩;refine JdY (xs:=zs.map (·.1)) (fun i ys H8=>Jg H7 H8∧H8 D=some (.lst ys)∧∃ ls:List (V×(Str×Str)),ys=ls.map (·.1)∧Yq K H8 ls∧ls.map (·.2)=((zs.take i).map (·.2)).map (nm2 ps)) rfl rfl (fun i ys H8 p=>Jo.of (p.1 _ _ hpp7)) ⟨Jg.upd hD,Jf,[],rfl,(fun z hz=>nomatch hz),rfl⟩ (fun i ys H8 p=>p.2.1) ?_ ?_
   ·rintro i x ys H8 hx ⟨e8,hy,ls,rfl,hP,hls⟩;rw [List.getElem?_map] at hx;obtain ⟨z,hz,rfl⟩:=Option.map_eq_some_iff.mp hx;obtain ⟨b,eb,hb⟩:=W.ip z (List.mem_of_getElem? hz);obtain ⟨r1,r2⟩:=W.rg z (List.mem_of_getElem? hz);refine ⟨b,.int z.2.1,.int z.2.2,eb,(e7.trans e8).tup hb,?_⟩;simp only [JbT,if_true];have hll:ls.length≤40:=by
     have z:=congrArg List.length hls;rw [List.length_map,List.length_map,List.length_map,List.length_take] at z;omega
    refine ⟨_,rfl,_,rfl,pn,_,_,_,rfl,rfl,Jo.of (e8 _ _ hpn7),JhA r1.1 (by omega),_,rfl,_,rfl,pn,_,_,_,rfl,rfl,Jo.of (e8 _ _ hpn7),JhA r2.1 (by omega),by show 2≤sizeLine; omega,fun t nt=>?_⟩;have e9:=Jg.upd (o:=.tup [.str (nm ps z.2.1),.str (nm ps z.2.2)]) nt;refine ⟨e9 _ _ hy,by rw [List.length_map]; omega,fun b u e=>?_,Jf,ls ++ [(.ref t,nm2 ps z.2)],by rw [List.map_append]; rfl,fun z' hz'=>?_,?_⟩
    ·rw [Jq (Jr e hD)]; exact e9 _ _ (e8 b u e)
    ·rcases List.mem_append.mp hz' with q | q
     ·exact JbV (YL hP e9) (e9 _ _ hy) z' q
     ·rw [List.mem_singleton.mp q];exact JbV (zs:=[(.ref t,nm2 ps z.2)]) (fun z' hz'=>by rw [List.mem_singleton.mp hz']; exact ⟨t,rfl,JT.of Jf⟩) (e9 _ _ hy) _ (List.mem_singleton.mpr rfl)
    ·rw [List.map_append,hls,List.take_succ,hz,List.map_append,List.map_append]; rfl
   ·rintro ys H8 ⟨e8,hy,ls,rfl,hP,hls⟩;rw [List.length_map,List.take_length] at hls;exact ⟨D,ls,e8,hy,hP,hls,rfl⟩
  rintro σ1 H8 ⟨pl,ls,e8,hll,hP,hls,rfl⟩;refine ⟨_,rfl,_,rfl,_,rfl,pg,rfl,⟨_,Jo.of (e8 _ _ hpgs)⟩,fun D hD=>?_⟩;refine Jhf (xs:=gs.map V.int) (fun i v=>∃ g,gs[i]?=some g∧v=.str (nm ps g)) rfl (Jo.of (e8 _ _ hpgs)) hD ?_ (fun i x H9 hx e9 Q' hQ=>?_) (fun ys H9 e9 hy hyl hF=>?_)
  ·rw [List.length_map];have:gs.length≤n:=by
    have z:=Jed (r:=(List.range n).map fun (i:Nat)=>(i:Int)) hgd fun x hx=>by
     have:=hgr x hx;exact List.mem_map.mpr ⟨x.toNat,List.mem_range.mpr (by omega),by omega⟩
    simpa using z
   omega
  ·rw [List.getElem?_map] at hx;obtain ⟨g,hg,rfl⟩:=Option.map_eq_some_iff.mp hx;have:=hgr g (List.mem_of_getElem? hg);exact ⟨_,rfl,_,rfl,pn,_,_,_,rfl,rfl,Jo.of (e9 _ _ (e8 _ _ hpn7)),JhA this.1 (by omega),hQ _ ⟨g,hg,rfl⟩⟩
  ·have eys:ys=(gs.map (nm ps)).map V.str:=by
    apply List.ext_getElem?;intro i;by_cases hi:i < ys.length
    ·obtain ⟨g,h1,h2⟩:=hF i _ (List.getElem?_eq_getElem hi);rw [List.getElem?_eq_getElem hi,h2,List.getElem?_map,List.getElem?_map,h1];rfl
    ·rw [List.getElem?_eq_none (by omega),List.getElem?_eq_none];rw [List.length_map] at hyl;rw [List.length_map,List.length_map];omega
   subst eys;refine ⟨by show 3≤sizeLine; omega,fun t nt=>q t ps ls (gs.map (nm ps)) _ ((e17.trans e8).trans (e9.trans (Jg.upd nt))) ⟨⟨by omega,by omega,hpg,hpd,?_,?_,?_,?_,?_⟩,pn,pl,D,Jf,?_,?_,?_,?_⟩⟩
   ·rw [hls,List.length_map,List.length_map]; exact hzl
   ·intro z hz;rw [hls] at hz;obtain ⟨y,hy1,rfl⟩:=List.mem_map.mp hz;obtain ⟨z',hz',rfl⟩:=List.mem_map.mp hy1;obtain ⟨r1,r2⟩:=W.rg z' hz';exact ⟨JfI r1.1 (by omega),JfI r2.1 (by omega)⟩
   ·rw [hls];refine Jg4 W.nd fun x hx y hy e=>?_
    obtain ⟨z',hz',rfl⟩:=List.mem_map.mp hx;obtain ⟨z2,hz2,rfl⟩:=List.mem_map.mp hy;obtain ⟨r1,r2⟩:=W.rg z' hz';obtain ⟨r3,r4⟩:=W.rg z2 hz2;have e1:=congrArg Prod.fst e;have e2:=congrArg Prod.snd e;exact Prod.ext (Jih hpd r1.1 (by omega) r3.1 (by omega) e1) (Jih hpd r2.1 (by omega) r4.1 (by omega) e2)
   ·intro g hg;obtain ⟨x,hx,rfl⟩:=List.mem_map.mp hg;have:=hgr x hx;exact JfI this.1 (by omega)
   ·refine Jg4 hgd fun x hx y hy e=>?_
    have h1:=hgr x hx;have h2:=hgr y hy;exact Jih hpd h1.1 (by omega) h2.1 (by omega) e
   ·exact (e9.trans (Jg.upd nt)) _ _ (e8 _ _ hpn7)
   ·exact (e9.trans (Jg.upd nt)) _ _ hll
   ·exact YL hP (e9.trans (Jg.upd nt))
   ·exact (Jg.upd nt) _ _ hy
end
def Z1 (z:Str) (n:Int) (zs:List (Str×Str)) (gs:List Str):V:=if z∈gs then .str "north" else if n=0∨Jp zs z=[] then .str "south" else .non
def Jm0 (k:Addr):Sp:=fun vs H Q E=>∃ n m:Int,vs=[.int n,.int m]∧(0≤m∧m≤30)∧(0≤n∧n≤m→Q .non H)∧(¬ (0≤n∧n≤m)→E (.ref k) none H)
def JlE (K:PySem.W.Frag) (C k1 k2:Addr):Sp:=fun vs H Q E=>∃ (b:Addr) (z:Str) (n:Int) (ps:List Str) (zs:List (V×(Str×Str))) (gs:List Str),vs=[.ref b,.str z,.int n]∧YU z∧zs.length≤40∧JaC K C H b ps zs gs ∧
 (z∉ps→E (.ref k1) none H)∧(z∈ps→¬ (0≤n∧n≤30)→E (.ref k2) none H)∧(z∈ps→0≤n∧n≤30→∀ H',Jg H H'→Q (Z1 z n (zs.map (·.2)) gs) H')
def Jh8 (n s:Int) (r:Bool) (b a:Int):List V :=
 if b > a then (if r then [.str (hs false),.int (n + b),.int (s - b),.str (hs true)] else [.str (hs true),.int (n - b),.int (s + b),.str (hs false)])
 else if a > b then (if r then [.str (hs true),.int (n - a),.int (s + a),.str (hs true)] else [.str (hs false),.int (n + a),.int (s - a),.str (hs false)])
 else (if r then [.str (hs true),.int (n - a),.int (s + a),.str (hs false)] else [.str (hs false),.int (n + a),.int (s - a),.str (hs true)])
def JiL:Sp:=fun vs H Q _=>∃ (b:Bool) (n s:Int),vs=[.str (hs b),.int n,.int s]∧Q (.int (if b then n else s)) H
def Jh7 (b:Bool) (c n s:Int) (r:Bool):List V:=if b then [.str (hs b),.int (n - c),.int (s + c),.str (hs r)] else [.str (hs b),.int (n + c),.int (s - c),.str (hs r)]
def JnM:Sp:=fun vs H Q _=>∃ (b:Bool) (c n s:Int) (r:Bool),vs=[.str (hs b),.int c,.int n,.int s,.str (hs r)]∧∀ p H',Jg H H'→H' p=some (.tup (Jh7 b c n s r))→Q (.ref p) H'
theorem Jfb (n s:Int) (r:Bool) (b a:Int):Jh8 n s r b a=if b > a then Jh7 (!r) b n s r else if a > b then Jh7 r a n s r else Jh7 r a n s (!r):=by
 unfold Jh8 Jh7;cases r <;> rfl
def Jaz (n s:Int):Prop:=0≤n∧0≤s∧n + s≤20
instance (n s:Int):Decidable (Jaz n s):=by unfold Jaz; exact inferInstance
def Jew (n s:Int) (r:Bool) (b a:Int):Prop:=(0≤b∧b≤(if r then s else n))∧(0≤a∧a≤(if r then n else s))
instance (n s:Int) (r:Bool) (b a:Int):Decidable (Jew n s r b a):=by unfold Jew; exact inferInstance
def Jhr (k:Addr):Sp:=fun vs H Q E=>∃ z:Str,vs=[.str z]∧YU z∧(ZV z=true→Q .non H)∧(ZV z=false→E (.ref k) none H)
def Jlx (k:Addr):Sp:=fun vs H Q E=>∃ z:Str,vs=[.str z]∧YU z∧(∀ b,z=hs b→Q (.str (hs (!b))) H)∧(ZV z=false→E (.ref k) none H)
def Jgb (k:Addr):Sp:=fun vs H Q E=>∃ n s:Int,vs=[.int n,.int s]∧(Jaz n s→Q .non H)∧(¬ Jaz n s→E (.ref k) none H)
def JhJ (k:Addr):Sp:=fun vs H Q E=>∃ n s:Int,vs=[.int n,.int s]∧(0≤n∧n≤s→Q .non H)∧(¬ (0≤n∧n≤s)→E (.ref k) none H)
def Jkj (k1 k2 k3:Addr):Sp:=fun vs H Q E=>∃ (n s:Int) (z:Str) (b a:Int),vs=[.int n,.int s,.str z,.int b,.int a]∧YU z∧(¬ Jaz n s→E (.ref k1) none H)∧(Jaz n s→ZV z=false→E (.ref k2) none H) ∧
 (∀ r,z=hs r→Jaz n s→¬ Jew n s r b a→E (.ref k3) none H)∧(∀ r,z=hs r→Jaz n s→Jew n s r b a→∀ p H',Jg H H'→H' p=some (.tup (Jh8 n s r b a))→Q (.ref p) H')
theorem tcT {σ:St} {H:Hp} {F G:Hp→Prop} (h:F H):JbT σ H (fun b H3=>if b=true then F H3 else G H3):=by
 show if true=true then F H else G H;rw [if_pos rfl];exact h
abbrev J5 (zs:List (Str×Str)) (gs:List Str) (c:Int) (t:Nat) (p:Str) (r:Bool):Int:=need (Jp zs) (fun p=>decide (p∈gs)) c t p r
abbrev loB (zs:List (Str×Str)) (gs:List Str) (c:Int) (t:Nat) (p:Str) (r:Bool):Int:=loA (Jp zs) (fun p=>decide (p∈gs)) c t p r
abbrev hiC (zs:List (Str×Str)) (gs:List Str) (c:Int) (t:Nat) (p:Str) (r:Bool):Int:=hiB (Jp zs) (fun p=>decide (p∈gs)) c t p r
theorem JeC {ps:List Str} {zs:List (Str×Str)} {gs:List Str} (G:Jbk ps zs gs) {p w:Str} (h:w∈Jp zs p):w∈ps:=by
 unfold Jp at h;obtain ⟨z,hz,rfl⟩:=List.mem_map.mp h;exact (G.l2 z (List.mem_filter.mp hz).1).2
theorem JgS {ps:List Str} {zs:List (Str×Str)} {gs:List Str} (G:Jbk ps zs gs) (p:Str):(Jp zs p).length≤40:=by
 unfold Jp;rw [List.length_map];exact Nat.le_trans (List.length_filter_le _ _) G.l1
theorem Jbk.perm {ps ps':List Str} {zs zs':List (Str×Str)} {gs gs':List Str} (G:Jbk ps zs gs) (p:ps'.Perm ps) (z:zs'.Perm zs) (g:gs'.Perm gs):Jbk ps' zs' gs' :=
 ⟨by rw [p.length_eq]; exact G.p1,by rw [p.length_eq]; exact G.p2,fun x h=>G.p3 x (p.mem_iff.mp h),p.nodup_iff.mpr G.p4,by rw [z.length_eq]; exact G.l1,
  fun x h=>let q:=G.l2 x (z.mem_iff.mp h); ⟨p.mem_iff.mpr q.1,p.mem_iff.mpr q.2⟩,z.nodup_iff.mpr G.l3,fun x h=>p.mem_iff.mpr (G.g1 x (g.mem_iff.mp h)),g.nodup_iff.mpr G.g2⟩
structure Bd (K:PySem.W.Frag) (C:Addr) (H:Hp) (b:Addr) (ps:List Str) (zs:List (V×(Str×Str))) (gs:List Str):Prop where
 B:JaC K C H b ps zs gs
 G:Jbk ps (zs.map (·.2)) gs
theorem Bd.same {K:PySem.W.Frag} {C:Addr} {H H':Hp} {b:Addr} {ps:List Str} {zs:List (V×(Str×Str))} {gs:List Str} (h:Bd K C H b ps zs gs) (e:Jg H H'):Bd K C H' b ps zs gs:=⟨h.B.same e,h.G⟩
theorem Bd.zl {K:PySem.W.Frag} {C:Addr} {H:Hp} {b:Addr} {ps:List Str} {zs:List (V×(Str×Str))} {gs:List Str} (h:Bd K C H b ps zs gs):zs.length≤40:=by have:=h.G.l1; rwa [List.length_map] at this
theorem Zp.bd {K:PySem.W.Frag} {C C' dx:Addr} {H H':Hp} {b k:Addr} {ps:List Str} {zs:List (V×(Str×Str))} {gs:List Str} {fs:List (Str×V)} (h:Bd K C H b ps zs gs) (e:Zp k H H') (hk:H k=some (.ins C' dx fs)) (hn:k≠b):Bd K C H' b ps zs gs:=by
 obtain ⟨⟨d,tp,tl,tg,h1,h2,h3,h4,h5⟩,G⟩:=h;exact ⟨⟨d,tp,tl,tg,e _ _ (fun z=>hn z.symm) h1,e _ _ (Z5 h2 hk (fun z=>nomatch z)) h2,e _ _ (Z5 h3 hk (fun z=>nomatch z)) h3,fun z hz=>let ⟨a,q1,q2⟩:=h4 z hz; ⟨a,q1,e.tup hk q2⟩,e _ _ (Z5 h5 hk (fun z=>nomatch z)) h5⟩,G⟩
def ZL (p:Str) (r:Bool):List JO:=[.inr p,.inr (hs r)]
theorem YH {a b:Bool} (h:hs a=hs b):a=b:=by cases a <;> cases b <;> first | rfl | (exact absurd h (by decide +kernel))
theorem JiC {p q:Str} {r s:Bool} (h:ZL p r=ZL q s):p=q∧r=s:=by
 unfold ZL at h;simp only [List.cons.injEq,Sum.inr.injEq,and_true] at h;exact ⟨h.1,YH h.2⟩
def Jdh (H:Hp) (a:Addr) (ps:List Str) (f:Str→Bool→Int):Prop:=∃ kvs:List (List JO×V),H a=some (.dT kvs)∧∀ p∈ps,∀ r,YC kvs (ZL p r)=some (.int (f p r))
theorem Jdh.same {H H':Hp} {a:Addr} {ps:List Str} {f:Str→Bool→Int} (h:Jdh H a ps f) (e:Jg H H'):Jdh H' a ps f:=let ⟨kvs,h1,h2⟩:=h; ⟨kvs,e _ _ h1,h2⟩
structure Bk (K:PySem.W.Frag) (C CB:Addr) (H:Hp) (k b:Addr) (ps:List Str) (zs:List (V×(Str×Str))) (gs:List Str) (c:Int) (t n:Nat):Prop where
 B:Bd K C H b ps zs gs
 c0:0≤c
 c1:c≤20
 t1:t≤30
 at_:∃ (dx l:Addr) (rs:List Addr),H k=some (.ins CB dx [("board",.ref b),("coins",.int c),("turns",.int t),("needs",.ref l)])∧H l=some (.lst (rs.map V.ref))∧rs.length=n∧∀ (i:Nat) a,rs[i]?=some a→Jdh H a ps (J5 (zs.map (·.2)) gs c i)
theorem Bk.same {K:PySem.W.Frag} {C CB:Addr} {H H':Hp} {k b:Addr} {ps:List Str} {zs:List (V×(Str×Str))} {gs:List Str} {c:Int} {t n:Nat} (h:Bk K C CB H k b ps zs gs c t n) (e:Jg H H'):Bk K C CB H' k b ps zs gs c t n :=
 ⟨h.B.same e,h.c0,h.c1,h.t1,let ⟨dx,l,rs,h1,h2,h3,h4⟩:=h.at_; ⟨dx,l,rs,e _ _ h1,e _ _ h2,h3,fun i a q=>(h4 i a q).same e⟩⟩
section
variable (K:PySem.W.Frag) (C CB:Addr)
def JnO:Sp:=fun vs H Q _=>∃ (k b:Addr) (z:Str) (m:Nat) (ps:List Str) (zs:List (V×(Str×Str))) (gs:List Str) (c:Int) (t n:Nat),vs=[.ref k,.str z,.int ((m:Int) + 1)]∧Bk K C CB H k b ps zs gs c t n∧m < n∧z∈ps∧Jp (zs.map (·.2)) z≠[] ∧
 ∀ H',Jg H H'→Q (.int (loB (zs.map (·.2)) gs c m z false)) H'
def JnN:Sp:=fun vs H Q _=>∃ (k b:Addr) (z:Str) (m:Nat) (ps:List Str) (zs:List (V×(Str×Str))) (gs:List Str) (c:Int) (t n:Nat),vs=[.ref k,.str z,.int ((m:Int) + 1)]∧Bk K C CB H k b ps zs gs c t n∧m < n∧z∈ps∧Jp (zs.map (·.2)) z≠[] ∧
 ∀ H',Jg H H'→Q (.int (hiC (zs.map (·.2)) gs c m z true)) H'
def Jm3:Sp:=fun vs H Q _=>∃ (k b:Addr) (z:Str) (m:Nat) (r:Bool) (ps:List Str) (zs:List (V×(Str×Str))) (gs:List Str) (c:Int) (t n:Nat),vs=[.ref k,.str z,.int m,.str (hs r)]∧Bk K C CB H k b ps zs gs c t n∧m≤n∧m≤30∧z∈ps ∧
 ∀ H',Jg H H'→Q (.int (J5 (zs.map (·.2)) gs c m z r)) H'
def Jly:Sp:=fun vs H Q _=>∃ (k b:Addr) (m:Nat) (ps:List Str) (zs:List (V×(Str×Str))) (gs:List Str) (c:Int) (t n:Nat),vs=[.ref k,.int m]∧Bk K C CB H k b ps zs gs c t n∧m≤n∧m≤30 ∧
 ∀ a H',Jg H H'→Jdh H' a ps (J5 (zs.map (·.2)) gs c m)→Q (.ref a) H'
def JhK (x:Addr):Sp:=fun vs H Q E=>∃ (k b dx:Addr) (c t:Int) (ps:List Str) (zs:List (V×(Str×Str))) (gs:List Str),vs=[.ref k,.ref b,.int c,.int t]∧H k=some (.ins CB dx [])∧k≠b∧Bd K C H b ps zs gs ∧
 (¬ (0≤c∧c≤20)→E (.ref x) none H)∧(0≤c∧c≤20→¬ (0≤t∧t≤30)→E (.ref x) none H) ∧
 (0≤c∧c≤20→0≤t∧t≤30→∀ H',Zp k H H'→Bk K C CB H' k b ps zs gs c t.toNat (t.toNat + 1)→Q .non H')
def Jgd (ps:List Str) (c:Int) (t:Nat) (z:Str) (m north:Int) (x:Str):Prop:=z∈ps∧(0≤m∧m≤t)∧(0≤north∧north≤c)∧ZV x=true
def JcE (kP kR kH:Addr) (ps:List Str) (c:Int) (t:Nat) (z:Str) (m north:Int) (x:Str) (H:Hp) (E:XK):Prop :=
 (z∉ps→E (.ref kP) none H)∧(z∈ps→¬ (0≤m∧m≤t)→E (.ref kR) none H)∧(z∈ps→0≤m∧m≤t→¬ (0≤north∧north≤c)→E (.ref kR) none H)∧(z∈ps→0≤m∧m≤t→0≤north∧north≤c→ZV x=false→E (.ref kH) none H)
theorem ZN {kP kR kH:Addr} {ps:List Str} {c:Int} {t:Nat} {z:Str} {m north:Int} {x:Str} {H:Hp} {E:XK} (h:Jgd ps c t z m north x):JcE kP kR kH ps c t z m north x H E :=
 ⟨fun z=>absurd h.1 z,fun _ z=>absurd h.2.1 z,fun _ _ z=>absurd h.2.2.1 z,fun _ _ _ z=>by rw [h.2.2.2] at z; cases z⟩
def Jlv (kP kR kH:Addr):Sp:=fun vs H Q E=>∃ (k b:Addr) (z x:Str) (m north:Int) (ps:List Str) (zs:List (V×(Str×Str))) (gs:List Str) (c:Int) (t:Nat),vs=[.ref k,.str z,.int m,.int north,.str x]∧YU z∧YU x∧Bk K C CB H k b ps zs gs c t (t + 1) ∧
 JcE kP kR kH ps c t z m north x H E∧(Jgd ps c t z m north x→Q .non H)
def Jki (kP kR kH:Addr):Sp:=fun vs H Q E=>∃ (k b:Addr) (z x:Str) (m north:Int) (ps:List Str) (zs:List (V×(Str×Str))) (gs:List Str) (c:Int) (t:Nat),vs=[.ref k,.str z,.int m,.int north,.str x]∧YU z∧YU x∧Bk K C CB H k b ps zs gs c t (t + 1) ∧
 JcE kP kR kH ps c t z m north x H E∧(z∈ps→(0≤m∧m≤t)→(0≤north∧north≤c)→∀ r,x=hs r→∀ H',Jg H H'→Q (.str (hs (decide (J5 (zs.map (·.2)) gs c m.toNat z r≤north)))) H')
def Ja9 (zs:List (Str×Str)) (gs:List Str) (c:Int) (m:Nat) (z:Str) (r:Bool):V:=if J5 zs gs c m z r≤c then .int (J5 zs gs c m z r) else .non
def JlB (kP kR kH:Addr):Sp:=fun vs H Q E=>∃ (k b:Addr) (z x:Str) (m:Int) (ps:List Str) (zs:List (V×(Str×Str))) (gs:List Str) (c:Int) (t:Nat),vs=[.ref k,.str z,.int m,.str x]∧YU z∧YU x∧Bk K C CB H k b ps zs gs c t (t + 1) ∧
 JcE kP kR kH ps c t z m c x H E∧(z∈ps→(0≤m∧m≤t)→∀ r,x=hs r→∀ H',Jg H H'→Q (Ja9 (zs.map (·.2)) gs c m.toNat z r) H')
def Jn5:Option Int→V
 | none=>.non
 | some i=>.int i
def Jfc:Option Str→V
 | none=>.non
 | some i=>.str i
def YO (zs:List (Str×Str)) (gs:List Str) (m:Nat) (z:Str):Prop:=z∈gs∨m=0∨Jp zs z=[]
instance (zs:List (Str×Str)) (gs:List Str) (m:Nat) (z:Str):Decidable (YO zs gs m z):=by unfold YO; exact inferInstance
theorem Jfq {z:Str} {m:Nat} {zs:List (Str×Str)} {gs:List Str}:(YO zs gs m z→∃ x,Z1 z (m:Int) zs gs=.str x)∧(¬ YO zs gs m z→Z1 z (m:Int) zs gs=.non):=by
 unfold Z1 YO;by_cases hg:z∈gs
 ·rw [if_pos hg]; exact ⟨fun _=>⟨_,rfl⟩,fun h=>absurd (.inl hg) h⟩
 ·rw [if_neg hg];by_cases h0:(m:Int)=0∨Jp zs z=[]
  ·rw [if_pos h0];refine ⟨fun _=>⟨_,rfl⟩,fun h=>absurd (.inr ?_) h⟩;rcases h0 with h0 | h0
   ·exact .inl (by omega)
   ·exact .inr h0
  ·rw [if_neg h0];refine ⟨fun h=>?_,fun _=>rfl⟩;rcases h with h | h | h
   ·exact absurd h hg
   ·exact absurd (.inl (by omega)) h0
   ·exact absurd (.inr h) h0
abbrev gB (gs:List Str):Str→Bool:=fun p=>decide (p∈gs)
def bidV (zs:List (Str×Str)) (gs:List Str) (c:Int) (m:Nat) (z:Str) (k:Int) (r:Bool):V :=
 if YO zs gs m z then .non else if decide (J5 zs gs c m z r≤k)=!r then .int (JiD (Jp zs) (gB gs) c (m - 1) z k r) else .non
def ansV (zs:List (Str×Str)) (gs:List Str) (c:Int) (m:Nat) (z:Str) (k:Int) (r:Bool) (b:Int):V :=
 if YO zs gs m z then .non else Jn5 (Jc5 (Jp zs) (gB gs) c (m - 1) z k r b)
def stepV (zs:List (Str×Str)) (gs:List Str) (c:Int) (m:Nat) (z:Str) (k:Int) (r h:Bool):V :=
 if YO zs gs m z then .non else Jfc (Jau (Jp zs) (gB gs) c (m - 1) z k r h)
theorem Jjb {α:Type} {f:α→Bool} {w:α}:∀ {l:List α} {i:Nat},l[i]?=some w→(∀ x∈l.take i,f x=false)→f w=true→l.find? f=some w
 | [],i,h,_,_=>by simp at h
 | a :: l,0,h,_,hw=>by
  have:a=w:=by simpa using h
  subst this;rw [List.find?_cons,hw]
 | a :: l,i + 1,h,hn,hw=>by
  rw [List.find?_cons,hn a (by simp)];exact Jjb (by simpa using h) (fun x hx=>hn x (by simp [hx])) hw
theorem JjG (n s:Int) (r:Bool) (b a:Int):∃ s',Jh8 n s r b a=[.str (hs (after n r b a).1),.int (after n r b a).2.1,.int s',.str (hs (after n r b a).2.2)]:=by
 unfold Jh8 after;by_cases h1:b > a
 ·rw [if_pos h1,if_pos h1]; cases r <;> exact ⟨_,rfl⟩
 ·rw [if_neg h1,if_neg h1];by_cases h2:a > b
  ·rw [if_pos h2,if_pos h2]; cases r <;> exact ⟨_,rfl⟩
  ·rw [if_neg h2,if_neg h2]; cases r <;> exact ⟨_,rfl⟩
theorem Jmx {n c:Int} {r:Bool} {b a:Int} (hn:0≤n∧n≤c) (hb:0≤b) (hb2:b≤own c n (!r)) (ha:0≤a) (ha2:a≤own c n r):0≤(after n r b a).2.1∧(after n r b a).2.1≤c:=by
 unfold after;unfold own at hb2 ha2;by_cases h1:b > a
 ·rw [if_pos h1]; cases r <;> simp at hb2 ha2 ⊢ <;> omega
 ·rw [if_neg h1];by_cases h2:a > b
  ·rw [if_pos h2]; cases r <;> simp at hb2 ha2 ⊢ <;> omega
  ·rw [if_neg h2]; cases r <;> simp at hb2 ha2 ⊢ <;> omega
def Jkp (kP kR kH:Addr):Sp:=fun vs H Q E=>∃ (k b:Addr) (z x:Str) (m north:Int) (ps:List Str) (zs:List (V×(Str×Str))) (gs:List Str) (c:Int) (t:Nat),vs=[.ref k,.str z,.int m,.int north,.str x]∧YU z∧YU x∧Bk K C CB H k b ps zs gs c t (t + 1) ∧
 JcE kP kR kH ps c t z m north x H E∧(z∈ps→(0≤m∧m≤t)→(0≤north∧north≤c)→∀ r,x=hs r→∀ H',Jg H H'→Q (bidV (zs.map (·.2)) gs c m.toNat z north r) H')
def Jju (kP kR kH:Addr):Sp:=fun vs H Q E=>∃ (k b:Addr) (z x y:Str) (m north:Int) (ps:List Str) (zs:List (V×(Str×Str))) (gs:List Str) (c:Int) (t:Nat),vs=[.ref k,.str z,.int m,.int north,.str x,.str y]∧YU z∧YU x∧YU y∧Bk K C CB H k b ps zs gs c t (t + 1) ∧
 JcE kP kR kH ps c t z m north x H E∧(Jgd ps c t z m north x→ZV y=false→E (.ref kH) none H)∧(z∈ps→(0≤m∧m≤t)→(0≤north∧north≤c)→∀ r h,x=hs r→y=hs h→∀ H',Jg H H'→Q (stepV (zs.map (·.2)) gs c m.toNat z north r h) H')
def JlF:Sp:=fun vs H Q _=>∃ (k b p:Addr) (z:Str) (m:Nat) (l r h:Bool) (n s:Int) (ps:List Str) (zs:List (V×(Str×Str))) (gs:List Str) (c:Int) (t:Nat),vs=[.ref k,.str z,.int ((m:Int) + 1),.ref p,.str (hs h)]∧H p=some (.tup [.str (hs l),.int n,.int s,.str (hs r)])∧Bk K C CB H k b ps zs gs c t (t + 1) ∧
 z∈ps∧m + 1≤t∧(0≤n∧n≤c)∧¬ YO (zs.map (·.2)) gs (m + 1) z∧∀ H',Jg H H'→Q (.bl ((Jau (Jp (zs.map (·.2))) (gB gs) c m z n r l).isSome == (l == h))) H'
def JhL (kP kR kH kB:Addr):Sp:=fun vs H Q E=>∃ (k b:Addr) (z x:Str) (m north bid:Int) (ps:List Str) (zs:List (V×(Str×Str))) (gs:List Str) (c:Int) (t:Nat),vs=[.ref k,.str z,.int m,.int north,.str x,.int bid]∧YU z∧YU x∧Bk K C CB H k b ps zs gs c t (t + 1) ∧
 JcE kP kR kH ps c t z m north x H E∧(z∈ps→(0≤m∧m≤t)→(0≤north∧north≤c)→∀ r,x=hs r→¬ (0≤bid∧bid≤own c north (!r))→E (.ref kB) none H) ∧
 (z∈ps→(0≤m∧m≤t)→(0≤north∧north≤c)→∀ r,x=hs r→0≤bid∧bid≤own c north (!r)→∀ H',Jg H H'→Q (ansV (zs.map (·.2)) gs c m.toNat z north r bid) H')
end
section
variable {P:Program} {w:World} {K:PySem.W.Frag} {mg:Str→Option Value} {base:Heap}
theorem ZI (T:Txt K mg):JM P w K mg base (Y4 P w) 1 T.Jca T.Jby ["number", "most"] (Jm0 T.JY):=by
 refine T.Za.F.ok1 Jge (fun vs H Q E h=>?_) (fun cdv A outer s H vs Q E hr h=>?_)
 ·obtain ⟨_,_,rfl,_⟩:=h;rfl
 ·obtain ⟨n,m,rfl,hm,q1,q2⟩:=h;refine ⟨_,(@Jh _ _ _ (@JN _ _ _ _ _ _ _ _ (@PW.pt _ _ _ (@JbM _ _ _ _ _ _ _ (@Js _ _ _ _ _ _ _ _ (@Jcq _) (@pv _ 0 _ _ rfl (.inl rfl) rfl rfl) (@Jb _ _ _ _) (JC _)) (@Ja4 _ _ _ _ (@Js _ _ _ _ _ _ _ _ (@Jcr _) (@pv _ 0 _ _ rfl (.inl rfl) rfl rfl) (@pv _ 1 _ _ rfl (.inl rfl) rfl rfl) (JC _))))) (@Jh _ _ _ (@JcO _ _ _ _ _ _ _ _ _ T.Jch T.Jc4 Jdw (@JeK _ _ _ _ _ _ (PJ.cons (@JS _ _ _ _) (PJ.cons (@Ji5 _ _ _ _ (@pv _ 1 _ _ rfl (.inl rfl) rfl rfl)) PJ.nil)) rfl) rfl rfl (by decide) rfl)) (@Jy _))),?_⟩;have fm:∀ m:Nat,m < 31→(m:Int).natAbs.log2 < 1920∧(Str.empty ++ Str.ofString "it goes from 0 to " ++ Str.ofString (toString (m:Int))).length≤sizeLine:=by decide +kernel
  obtain ⟨m,rfl⟩:∃ j:Nat,m=(j:Int):=⟨m.toNat,by omega⟩
  have fm:=fm m (by omega);have bad:¬ (0≤n∧n≤m)→JhH T.JY E (Jfy [tC (.str "it goes from 0 to "),Jjt (fun σ H Q=>∃ v,σ[1]?=some (some v)∧Q v H)] Str.empty) { nx:=fun _ H'=>Q .non H',rt:=Q } [some (.int n),some (.int (m:Int))] H:=fun hb =>
   ⟨_,rfl,by decide +kernel,_,rfl,_,rfl,fm.1,_,rfl,fm.2,fm.2,q2 hb⟩
  refine ⟨_,rfl,_,_,rfl,rfl,_,rfl,Yw (fun c=>?_) (fun c=>?_)⟩
  ·exact Y9 (bad fun z=>by have:=z.1; have:=of_decide_eq_true c; omega)
  refine ⟨_,rfl,_,rfl,_,_,rfl,rfl,_,rfl,Yw (fun d=>?_) (fun d=>?_)⟩
  ·exact bad fun z=>by have:=z.2; have:=of_decide_eq_true d; omega
  ·exact q1 ⟨Int.not_lt.mp fun z=>c (decide_eq_true z),Int.not_lt.mp fun z=>d (decide_eq_true z)⟩
theorem JdR (T:Txt K mg):JM P w K mg base (Y4 P w) 4 T.JgJ T.Jfm ["board", "place", "turns"] (JlE K T.JD T.Yv T.JY):=by
 refine T.JcD.F.ok1 JlU (fun vs H Q E h=>?_) (fun cdv A outer s H vs Q E hr h=>?_)
 ·obtain ⟨_,_,_,_,_,_,rfl,_⟩:=h;rfl
 ·obtain ⟨b,z,n,ps,zs,gs,rfl,ht,hl,B,q1,q2,q3⟩:=h;refine ⟨_,(@Jd _ _ _ _ _ (@JH _ _ _ _ (@JV _ _ _ _ _ _ _ _ _ _ _ _ _ _ _ _ _ _ _ _ (@pv _ 0 _ _ rfl (.inl rfl) rfl rfl) T.Yo T.JW.m (Zc T) (hr.mono (by decide)) T.JW.b .nil Yz (@Ja _ _ _ _ _ (@pv _ 1 _ _ rfl (.inl rfl) rfl rfl) (@Jc _) rfl) rfl rfl rfl) rfl) (@Jd _ _ _ _ _ (@JH _ _ _ _ (@Jn _ _ _ _ _ _ _ _ _ _ _ _ _ _ _ T.Za (ZI T) (hr.mono (by decide)) Yz (@Ja _ _ _ _ _ (@pv _ 2 _ _ rfl (.inl rfl) rfl rfl) (@Ja _ _ _ _ _ (@Jaw _ _ _ _ _ rfl T.Jam T.Jag (by decide)) (@Jc _) rfl) rfl) rfl (by decide) rfl rfl) rfl) (@Jd _ _ _ _ _ (@JN _ _ _ _ _ _ _ _ (@JbU _ _ _ (@JV _ _ _ _ _ _ _ _ _ _ _ _ _ _ _ _ _ _ _ _ (@pv _ 0 _ _ rfl (.inl rfl) rfl rfl) T.Yo T.Z8.m (Jfe T) (hr.mono (by decide)) T.Z8.b .nil Yz (@Ja _ _ _ _ _ (@pv _ 1 _ _ rfl (.inl rfl) rfl rfl) (@Jc _) rfl) rfl rfl rfl) (by intro _; rfl)) (@Jh _ _ _ (@Ju _ _ _ _ (@JS _ _ _ _))) (@Jy _)) (@Jd _ _ _ _ _ (@JN _ _ _ _ _ _ _ _ (@PW.pt _ _ _ (@JbM _ _ _ _ _ _ _ (@Js _ _ _ _ _ _ _ _ (@Yc _) (@pv _ 2 _ _ rfl (.inl rfl) rfl rfl) (@Jb _ _ _ _) (JC _)) (@Ja4 _ _ _ _ (@Js _ _ _ _ _ _ _ _ (@Yc _) (@JI _ _ _ _ _ _ _ _ _ (@Yp _) rfl T.ZQ PySem.boot_len (@Ja _ _ _ _ _ (@JV _ _ _ _ _ _ _ _ _ _ _ _ _ _ _ _ _ _ _ _ (@pv _ 0 _ _ rfl (.inl rfl) rfl rfl) T.Yo T.Yy.m (JaO T) (hr.mono (by decide)) T.Yy.b .nil Yz (@Ja _ _ _ _ _ (@pv _ 1 _ _ rfl (.inl rfl) rfl rfl) (@Jc _) rfl) rfl rfl rfl) (@Jc _) rfl) (by decide) (by decide) rfl rfl) (@Jb _ _ _ _) (JC _))))) (@Jh _ _ _ (@Ju _ _ _ _ (@JS _ _ _ _))) (@Jy _)) (@Jh _ _ _ (@Ju _ _ _ _ (@JcR _ _ _))))))),?_⟩;obtain ⟨dx,tp,tl,tg,hb,_⟩:=id B;refine ⟨_,rfl,b,dx,_,rfl,hb,rfl,_,rfl,b,z,ps,zs,gs,rfl,ht,B,fun hin=>?_,q1⟩;refine ⟨_,rfl,n,30,rfl,⟨by decide,by decide⟩,fun hn=>?_,q2 hin⟩;refine ⟨_,rfl,b,dx,_,rfl,hb,rfl,_,rfl,b,z,ps,zs,gs,rfl,ht,B,fun _=>⟨_,rfl,?_⟩,fun h=>absurd hin h⟩;have q:=q3 hin hn;by_cases hg:z∈gs
  ·refine Zr (decide_eq_true hg) ?_;have e:Z1 z n (zs.map (·.2)) gs=.str "north":=by unfold Z1; rw [if_pos hg]
   rw [e] at q;exact q H (Jg.refl _)
  ·refine YA (decide_eq_false hg) ⟨_,rfl,rfl,_,rfl,?_⟩;by_cases h0:n=0
   ·have e:Z1 z n (zs.map (·.2)) gs=.str "south":=by unfold Z1; rw [if_neg hg,if_pos (.inl h0)]
    rw [e] at q;exact Zr (by rw [h0]; exact decide_eq_true rfl) (Y9 (q H (Jg.refl _)))
   ·refine YA (decide_eq_false fun e=>h0 (V.int.inj e)) ⟨_,rfl,b,dx,_,rfl,hb,rfl,_,rfl,b,z,ps,zs,gs,rfl,ht,hl,B,fun _ t H' e' ht'=>⟨t,_,rfl,.inr (JT.of ht'),rfl,_,rfl,?_⟩,fun h=>absurd hin h⟩;rw [List.length_map];by_cases hw:Jp (zs.map (·.2)) z=[]
    ·have e:Z1 z n (zs.map (·.2)) gs=.str "south":=by unfold Z1; rw [if_neg hg,if_pos (.inr hw)]
     rw [e] at q;exact Zr (by rw [hw]; exact decide_eq_true rfl) (q H' e')
    ·have e:Z1 z n (zs.map (·.2)) gs=.non:=by unfold Z1; rw [if_neg hg,if_neg (fun h=>h.elim h0 hw)]
     rw [e] at q;refine YA (decide_eq_false fun e2=>?_) (q H' e');have e3:((Jp (zs.map (·.2)) z).length:Int)=0:=V.int.inj e2;exact hw (List.length_eq_zero_iff.mp (by omega))
theorem Jb4 (T:Txt K mg):JM P w K mg base (Y4 P w) 1 T.JcZ T.Jb6 ["hand"] (Jhr T.YS):=by
 refine T.Jas.F.ok1 Jht (fun vs H Q E h=>?_) (fun cdv A outer s H vs Q E hr h=>?_)
 ·obtain ⟨_,rfl,_⟩:=h;rfl
 ·obtain ⟨z,rfl,ht,q1,q2⟩:=h;refine ⟨_,(@Jh _ _ _ (@JN _ _ _ _ _ _ _ _ (@Js _ _ _ _ _ _ _ _ (@Ja6 _) (@pv _ 0 _ _ rfl (.inl rfl) rfl rfl) (@Ji4 _ _ _ _ rfl T.Jgy (by decide)) (by with_unfolding_all rfl)) (@Jh _ _ _ (@JcO _ _ _ _ _ _ _ _ _ T.Jf3 T.Jhi Jdw (@JeK _ _ _ _ _ _ (PJ.cons (@Jh2 _ _ _ _ (@pv _ 0 _ _ rfl (.inl rfl) rfl rfl)) (PJ.cons (@JS _ _ _ _) PJ.nil)) rfl) rfl rfl (by decide) rfl)) (@Jy _))),?_⟩;refine ⟨_,rfl,T.JdD,_,rfl,.inr (T.JeE H),rfl,rfl,_,rfl,?_⟩;rw [if_pos rfl,JkV];have hz:=JgX ht;have e1:(Str.empty ++ reprText z).length=(reprText z).length:=by rw [strLen_append]; exact Nat.zero_add _
  cases hb:ZV z with
  | true=>exact ZJ (q1 hb)
  | false =>
   refine Y9 ⟨_,rfl,z,rfl,Nat.le_trans hz (by decide),_,rfl,by rw [e1]; exact Nat.le_trans hz (by decide),_,rfl,?_,?_,q2 hb⟩
   all_goals
    rw [strLen_append,e1];refine Nat.le_trans (Nat.add_le_add_right hz _) (by decide)
theorem Jic (T:Txt K mg):JM P w K mg base (Y4 P w) 2 T.JgF T.Jfi ["hand"] (Jlx T.YS):=by
 refine T.JeV.F.ok1 JlS (fun vs H Q E h=>?_) (fun cdv A outer s H vs Q E hr h=>?_)
 ·obtain ⟨_,rfl,_⟩:=h;rfl
 ·obtain ⟨z,rfl,ht,q1,q2⟩:=h;refine ⟨_,(@Jd _ _ _ _ _ (@JH _ _ _ _ (@Jn _ _ _ _ _ _ _ _ _ _ _ _ _ _ _ T.Jas (Jb4 T) (hr.mono (by decide)) Yz (@Ja _ _ _ _ _ (@pv _ 0 _ _ rfl (.inl rfl) rfl rfl) (@Jc _) rfl) rfl (by decide) rfl rfl) rfl) (@Jh _ _ _ (@Ju _ _ _ _ (@JcS _ _ _ _ _ _ _ _ (@Js _ _ _ _ _ _ _ _ (@Yc _) (@pv _ 0 _ _ rfl (.inl rfl) rfl rfl) (@JS _ _ _ _) (JC _)) (@JS _ _ _ _) (@JS _ _ _ _))))),?_⟩;refine ⟨_,rfl,z,rfl,ht,fun hb=>?_,q2⟩;obtain ⟨b,rfl⟩:=JcB hb;refine ⟨_,rfl,rfl,_,rfl,?_⟩;rw [JjS];cases b with
  | true=>exact Y9 (q1 true rfl)
  | false=>exact ZJ (q1 false rfl)
theorem JbN (T:Txt K mg):JM P w K mg base Y6 1 T.JdX T.Jdm ["hand", "north", "south"] JiL:=by
 refine T.JaA.F.ok JiM (fun vs H Q E h=>?_) (fun cdv A outer s H vs Q E hr h=>?_)
 ·obtain ⟨_,_,_,rfl,_⟩:=h;rfl
 ·obtain ⟨b,n,s,rfl,q⟩:=h;refine ⟨_,(@Jh _ _ _ (@Ju _ _ _ _ (@JcS _ _ _ _ _ _ _ _ (@Js _ _ _ _ _ _ _ _ (@Yc _) (@pv _ 0 _ _ rfl (.inl rfl) rfl rfl) (@JS _ _ _ _) (JC _)) (@pv _ 1 _ _ rfl (.inl rfl) rfl rfl) (@pv _ 2 _ _ rfl (.inl rfl) rfl rfl)))),?_⟩;refine ⟨_,rfl,rfl,_,rfl,?_⟩;rw [JjS];cases b with
  | true=>exact Y9 ⟨_,rfl,q⟩
  | false=>exact ZJ ⟨_,rfl,q⟩
theorem Jib (T:Txt K mg):JM P w K mg base Y6 1 T.JjZ T.Jiu ["hand", "price", "north", "south", "ribbon"] JnM:=by
 refine T.Jf7.F.ok JnS (fun vs H Q E h=>?_) (fun cdv A outer s H vs Q E hr h=>?_)
 ·obtain ⟨_,_,_,_,_,rfl,_⟩:=h;rfl
 ·obtain ⟨b,c,n,s,r,rfl,q⟩:=h;refine ⟨_,(@Jd _ _ _ _ _ (@JN _ _ _ _ _ _ _ _ (@Js _ _ _ _ _ _ _ _ (@Yc _) (@pv _ 0 _ _ rfl (.inl rfl) rfl rfl) (@JS _ _ _ _) (JC _)) (@Jh _ _ _ (@Ju _ _ _ _ (@YX _ _ _ _ _ (@Ja _ _ _ _ _ (@pv _ 0 _ _ rfl (.inl rfl) rfl rfl) (@Ja _ _ _ _ _ (@Jj _ _ _ _ _ _ _ _ (@Y2 _) (@pv _ 2 _ _ rfl (.inl rfl) rfl rfl) (@pv _ 1 _ _ rfl (.inl rfl) rfl rfl)) (@Ja _ _ _ _ _ (@Jj _ _ _ _ _ _ _ _ (@JP _) (@pv _ 3 _ _ rfl (.inl rfl) rfl rfl) (@pv _ 1 _ _ rfl (.inl rfl) rfl rfl)) (@Ja _ _ _ _ _ (@pv _ 4 _ _ rfl (.inl rfl) rfl rfl) (@Jc _) rfl) rfl) rfl) rfl)))) (@Jy _)) (@Jh _ _ _ (@Ju _ _ _ _ (@YX _ _ _ _ _ (@Ja _ _ _ _ _ (@pv _ 0 _ _ rfl (.inl rfl) rfl rfl) (@Ja _ _ _ _ _ (@Jj _ _ _ _ _ _ _ _ (@JP _) (@pv _ 2 _ _ rfl (.inl rfl) rfl rfl) (@pv _ 1 _ _ rfl (.inl rfl) rfl rfl)) (@Ja _ _ _ _ _ (@Jj _ _ _ _ _ _ _ _ (@Y2 _) (@pv _ 3 _ _ rfl (.inl rfl) rfl rfl) (@pv _ 1 _ _ rfl (.inl rfl) rfl rfl)) (@Ja _ _ _ _ _ (@pv _ 4 _ _ rfl (.inl rfl) rfl rfl) (@Jc _) rfl) rfl) rfl) rfl))))),?_⟩;refine ⟨_,rfl,rfl,_,rfl,?_⟩;rw [JjS];cases b with
  | true=>exact Y9 ⟨_,rfl,_,rfl,_,rfl,_,_,rfl,rfl,_,rfl,_,rfl,_,_,rfl,rfl,_,rfl,by show 4≤sizeLine; decide,fun p hp=>q p _ (Jg.upd hp) Jf⟩
  | false=>exact ZJ ⟨_,rfl,_,rfl,_,rfl,_,_,rfl,rfl,_,rfl,_,rfl,_,_,rfl,rfl,_,rfl,by show 4≤sizeLine; decide,fun p hp=>q p _ (Jg.upd hp) Jf⟩
theorem Jgu (T:Txt K mg):JM P w K mg base (Y4 P w) 1 T.Jcd T.JbB ["north", "south"] (Jgb T.JY):=by
 refine T.Jck.F.ok1 Jgf (fun vs H Q E h=>?_) (fun cdv A outer s H vs Q E hr h=>?_)
 ·obtain ⟨_,_,rfl,_⟩:=h;rfl
 ·obtain ⟨n,s,rfl,q1,q2⟩:=h;refine ⟨_,(@Jh _ _ _ (@JN _ _ _ _ _ _ _ _ (@PW.pt _ _ _ (@JbM _ _ _ _ _ _ _ (@Js _ _ _ _ _ _ _ _ (@Jcq _) (@pv _ 0 _ _ rfl (.inl rfl) rfl rfl) (@Jb _ _ _ _) (JC _)) (@JbM _ _ _ _ _ _ _ (@Js _ _ _ _ _ _ _ _ (@Jcq _) (@pv _ 1 _ _ rfl (.inl rfl) rfl rfl) (@Jb _ _ _ _) (JC _)) (@Ja4 _ _ _ _ (@Js _ _ _ _ _ _ _ _ (@Jcr _) (@Jj _ _ _ _ _ _ _ _ (@JP _) (@pv _ 0 _ _ rfl (.inl rfl) rfl rfl) (@pv _ 1 _ _ rfl (.inl rfl) rfl rfl)) (@Jaw _ _ _ _ _ rfl T.ZK T.ZH (by decide)) (JC _)))))) (@Jh _ _ _ (@JcO _ _ _ _ _ _ _ _ _ T.Jch T.Jc4 Jdw (@JeK _ _ _ _ _ _ (PJ.cons (@JS _ _ _ _) (PJ.cons (@Ji5 _ _ _ _ (@Jaw _ _ _ _ _ rfl T.ZK T.ZH (by decide))) PJ.nil)) rfl) rfl rfl (by decide) rfl)) (@Jy _))),?_⟩;have bad:¬ Jaz n s→JhH T.JY E (Jfy [tC (.str "coins go from 0, both hands' together to "),Jjt (tC (.int 20))] Str.empty) { nx:=fun _ H'=>Q .non H',rt:=Q } [some (.int n),some (.int s)] H:=fun hb =>
   ⟨_,rfl,by decide +kernel,_,rfl,by decide +kernel,_,rfl,by decide +kernel,by decide +kernel,q2 hb⟩
  refine ⟨_,rfl,_,_,rfl,rfl,_,rfl,Yw (fun c=>?_) (fun c=>?_)⟩
  ·exact Y9 (bad fun z=>by have:=z.1; have:=of_decide_eq_true c; omega)
  refine ⟨_,rfl,_,_,rfl,rfl,_,rfl,Yw (fun d=>?_) (fun d=>?_)⟩
  ·exact Y9 (bad fun z=>by have:=z.2.1; have:=of_decide_eq_true d; omega)
  refine ⟨_,rfl,_,rfl,_,_,rfl,rfl,_,_,rfl,rfl,_,rfl,Yw (fun e=>?_) (fun e=>?_)⟩
  ·exact bad fun z=>by have:=z.2.2; have:=of_decide_eq_true e; omega
  ·refine q1 ⟨?_,?_,?_⟩
   ·exact Int.not_lt.mp fun z=>c (decide_eq_true z)
   ·exact Int.not_lt.mp fun z=>d (decide_eq_true z)
   ·exact Int.not_lt.mp fun z=>e (decide_eq_true z)
theorem JcT (T:Txt K mg):JM P w K mg base (Y4 P w) 1 T.Jdo T.JcX ["named", "coins"] (JhJ T.Jbx):=by
 refine T.JaM.F.ok1 JhT (fun vs H Q E h=>?_) (fun cdv A outer s H vs Q E hr h=>?_)
 ·obtain ⟨_,_,rfl,_⟩:=h;rfl
 ·obtain ⟨n,s,rfl,q1,q2⟩:=h;refine ⟨_,(@Jh _ _ _ (@JN _ _ _ _ _ _ _ _ (@PW.pt _ _ _ (@JbM _ _ _ _ _ _ _ (@Js _ _ _ _ _ _ _ _ (@Jcq _) (@pv _ 0 _ _ rfl (.inl rfl) rfl rfl) (@Jb _ _ _ _) (JC _)) (@Ja4 _ _ _ _ (@Js _ _ _ _ _ _ _ _ (@Jcr _) (@pv _ 0 _ _ rfl (.inl rfl) rfl rfl) (@pv _ 1 _ _ rfl (.inl rfl) rfl rfl) (JC _))))) (@Jh _ _ _ (@JcO _ _ _ _ _ _ _ _ _ T.Jhn T.JiB Jdw (@JS _ _ _ _) rfl rfl (by decide) rfl)) (@Jy _))),?_⟩;refine ⟨_,rfl,_,_,rfl,rfl,_,rfl,Yw (fun c=>?_) (fun c=>?_)⟩
  ·exact Y9 (q2 fun z=>by have:=z.1; have:=of_decide_eq_true c; omega)
  refine ⟨_,rfl,_,rfl,_,_,rfl,rfl,_,rfl,Yw (fun d=>?_) (fun d=>?_)⟩
  ·exact q2 fun z=>by have:=z.2; have:=of_decide_eq_true d; omega
  ·exact q1 ⟨Int.not_lt.mp fun z=>c (decide_eq_true z),Int.not_lt.mp fun z=>d (decide_eq_true z)⟩
theorem JkB (T:Txt K mg):JM P w K mg base (Y4 P w) 3 T.Jfo T.Jeo ["north", "south", "ribbon", "bid", "answer"] (Jkj T.JY T.YS T.Jbx):=by
 refine T.Jfv.F.ok1 JgZ (fun vs H Q E h=>?_) (fun cdv A outer s H vs Q E hr h=>?_)
 ·obtain ⟨_,_,_,_,_,rfl,_⟩:=h;rfl
 ·obtain ⟨n,s,z,b,a,rfl,ht,q1,q2,q3,q⟩:=h;refine ⟨_,(@Jd _ _ _ _ _ (@JH _ _ _ _ (@Jn _ _ _ _ _ _ _ _ _ _ _ _ _ _ _ T.Jck (Jgu T) (hr.mono (by decide)) Yz (@Ja _ _ _ _ _ (@pv _ 0 _ _ rfl (.inl rfl) rfl rfl) (@Ja _ _ _ _ _ (@pv _ 1 _ _ rfl (.inl rfl) rfl rfl) (@Jc _) rfl) rfl) rfl (by decide) rfl rfl) rfl) (@Jd _ _ _ _ _ (@Jt _ _ 5 _ _ _ _ JgZ.nd rfl (Or.inl rfl) (@Jn _ _ _ _ _ _ _ _ _ _ _ _ _ _ _ T.JeV (Jic T) (hr.mono (by decide)) Yz (@Ja _ _ _ _ _ (@pv _ 2 _ _ rfl (.inl rfl) rfl rfl) (@Jc _) rfl) rfl (by decide) rfl rfl) rfl (.inl rfl)) (@Jd _ _ _ _ _ (@JH _ _ _ _ (@Jn _ _ _ _ _ _ _ _ _ _ _ _ _ _ _ T.JaM (JcT T) (hr.mono (by decide)) Yz (@Ja _ _ _ _ _ (@pv _ 3 _ _ rfl (.inl rfl) rfl rfl) (@Ja _ _ _ _ _ (@Jn _ _ _ _ _ _ _ _ _ _ _ _ _ _ _ T.JaA (JbN T) (hr.mono (by decide)) JL (@Ja _ _ _ _ _ (@pv _ 5 _ _ rfl (.inl rfl) rfl rfl) (@Ja _ _ _ _ _ (@pv _ 0 _ _ rfl (.inl rfl) rfl rfl) (@Ja _ _ _ _ _ (@pv _ 1 _ _ rfl (.inl rfl) rfl rfl) (@Jc _) rfl) rfl) rfl) rfl (by decide) rfl rfl) (@Jc _) rfl) rfl) rfl (by decide) rfl rfl) rfl) (@Jd _ _ _ _ _ (@JH _ _ _ _ (@Jn _ _ _ _ _ _ _ _ _ _ _ _ _ _ _ T.JaM (JcT T) (hr.mono (by decide)) Yz (@Ja _ _ _ _ _ (@pv _ 4 _ _ rfl (.inl rfl) rfl rfl) (@Ja _ _ _ _ _ (@Jn _ _ _ _ _ _ _ _ _ _ _ _ _ _ _ T.JaA (JbN T) (hr.mono (by decide)) JL (@Ja _ _ _ _ _ (@pv _ 2 _ _ rfl (.inl rfl) rfl rfl) (@Ja _ _ _ _ _ (@pv _ 0 _ _ rfl (.inl rfl) rfl rfl) (@Ja _ _ _ _ _ (@pv _ 1 _ _ rfl (.inl rfl) rfl rfl) (@Jc _) rfl) rfl) rfl) rfl (by decide) rfl rfl) (@Jc _) rfl) rfl) rfl (by decide) rfl rfl) rfl) (@Jd _ _ _ _ _ (@JN _ _ _ _ _ _ _ _ (@Js _ _ _ _ _ _ _ _ (@Jcr _) (@pv _ 3 _ _ rfl (.inl rfl) rfl rfl) (@pv _ 4 _ _ rfl (.inl rfl) rfl rfl) (JC _)) (@Jh _ _ _ (@Ju _ _ _ _ (@Jn _ _ _ _ _ _ _ _ _ _ _ _ _ _ _ T.Jf7 (Jib T) (hr.mono (by decide)) JL (@Ja _ _ _ _ _ (@pv _ 5 _ _ rfl (.inl rfl) rfl rfl) (@Ja _ _ _ _ _ (@pv _ 3 _ _ rfl (.inl rfl) rfl rfl) (@Ja _ _ _ _ _ (@pv _ 0 _ _ rfl (.inl rfl) rfl rfl) (@Ja _ _ _ _ _ (@pv _ 1 _ _ rfl (.inl rfl) rfl rfl) (@Ja _ _ _ _ _ (@pv _ 2 _ _ rfl (.inl rfl) rfl rfl) (@Jc _) rfl) rfl) rfl) rfl) rfl) rfl (by decide) rfl rfl))) (@Jy _)) (@Jd _ _ _ _ _ (@JN _ _ _ _ _ _ _ _ (@Js _ _ _ _ _ _ _ _ (@Jcr _) (@pv _ 4 _ _ rfl (.inl rfl) rfl rfl) (@pv _ 3 _ _ rfl (.inl rfl) rfl rfl) (JC _)) (@Jh _ _ _ (@Ju _ _ _ _ (@Jn _ _ _ _ _ _ _ _ _ _ _ _ _ _ _ T.Jf7 (Jib T) (hr.mono (by decide)) JL (@Ja _ _ _ _ _ (@pv _ 2 _ _ rfl (.inl rfl) rfl rfl) (@Ja _ _ _ _ _ (@pv _ 4 _ _ rfl (.inl rfl) rfl rfl) (@Ja _ _ _ _ _ (@pv _ 0 _ _ rfl (.inl rfl) rfl rfl) (@Ja _ _ _ _ _ (@pv _ 1 _ _ rfl (.inl rfl) rfl rfl) (@Ja _ _ _ _ _ (@pv _ 2 _ _ rfl (.inl rfl) rfl rfl) (@Jc _) rfl) rfl) rfl) rfl) rfl) rfl (by decide) rfl rfl))) (@Jy _)) (@Jh _ _ _ (@Ju _ _ _ _ (@Jn _ _ _ _ _ _ _ _ _ _ _ _ _ _ _ T.Jf7 (Jib T) (hr.mono (by decide)) JL (@Ja _ _ _ _ _ (@pv _ 2 _ _ rfl (.inl rfl) rfl rfl) (@Ja _ _ _ _ _ (@pv _ 4 _ _ rfl (.inl rfl) rfl rfl) (@Ja _ _ _ _ _ (@pv _ 0 _ _ rfl (.inl rfl) rfl rfl) (@Ja _ _ _ _ _ (@pv _ 1 _ _ rfl (.inl rfl) rfl rfl) (@Ja _ _ _ _ _ (@pv _ 5 _ _ rfl (.inl rfl) rfl rfl) (@Jc _) rfl) rfl) rfl) rfl) rfl) rfl (by decide) rfl rfl))))))))),?_⟩;refine ⟨_,rfl,_,rfl,n,s,rfl,fun hc=>?_,q1⟩;refine ⟨_,rfl,z,rfl,ht,fun r hz=>?_,q2 hc⟩;subst hz;refine ⟨_,rfl,_,rfl,_,rfl,_,rfl,_,n,s,rfl,b,_,rfl,fun hb=>?_,fun hb=>q3 r rfl hc fun z=>hb (by cases r <;> exact z.1)⟩;refine ⟨_,rfl,_,rfl,_,rfl,_,rfl,r,n,s,rfl,a,_,rfl,fun ha=>?_,fun ha=>q3 r rfl hc fun z=>ha z.2⟩;have hok:Jew n s r b a:=⟨by cases r <;> exact hb,ha⟩
  have q:=q r rfl hc hok;refine ⟨_,rfl,_,rfl,_,_,rfl,rfl,_,rfl,?_⟩;refine Yw (fun c=>?_) (fun c=>?_)
  ·have c':a < b:=of_decide_eq_true c;refine ⟨_,rfl,_,rfl,_,rfl,_,rfl,_,rfl,_,b,n,s,r,rfl,fun p H' e hp=>q p H' e ?_⟩;rw [hp,Jfb,if_pos c']
  ·have c':¬ a < b:=fun z=>c (decide_eq_true z)
   refine ⟨_,rfl,_,rfl,_,_,rfl,rfl,_,rfl,?_⟩;refine Yw (fun d=>?_) (fun d=>?_)
   ·have d':b < a:=of_decide_eq_true d;refine ⟨_,rfl,_,rfl,_,rfl,_,rfl,_,rfl,_,a,n,s,r,rfl,fun p H' e hp=>q p H' e ?_⟩;rw [hp,Jfb,if_neg c',if_pos d']
   ·have d':¬ b < a:=fun z=>d (decide_eq_true z)
    refine ⟨_,rfl,_,rfl,_,rfl,_,rfl,_,rfl,_,a,n,s,_,rfl,fun p H' e hp=>q p H' e ?_⟩;rw [hp,Jfb,if_neg c',if_neg d']
theorem ZE (T:Txt K mg):JM P w K mg base Y6 4 T.YW T.YN ["self", "place", "turns"] (JnO K T.JD T.JA):=by
 refine T.J0.F.ok ZB (fun vs H Q E h=>?_) (fun cdv A outer s H vs Q E hr h=>?_)
 ·obtain ⟨_,_,_,_,_,_,_,_,_,_,rfl,_⟩:=h;rfl
 ·obtain ⟨k,b,z,m,ps,zs,gs,c,t,n,rfl,B,hm,hz,hw,q⟩:=h;have hu:=Jcu hr;refine ⟨_,(@Jd _ _ _ _ _ (@Jt _ _ 3 _ _ _ _ ZB.nd rfl (Or.inr rfl) (@JB _ _ _ _ _ _ _ (@JF _) (@Yk _ _ _ _ _ (@pv _ 0 _ _ rfl (.inl rfl) rfl rfl) rfl) (@Jj _ _ _ _ _ _ _ _ (@Y2 _) (@pv _ 2 _ _ rfl (.inl rfl) rfl rfl) (@Jb _ _ _ _)) (fun _ _=>rfl)) rfl (by first | exact .inl rfl | exact .inr rfl | assumption)) (@Jh _ _ _ (@Ju _ _ _ _ (@JI _ _ _ _ _ _ _ _ _ (@Jla _ rfl) rfl T.JjN PyProof.Rows.boot_min (@Ja _ _ _ _ _ (@Jcp _ _ _ _ _ _ _ 1 ["way", "behind"] [3] _ _ _ _ ["self", "place", "turns", "behind"] ((Jl Yn).names) (by decide +kernel) (@JcQ _ _ _ _ (@JV _ _ _ _ _ _ _ _ _ _ _ _ _ _ _ _ _ _ _ _ (@Yk _ _ _ _ _ (@pv _ 0 _ _ rfl (.inl rfl) rfl rfl) rfl) T.Yo T.Yy.m (JaO T) (hr.mono (by decide)) T.Yy.b .nil Y0 (@Ja _ _ _ _ _ (@pv _ 1 _ _ rfl (.inl rfl) rfl rfl) (@Jc _) rfl) rfl rfl rfl)) (fun _ _ _ _=>(@YK _ _ _ _ _ _ _ _ _ 0 (by decide +kernel) rfl rfl)) (fun _ _ _ _=>(@Zh _)) (fun _ _ _ _=>(@Jax _ _ _ _ _ _ hu (@JX _ _ _ _ _ _ _ _ _ 1 rfl rfl (by decide) (by decide)) (@YX _ _ _ _ _ (@Ja _ _ _ _ _ (@Yd _ _ _ _ _ _ _ _ _ 0 rfl rfl (by decide) (by decide)) (@Ja _ _ _ _ _ (@JS _ _ _ _) (@Jc _) rfl) rfl)) (fun _ _=>rfl))) rfl rfl rfl (by intro _; rfl)) (@Jc _) rfl) (by decide) (by decide) rfl rfl)))),?_⟩;obtain ⟨dx,l,rs,h1,h2,h3,h4⟩:=B.at_;obtain ⟨a,ha⟩:∃ a,rs[m]?=some a:=⟨_,List.getElem?_eq_getElem (by omega)⟩
  obtain ⟨kvs,hk1,hk2⟩:=h4 m a ha;obtain ⟨bdx,tp,tl,tg,hb,_⟩:=id B.B.B;have hwl:=JgS B.B.G z;have hat:atI (rs.map V.ref) ((m:Int) + 1 - 1)=some (.ref a):=by
   rw [Int.add_sub_cancel]; exact Ys (by rw [List.getElem?_map,ha]; rfl)
  refine ⟨_,rfl,k,_,dx,_,.ref l,rfl,h1,T.JE,T.Y7,rfl,_,rfl,_,_,rfl,rfl,l,_,_,.ref a,rfl,rfl,Jo.of h2,hat,?_⟩;refine ⟨_,rfl,k,_,dx,_,.ref b,rfl,h1,T.JE,T.Yh,rfl,b,bdx,_,rfl,hb,rfl,_,rfl,b,z,ps,zs,gs,rfl,YB (B.B.G.p3 z hz),B.B.zl,B.B.B,fun _ tw H1 e1 ht=>?_,fun h=>absurd hz h⟩;refine ⟨tw,rfl,⟨_,JT.of ht⟩,fun D hD=>?_⟩;refine Jfr (xs:=(Jp (zs.map (·.2)) z).map V.str) (fun i ys H2=>Jg H1 H2∧H2 D=some (.lst ys)∧ys=((Jp (zs.map (·.2)) z).take i).map fun w=>V.int (J5 (zs.map (·.2)) gs c m w false)) rfl (fun i ys H2 p=>JT.of (p.1 _ _ ht)) ⟨Jg.upd hD,Jf,by simp⟩ (fun i ys H2 p=>p.2.1) ?_ ?_
  ·rintro i x ys H2 hx ⟨e2,hy,rfl⟩;rw [List.getElem?_map] at hx;obtain ⟨w',hw1,rfl⟩:=Option.map_eq_some_iff.mp hx;have hin:=JeC B.B.G (List.mem_of_getElem? hw1);refine tcT ?_;refine ⟨_,rfl,_,rfl,by show 2≤sizeLine; decide,fun p hp=>?_⟩;have g:=Jat.t (k:=ZL w' false) ((Jg.upd (o:=.tup [.str w',.str "south"]) hp) _ _ (e2 _ _ (e1 _ _ hk1))) (show upd H2 p (.tup [.str w',.str "south"]) p=some (.tup ((ZL w' false).map kV)) from Jf);rw [hk2 w' hin false] at g;have hDp:D≠p:=Jr hy hp;refine ⟨a,_,rfl,g,by rw [Jq hDp]; exact hy,?_,fun b' u e=>?_,Jf,?_⟩
   ·rw [List.length_map,List.length_take];refine Nat.lt_of_le_of_lt (Nat.min_le_right _ _) (Nat.lt_of_le_of_lt hwl (by decide))
   ·rw [Jq (Jr e hD),Jq (Jr (e2 _ _ e) hp)]; exact e2 b' u e
   ·rw [List.take_succ,hw1,List.map_append]; rfl
  ·rintro ys H2 ⟨e2,hy,rfl⟩;rw [List.length_map,List.take_length] at hy;have e:((Jp (zs.map (·.2)) z).map fun w=>V.int (J5 (zs.map (·.2)) gs c m w false))=((Jp (zs.map (·.2)) z).map fun w=>J5 (zs.map (·.2)) gs c m w false).map V.int:=by rw [List.map_map]; rfl
   rw [e] at hy;refine ⟨D,_,rfl,Jo.of hy,?_,fun M hM1 hM2=>?_⟩
   ·rw [List.length_map]; exact List.length_pos_iff.mpr hw
   ·rw [Jnm hM1 hM2]; exact q H2 (e1.trans e2)
theorem ZD (T:Txt K mg):JM P w K mg base Y6 4 T.YV T.YM ["self", "place", "turns"] (JnN K T.JD T.JA):=by
 refine T.JZ.F.ok ZA (fun vs H Q E h=>?_) (fun cdv A outer s H vs Q E hr h=>?_)
 ·obtain ⟨_,_,_,_,_,_,_,_,_,_,rfl,_⟩:=h;rfl
 ·obtain ⟨k,b,z,m,ps,zs,gs,c,t,n,rfl,B,hm,hz,hw,q⟩:=h;have hu:=Jcu hr;refine ⟨_,(@Jd _ _ _ _ _ (@Jt _ _ 3 _ _ _ _ ZA.nd rfl (Or.inr rfl) (@JB _ _ _ _ _ _ _ (@JF _) (@Yk _ _ _ _ _ (@pv _ 0 _ _ rfl (.inl rfl) rfl rfl) rfl) (@Jj _ _ _ _ _ _ _ _ (@Y2 _) (@pv _ 2 _ _ rfl (.inl rfl) rfl rfl) (@Jb _ _ _ _)) (fun _ _=>rfl)) rfl (by first | exact .inl rfl | exact .inr rfl | assumption)) (@Jh _ _ _ (@Ju _ _ _ _ (@JI _ _ _ _ _ _ _ _ _ (@Jlc _ rfl) rfl T.JdS PyProof.Rows.boot_max (@Ja _ _ _ _ _ (@Jcp _ _ _ _ _ _ _ 1 ["way", "behind"] [3] _ _ _ _ ["self", "place", "turns", "behind"] ((Jl Ym).names) (by decide +kernel) (@JcQ _ _ _ _ (@JV _ _ _ _ _ _ _ _ _ _ _ _ _ _ _ _ _ _ _ _ (@Yk _ _ _ _ _ (@pv _ 0 _ _ rfl (.inl rfl) rfl rfl) rfl) T.Yo T.Yy.m (JaO T) (hr.mono (by decide)) T.Yy.b .nil Y0 (@Ja _ _ _ _ _ (@pv _ 1 _ _ rfl (.inl rfl) rfl rfl) (@Jc _) rfl) rfl rfl rfl)) (fun _ _ _ _=>(@YK _ _ _ _ _ _ _ _ _ 0 (by decide +kernel) rfl rfl)) (fun _ _ _ _=>(@Zh _)) (fun _ _ _ _=>(@Jax _ _ _ _ _ _ hu (@JX _ _ _ _ _ _ _ _ _ 1 rfl rfl (by decide) (by decide)) (@YX _ _ _ _ _ (@Ja _ _ _ _ _ (@Yd _ _ _ _ _ _ _ _ _ 0 rfl rfl (by decide) (by decide)) (@Ja _ _ _ _ _ (@JS _ _ _ _) (@Jc _) rfl) rfl)) (fun _ _=>rfl))) rfl rfl rfl (by intro _; rfl)) (@Jc _) rfl) (by decide) (by decide) rfl rfl)))),?_⟩;obtain ⟨dx,l,rs,h1,h2,h3,h4⟩:=B.at_;obtain ⟨a,ha⟩:∃ a,rs[m]?=some a:=⟨_,List.getElem?_eq_getElem (by omega)⟩
  obtain ⟨kvs,hk1,hk2⟩:=h4 m a ha;obtain ⟨bdx,tp,tl,tg,hb,_⟩:=id B.B.B;have hwl:=JgS B.B.G z;have hat:atI (rs.map V.ref) ((m:Int) + 1 - 1)=some (.ref a):=by
   rw [Int.add_sub_cancel]; exact Ys (by rw [List.getElem?_map,ha]; rfl)
  refine ⟨_,rfl,k,_,dx,_,.ref l,rfl,h1,T.JE,T.Y7,rfl,_,rfl,_,_,rfl,rfl,l,_,_,.ref a,rfl,rfl,Jo.of h2,hat,?_⟩;refine ⟨_,rfl,k,_,dx,_,.ref b,rfl,h1,T.JE,T.Yh,rfl,b,bdx,_,rfl,hb,rfl,_,rfl,b,z,ps,zs,gs,rfl,YB (B.B.G.p3 z hz),B.B.zl,B.B.B,fun _ tw H1 e1 ht=>?_,fun h=>absurd hz h⟩;refine ⟨tw,rfl,⟨_,JT.of ht⟩,fun D hD=>?_⟩;refine Jfr (xs:=(Jp (zs.map (·.2)) z).map V.str) (fun i ys H2=>Jg H1 H2∧H2 D=some (.lst ys)∧ys=((Jp (zs.map (·.2)) z).take i).map fun w=>V.int (J5 (zs.map (·.2)) gs c m w true)) rfl (fun i ys H2 p=>JT.of (p.1 _ _ ht)) ⟨Jg.upd hD,Jf,by simp⟩ (fun i ys H2 p=>p.2.1) ?_ ?_
  ·rintro i x ys H2 hx ⟨e2,hy,rfl⟩;rw [List.getElem?_map] at hx;obtain ⟨w',hw1,rfl⟩:=Option.map_eq_some_iff.mp hx;have hin:=JeC B.B.G (List.mem_of_getElem? hw1);refine tcT ?_;refine ⟨_,rfl,_,rfl,by show 2≤sizeLine; decide,fun p hp=>?_⟩;have g:=Jat.t (k:=ZL w' true) ((Jg.upd (o:=.tup [.str w',.str "north"]) hp) _ _ (e2 _ _ (e1 _ _ hk1))) (show upd H2 p (.tup [.str w',.str "north"]) p=some (.tup ((ZL w' true).map kV)) from Jf);rw [hk2 w' hin true] at g;have hDp:D≠p:=Jr hy hp;refine ⟨a,_,rfl,g,by rw [Jq hDp]; exact hy,?_,fun b' u e=>?_,Jf,?_⟩
   ·rw [List.length_map,List.length_take];refine Nat.lt_of_le_of_lt (Nat.min_le_right _ _) (Nat.lt_of_le_of_lt hwl (by decide))
   ·rw [Jq (Jr e hD),Jq (Jr (e2 _ _ e) hp)]; exact e2 b' u e
   ·rw [List.take_succ,hw1,List.map_append]; rfl
  ·rintro ys H2 ⟨e2,hy,rfl⟩;rw [List.length_map,List.take_length] at hy;have e:((Jp (zs.map (·.2)) z).map fun w=>V.int (J5 (zs.map (·.2)) gs c m w true))=((Jp (zs.map (·.2)) z).map fun w=>J5 (zs.map (·.2)) gs c m w true).map V.int:=by rw [List.map_map]; rfl
   rw [e] at hy;refine ⟨D,_,rfl,Jo.of hy,?_,fun M hM1 hM2=>?_⟩
   ·rw [List.length_map]; exact List.length_pos_iff.mpr hw
   ·rw [Jno hM1 hM2]; exact q H2 (e1.trans e2)
theorem JfG (T:Txt K mg):JM P w K mg base Y6 5 T.JbH T.Jbe ["self", "place", "turns", "ribbon"] (Jm3 K T.JD T.JA):=by
 refine T.JaB.F.ok Z3 (fun vs H Q E h=>?_) (fun cdv A outer s H vs Q E hr h=>?_)
 ·obtain ⟨_,_,_,_,_,_,_,_,_,_,_,rfl,_⟩:=h;rfl
 ·obtain ⟨k,b,z,m,r,ps,zs,gs,c,t,n,rfl,B,hm,hm2,hz,q⟩:=h;refine ⟨_,(@Jd _ _ _ _ _ (@Jt _ _ 4 _ _ _ _ Z3.nd rfl (Or.inl rfl) (@Jn _ _ _ _ _ _ _ _ _ _ _ _ _ _ _ T.JcD (JdR T) (hr.mono (by decide)) Y0 (@Ja _ _ _ _ _ (@Yk _ _ _ _ _ (@pv _ 0 _ _ rfl (.inl rfl) rfl rfl) rfl) (@Ja _ _ _ _ _ (@pv _ 1 _ _ rfl (.inl rfl) rfl rfl) (@Ja _ _ _ _ _ (@pv _ 2 _ _ rfl (.inl rfl) rfl rfl) (@Jc _) rfl) rfl) rfl) rfl (by decide) rfl rfl) rfl (.inl rfl)) (@Jd _ _ _ _ _ (@JN _ _ _ _ _ _ _ _ (@Jdx _ _ _ _ _ _ (@Jcx _ _ _ _ _ (@pv _ 4 _ _ rfl (.inl rfl) rfl rfl)) (by first | exact Zm _ (by decide) (by decide) | rfl)) (@Jh _ _ _ (@Ju _ _ _ _ (@JcS _ _ _ _ _ _ _ _ (@Js _ _ _ _ _ _ _ _ (@Yc _) (@pv _ 4 _ _ rfl (.inl rfl) rfl rfl) (@JS _ _ _ _) (JC _)) (@Jb _ _ _ _) (@Jj _ _ _ _ _ _ _ _ (@JP _) (@Yk _ _ _ _ _ (@pv _ 0 _ _ rfl (.inl rfl) rfl rfl) rfl) (@Jb _ _ _ _))))) (@Jy _)) (@Jd _ _ _ _ _ (@Jt _ _ 5 _ _ _ _ Z3.nd rfl (Or.inl rfl) (@JV _ _ _ _ _ _ _ _ _ _ _ _ _ _ _ _ _ _ _ _ (@pv _ 0 _ _ rfl (.inl rfl) rfl rfl) T.JE T.J0.m (ZE T) (hr.mono (by decide)) T.J0.b .nil JL (@Ja _ _ _ _ _ (@pv _ 1 _ _ rfl (.inl rfl) rfl rfl) (@Ja _ _ _ _ _ (@pv _ 2 _ _ rfl (.inl rfl) rfl rfl) (@Jc _) rfl) rfl) rfl rfl rfl) rfl (.inl rfl)) (@Jd _ _ _ _ _ (@Jt _ _ 6 _ _ _ _ Z3.nd rfl (Or.inl rfl) (@JV _ _ _ _ _ _ _ _ _ _ _ _ _ _ _ _ _ _ _ _ (@pv _ 0 _ _ rfl (.inl rfl) rfl rfl) T.JE T.JZ.m (ZD T) (hr.mono (by decide)) T.JZ.b .nil JL (@Ja _ _ _ _ _ (@pv _ 1 _ _ rfl (.inl rfl) rfl rfl) (@Ja _ _ _ _ _ (@pv _ 2 _ _ rfl (.inl rfl) rfl rfl) (@Jc _) rfl) rfl) rfl rfl rfl) rfl (.inl rfl)) (@Jd _ _ _ _ _ (@JN _ _ _ _ _ _ _ _ (@Js _ _ _ _ _ _ _ _ (@Yc _) (@pv _ 3 _ _ rfl (.inl rfl) rfl rfl) (@JS _ _ _ _) (JC _)) (@Jh _ _ _ (@Ju _ _ _ _ (@JI _ _ _ _ _ _ _ _ _ (@JbW _ rfl) rfl T.JdS PyProof.Rows.boot_max (@Ja _ _ _ _ _ (@pv _ 5 _ _ rfl (.inl rfl) rfl rfl) (@Ja _ _ _ _ _ (@Jj _ _ _ _ _ _ _ _ (@YE _) (@Jj _ _ _ _ _ _ _ _ (@JP _) (@pv _ 5 _ _ rfl (.inl rfl) rfl rfl) (@pv _ 6 _ _ rfl (.inl rfl) rfl rfl)) (@Jb _ _ _ _)) (@Jc _) rfl) rfl) (by decide) (by decide) rfl rfl))) (@Jy _)) (@Jh _ _ _ (@Ju _ _ _ _ (@JI _ _ _ _ _ _ _ _ _ (@Jlb _ rfl) rfl T.JjN PyProof.Rows.boot_min (@Ja _ _ _ _ _ (@pv _ 6 _ _ rfl (.inl rfl) rfl rfl) (@Ja _ _ _ _ _ (@Jj _ _ _ _ _ _ _ _ (@YE _) (@Jj _ _ _ _ _ _ _ _ (@JP _) (@Jj _ _ _ _ _ _ _ _ (@JP _) (@pv _ 5 _ _ rfl (.inl rfl) rfl rfl) (@pv _ 6 _ _ rfl (.inl rfl) rfl rfl)) (@Jb _ _ _ _)) (@Jb _ _ _ _)) (@Jc _) rfl) rfl) (by decide) (by decide) rfl rfl)))))))),?_⟩;obtain ⟨dx,l,rs,h1,h2,h3,h4⟩:=B.at_;refine ⟨_,rfl,k,_,dx,_,.ref b,rfl,h1,T.JE,T.Yh,rfl,_,rfl,_,rfl,b,z,m,ps,zs,gs,rfl,YB (B.B.G.p3 z hz),B.B.zl,B.B.B,fun h=>absurd hz h,fun _ h=>absurd (by omega) h,fun _ _ H1 e1=>?_⟩;by_cases hg:z∈gs
  ·have ev:Z1 z m (zs.map (·.2)) gs=.str "north":=by unfold Z1; rw [if_pos hg]
   rw [ev];have en:J5 (zs.map (·.2)) gs c m z r=0:=Jef (decide_eq_true hg);rw [en] at q;exact ⟨_,rfl,_,rfl,Y9 ⟨_,rfl,rfl,_,rfl,Y9 (q H1 e1)⟩⟩
  ·by_cases h0:(m:Int)=0∨Jp (zs.map (·.2)) z=[]
   ·have ev:Z1 z m (zs.map (·.2)) gs=.str "south":=by unfold Z1; rw [if_neg hg,if_pos h0]
    rw [ev];have en:J5 (zs.map (·.2)) gs c m z r=c + 1:=by
     rcases h0 with h0 | h0
     ·have:m=0:=by omega
      subst this;exact JkG (decide_eq_false hg)
     ·exact Jee (decide_eq_false hg) h0
    rw [en] at q;exact ⟨_,rfl,_,rfl,Y9 ⟨_,rfl,rfl,_,rfl,ZJ ⟨_,rfl,k,_,dx,_,.int c,rfl,e1 _ _ h1,T.JE,T.Y8,rfl,_,_,rfl,rfl,q H1 e1⟩⟩⟩
   ·have ev:Z1 z m (zs.map (·.2)) gs=.non:=by unfold Z1; rw [if_neg hg,if_neg h0]
    rw [ev];obtain ⟨j,rfl⟩:∃ j,m=j + 1:=⟨m - 1,by omega⟩
    have hw:Jp (zs.map (·.2)) z≠[]:=fun e=>h0 (.inr e)
    refine ⟨_,rfl,_,rfl,ZJ ?_⟩;refine ⟨_,rfl,k,dx,_,rfl,e1 _ _ h1,rfl,_,rfl,_,rfl,k,b,z,j,ps,zs,gs,c,t,n,rfl,B.same e1,by omega,hz,hw,fun H2 e2=>?_⟩;have e12:=e1.trans e2;refine ⟨_,rfl,k,dx,_,rfl,e12 _ _ h1,rfl,_,rfl,_,rfl,k,b,z,j,ps,zs,gs,c,t,n,rfl,B.same e12,by omega,hz,hw,fun H3 e3=>?_⟩;have q:=q H3 (e12.trans e3);refine ⟨_,rfl,rfl,_,rfl,?_⟩;rw [JjS];cases r with
    | true =>
     rw [J5,JkI (W:=Jp (zs.map (·.2))) (g:=fun p=>decide (p∈gs)) (p:=z) (decide_eq_false hg) hw] at q;exact Y9 ⟨_,rfl,_,rfl,_,rfl,_,_,rfl,rfl,_,_,rfl,rfl,⟨by decide,by decide⟩,_,_,rfl,q⟩
    | false =>
     rw [J5,JkH (W:=Jp (zs.map (·.2))) (g:=fun p=>decide (p∈gs)) (p:=z) (decide_eq_false hg) hw] at q;exact ZJ ⟨_,rfl,_,rfl,_,rfl,_,_,rfl,rfl,_,_,rfl,rfl,_,_,rfl,rfl,⟨by decide,by decide⟩,_,_,rfl,q⟩
theorem Jec (T:Txt K mg):JM P w K mg base Y6 6 T.JaJ T.Jap ["self", "turns"] (Jly K T.JD T.JA):=by
 refine T.ZG.F.ok Zz (fun vs H Q E h=>?_) (fun cdv A outer s H vs Q E hr h=>?_)
 ·obtain ⟨_,_,_,_,_,_,_,_,_,rfl,_⟩:=h;rfl
 ·obtain ⟨k,b,m,ps,zs,gs,c,t,n,rfl,B,hm,hm2,q⟩:=h;have hu:=Jcu hr;have szl:sizeLine=16777216:=sizeLine_eq;refine ⟨_,(@Jd _ _ _ _ _ (@Jt _ _ 2 _ _ _ _ Zz.nd rfl (Or.inl rfl) (@Jl2 _ _) rfl (.inl rfl)) (@Jd _ _ _ _ _ (@Yt _ _ _ _ _ _ _ _ PassesOwn.never rfl (@JcQ _ _ _ _ (@Yk _ _ _ _ _ (@Yk _ _ _ _ _ (@pv _ 0 _ _ rfl (.inl rfl) rfl rfl) rfl) rfl)) (@J8 _ _ 3 _ Zz.nd rfl (Or.inl rfl) (.inl rfl)) (@Jh _ _ _ (@Yt _ _ _ _ _ _ _ _ PassesOwn.never rfl (@JcQ _ _ _ _ (@Ji4 _ _ _ _ rfl T.Jgy (by decide))) (@J8 _ _ 4 _ Zz.nd rfl (Or.inl rfl) (.inl rfl)) (@Jh _ _ _ (@Ji1 _ _ _ _ _ _ _ _ _ hu (@pv _ 2 _ _ rfl (.inl rfl) rfl rfl) (@YX _ _ _ _ _ (@Ja _ _ _ _ _ (@pv _ 3 _ _ rfl (.inl rfl) rfl rfl) (@Ja _ _ _ _ _ (@pv _ 4 _ _ rfl (.inl rfl) rfl rfl) (@Jc _) rfl) rfl)) (@JV _ _ _ _ _ _ _ _ _ _ _ _ _ _ _ _ _ _ _ _ (@pv _ 0 _ _ rfl (.inl rfl) rfl rfl) T.JE T.JaB.m (JfG T) (hr.mono (by decide)) T.JaB.b .nil JL (@Ja _ _ _ _ _ (@pv _ 3 _ _ rfl (.inl rfl) rfl rfl) (@Ja _ _ _ _ _ (@pv _ 1 _ _ rfl (.inl rfl) rfl rfl) (@Ja _ _ _ _ _ (@pv _ 4 _ _ rfl (.inl rfl) rfl rfl) (@Jc _) rfl) rfl) rfl) rfl rfl rfl) rfl)) (by intro _; rfl))) (by intro _; rfl)) (@Jh _ _ _ (@Ju _ _ _ _ (@pv _ 2 _ _ rfl (.inl rfl) rfl rfl))))),?_⟩;obtain ⟨dx,l,rs,h1,h2,h3,h4⟩:=B.at_;obtain ⟨bdx,tp,tl,tg,hb,hp,_⟩:=id B.B.B;intro d hd;have kp:∀ {H2:Hp} {kvs:List (List JO×V)},Jg H H2→Jg H (upd H2 d (.dT kvs)):=fun e b' u h=>by rw [Jq (Jr h hd)]; exact e b' u h
  refine ⟨_,rfl,k,_,dx,_,.ref b,rfl,kp (Jg.refl _) _ _ h1,T.JE,T.Yh,rfl,b,_,bdx,_,.ref tp,rfl,kp (Jg.refl _) _ _ hb,T.Yo,T.Z6,rfl,tp,rfl,⟨_,JT.of (kp (Jg.refl _) _ _ hp)⟩,?_⟩;refine JeP (xs:=ps.map V.str) (fun i σ H2=>∃ kvs v1 v2,Jg H H2∧H2 d=some (.dT kvs)∧kvs.length≤2 * i∧(∀ p∈ps.take i,∀ r,YC kvs (ZL p r)=some (.int (J5 (zs.map (·.2)) gs c m p r)))∧σ=[some (.ref k),some (.int m),some (.ref d),v1,v2])
   ⟨[],none,none,kp (Jg.refl _),Jf,Nat.zero_le _,fun p hp=>by simp at hp,rfl⟩ (fun i σ H2 _ h=>by obtain ⟨_,_,_,e,_⟩:=h; exact JT.of (e _ _ hp)) ?_ ?_
  ·rintro i x σ H2 hx ⟨kvs,v1,v2,e2,hd2,hl2,hv2,rfl⟩;rw [List.getElem?_map] at hx;obtain ⟨p,hp1,rfl⟩:=Option.map_eq_some_iff.mp hx;have hpm:=List.mem_of_getElem? hp1;refine ⟨T.JdD,rfl,⟨_,T.JeE _⟩,?_⟩;refine JeP (xs:=[.str "north",.str "south"]) (fun j σ H3=>∃ kvs v2,Jg H H3∧H3 d=some (.dT kvs)∧kvs.length≤2 * i + j∧(∀ p∈ps.take i,∀ r,YC kvs (ZL p r)=some (.int (J5 (zs.map (·.2)) gs c m p r))) ∧
     (0 < j→YC kvs (ZL p true)=some (.int (J5 (zs.map (·.2)) gs c m p true)))∧(1 < j→YC kvs (ZL p false)=some (.int (J5 (zs.map (·.2)) gs c m p false)))∧σ=[some (.ref k),some (.int m),some (.ref d),some (.str p),v2])
    ⟨kvs,v2,e2,hd2,by omega,hv2,fun z=>absurd z (by decide),fun z=>absurd z (by decide),rfl⟩ (fun i σ H2 _ h=>T.JeE _) ?_ ?_
   ·rintro j y σ H3 hy ⟨kvs,v2,e3,hd3,hl3,hv3,hn3,hs3,rfl⟩;obtain ⟨r,rfl,hrj⟩:∃ r:Bool,y=.str (hs r)∧((r=true∧j=0)∨(r=false∧j=1)):=by
     match j,hy with
     | 0,h=>exact ⟨true,(Option.some.inj h).symm,.inl ⟨rfl,rfl⟩⟩
     | 1,h=>exact ⟨false,(Option.some.inj h).symm,.inr ⟨rfl,rfl⟩⟩
     | j + 2,h=>cases h
    refine ⟨_,rfl,k,dx,_,rfl,e3 _ _ h1,rfl,_,rfl,_,rfl,_,rfl,k,b,p,m,r,ps,zs,gs,c,t,n,rfl,B.same e3,hm,hm2,hpm,fun H4 e4=>?_⟩;refine ⟨_,rfl,_,rfl,_,rfl,by show 2≤sizeLine; decide,fun tp4 n4=>?_⟩;have hd4:upd H4 tp4 (.tup [.str p,.str (hs r)]) d=some (.dT kvs):=(Jg.upd n4) _ _ (e4 _ _ hd3);have hlen:ps.length≤12:=B.B.G.p2;have hil:i < ps.length:=(List.getElem?_eq_some_iff.mp hp1).1;have hj2:j≤1:=by rcases hrj with h | h <;> omega
    refine ⟨d,_,rfl,JeA.t (k:=ZL p r) hd4 (show upd H4 tp4 (.tup [.str p,.str (hs r)]) tp4=some (.tup ((ZL p r).map kV)) from Jf) (by omega),_,_,kp ((e3.trans e4).trans (Jg.upd n4)),Jf,?_,fun p' hp' r'=>?_,fun h=>?_,fun h=>?_,rfl⟩
    ·unfold Jah;split
     ·rw [List.length_map]; omega
     ·rw [List.length_append,List.length_singleton]; omega
    ·rw [JdJ];by_cases hk:ZL p' r'=ZL p r
     ·obtain ⟨rfl,rfl⟩:=JiC hk;rw [if_pos rfl]
     ·rw [if_neg hk]; exact hv3 p' hp' r'
    ·rw [JdJ];rcases hrj with ⟨rfl,rfl⟩ | ⟨rfl,rfl⟩
     ·rw [if_pos rfl]
     ·rw [if_neg (fun e=>by have:=(JiC e).2; cases this)]; exact hn3 (by decide)
    ·rcases hrj with ⟨rfl,rfl⟩ | ⟨rfl,rfl⟩
     ·exact absurd h (by decide)
     ·rw [JdJ,if_pos rfl]
   ·rintro σ H3 ⟨kvs,v2,e3,hd3,hl3,hv3,hn3,hs3,rfl⟩;refine ⟨kvs,_,_,e3,hd3,by have:[V.str "north",V.str "south"].length=2:=rfl; omega,fun p' hp' r=>?_,rfl⟩;rw [List.take_succ,hp1] at hp';rcases List.mem_append.mp hp' with h | h
    ·exact hv3 p' h r
    ·have h:p'=p:=by simpa using h
     subst h;cases r with
     | true=>exact hn3 (by decide)
     | false=>exact hs3 (by decide)
  ·rintro σ H2 ⟨kvs,v1,v2,e2,hd2,hl2,hv2,rfl⟩;rw [List.length_map,List.take_length] at hv2;exact ⟨_,rfl,q d H2 e2 ⟨kvs,hd2,hv2⟩⟩
theorem Jif (T:Txt K mg):JM P w K mg base (Y4 P w) 7 T.JbO T.JcY ["self", "board", "coins", "turns"] (JhK K T.JD T.JA T.JY):=by
 refine T.Jdr.F.ok1 Jd6 (fun vs H Q E h=>?_) (fun cdv A outer s H vs Q E hr h=>?_)
 ·obtain ⟨_,_,_,_,_,_,_,_,rfl,_⟩:=h;rfl
 ·obtain ⟨k,b,dx,c,t,ps,zs,gs,rfl,hk,hkb,B,q1,q2,q⟩:=h;have szl:sizeLine=16777216:=sizeLine_eq;refine ⟨_,(@Jd _ _ _ _ _ (@JH _ _ _ _ (@Jn _ _ _ _ _ _ _ _ _ _ _ _ _ _ _ T.Za (ZI T) (hr.mono (by decide)) Yz (@Ja _ _ _ _ _ (@pv _ 2 _ _ rfl (.inl rfl) rfl rfl) (@Ja _ _ _ _ _ (@Jaw _ _ _ _ _ rfl T.ZK T.ZH (by decide)) (@Jc _) rfl) rfl) rfl (by decide) rfl rfl) rfl) (@Jd _ _ _ _ _ (@JH _ _ _ _ (@Jn _ _ _ _ _ _ _ _ _ _ _ _ _ _ _ T.Za (ZI T) (hr.mono (by decide)) Yz (@Ja _ _ _ _ _ (@pv _ 3 _ _ rfl (.inl rfl) rfl rfl) (@Ja _ _ _ _ _ (@Jaw _ _ _ _ _ rfl T.Jam T.Jag (by decide)) (@Jc _) rfl) rfl) rfl (by decide) rfl rfl) rfl) (@Jd _ _ _ _ _ (@JcP _ _ _ _ _ _ _ _ (@pv _ 0 _ _ rfl (.inl rfl) rfl rfl) (@pv _ 1 _ _ rfl (.inl rfl) rfl rfl) rfl) (@Jd _ _ _ _ _ (@JcP _ _ _ _ _ _ _ _ (@pv _ 0 _ _ rfl (.inl rfl) rfl rfl) (@pv _ 2 _ _ rfl (.inl rfl) rfl rfl) rfl) (@Jd _ _ _ _ _ (@JcP _ _ _ _ _ _ _ _ (@pv _ 0 _ _ rfl (.inl rfl) rfl rfl) (@pv _ 3 _ _ rfl (.inl rfl) rfl rfl) rfl) (@Jd _ _ _ _ _ (@JcP _ _ _ _ _ _ _ _ (@pv _ 0 _ _ rfl (.inl rfl) rfl rfl) (@Ye _ _ _ _ (@Jc _)) rfl) (@Jh _ _ _ (@Yt _ _ _ _ _ _ _ _ PassesOwn.leaving rfl (@Ze _ _ _ _ _ _ rfl T.Zu (@Ja _ _ _ _ _ (@Jj _ _ _ _ _ _ _ _ (@JP _) (@pv _ 3 _ _ rfl (.inl rfl) rfl rfl) (@Jb _ _ _ _)) (@Jc _) rfl) rfl) (@J8 _ _ 4 _ Jd6.nd rfl (Or.inl rfl) (.inl rfl)) (@Jh _ _ _ (@JH _ _ _ _ (@Ja5 _ _ _ _ _ _ _ _ _ _ _ _ PySem.F.plainAttrs_list PySem.F.slot_list_append PySem.F.type_list_append (@Y3 _) (@Yk _ _ _ _ _ (@pv _ 0 _ _ rfl (.inl rfl) rfl rfl) rfl) (@Ja _ _ _ _ _ (@JV _ _ _ _ _ _ _ _ _ _ _ _ _ _ _ _ _ _ _ _ (@pv _ 0 _ _ rfl (.inl rfl) rfl rfl) T.JE T.ZG.m (Jec T) (hr.mono (by decide)) T.ZG.b .nil JL (@Ja _ _ _ _ _ (@pv _ 4 _ _ rfl (.inl rfl) rfl rfl) (@Jc _) rfl) rfl rfl rfl) (@Jc _) rfl) rfl rfl rfl rfl rfl) rfl)) (by intro _; rfl))))))))),?_⟩;refine ⟨_,rfl,c,20,rfl,⟨by decide,by decide⟩,fun hc=>?_,q1⟩;refine ⟨_,rfl,t,30,rfl,⟨by decide,by decide⟩,fun ht=>?_,q2 hc⟩;have q:=q hc ht;obtain ⟨tn,rfl⟩:∃ j:Nat,t=(j:Int):=⟨t.toNat,by omega⟩
  rw [Int.toNat_natCast] at q;refine ⟨_,rfl,_,rfl,k,_,dx,_,rfl,hk,T.JE,T.Yh,by decide,?_⟩;have b1:Zp k H (upd H k (.ins T.JA dx (Yb "board" (.ref b) []))):=Zp.put;have h1:upd H k (.ins T.JA dx (Yb "board" (.ref b) [])) k=some (.ins T.JA dx [("board",.ref b)]):=Jf;generalize upd H k (.ins T.JA dx (Yb "board" (.ref b) []))=H1 at b1 h1;refine ⟨_,rfl,_,rfl,k,_,dx,_,rfl,h1,T.JE,T.Y8,by show 1 < 1000; decide,?_⟩;have b2:=b1.trans (Zp.put (o:=.ins T.JA dx (Yb "coins" (.int c) [("board",.ref b)])));have h2:upd H1 k (.ins T.JA dx (Yb "coins" (.int c) [("board",.ref b)])) k=some (.ins T.JA dx [("board",.ref b),("coins",.int c)]):=Jf;generalize upd H1 k (.ins T.JA dx (Yb "coins" (.int c) [("board",.ref b)]))=H2 at b2 h2;refine ⟨_,rfl,_,rfl,k,_,dx,_,rfl,h2,T.JE,T.Jb5,by show 2 < 1000; decide,?_⟩;have b3:=b2.trans (Zp.put (o:=.ins T.JA dx (Yb "turns" (.int (tn:Int)) [("board",.ref b),("coins",.int c)])));have h3:upd H2 k (.ins T.JA dx (Yb "turns" (.int (tn:Int)) [("board",.ref b),("coins",.int c)])) k=some (.ins T.JA dx [("board",.ref b),("coins",.int c),("turns",.int (tn:Int))]):=Jf;generalize upd H2 k (.ins T.JA dx (Yb "turns" (.int (tn:Int)) [("board",.ref b),("coins",.int c)]))=H3 at b3 h3;refine ⟨by show 0≤sizeLine; decide,fun l hl=>?_⟩;refine ⟨_,rfl,k,_,dx,_,rfl,(Jg.upd hl) _ _ h3,T.JE,T.Y7,by show 3 < 1000; decide,?_⟩;have lk:l≠k:=fun e=>by rw [e,h3] at hl; cases hl
  have lH:H l=none:=by
   cases e:H l with
   | none=>rfl
   | some u=>rw [b3 l u lk e] at hl; cases hl
  have b4:=(b3.trans (Zp.of (Jg.upd (o:=.lst []) hl))).trans (Zp.put (o:=.ins T.JA dx (Yb "needs" (.ref l) [("board",.ref b),("coins",.int c),("turns",.int (tn:Int))])));have h4:upd (upd H3 l (.lst [])) k (.ins T.JA dx (Yb "needs" (.ref l) [("board",.ref b),("coins",.int c),("turns",.int (tn:Int))])) k=some (.ins T.JA dx [("board",.ref b),("coins",.int c),("turns",.int (tn:Int)),("needs",.ref l)]):=Jf;have l4:upd (upd H3 l (.lst [])) k (.ins T.JA dx (Yb "needs" (.ref l) [("board",.ref b),("coins",.int c),("turns",.int (tn:Int))])) l=some (.lst []):=by rw [Jq lk,Jf]
  generalize upd (upd H3 l (.lst [])) k (.ins T.JA dx (Yb "needs" (.ref l) [("board",.ref b),("coins",.int c),("turns",.int (tn:Int))]))=H4 at b4 h4 l4;refine ⟨_,rfl,_,_,rfl,rfl,(tn:Int) + 1,rfl,by omega,by omega,?_⟩;rw [show ((tn:Int) + 1).toNat=tn + 1 by omega];refine Zf (n:=tn + 1) (fun i σ H5=>∃ rs v,Zp k H H5∧H5 k=some (.ins T.JA dx [("board",.ref b),("coins",.int c),("turns",.int (tn:Int)),("needs",.ref l)])∧H5 l=some (.lst (rs.map V.ref))∧rs.length=i∧(∀ (j:Nat) a,rs[j]?=some a→Jdh H5 a ps (J5 (zs.map (·.2)) gs c j))∧σ=[some (.ref k),some (.ref b),some (.int c),some (.int (tn:Int)),v])
   ⟨[],none,b4,h4,l4,rfl,fun j a e=>by simp at e,rfl⟩ ?_ ?_
  ·rintro i σ H5 hi ⟨rs,v,b5,h5,l5,len5,r5,rfl⟩;have B5:Bk K T.JD T.JA H5 k b ps zs gs c tn i:=⟨Zp.bd B b5 hk hkb,hc.1,hc.2,by omega,dx,l,rs,h5,l5,len5,r5⟩
   refine ⟨_,rfl,k,_,dx,_,.ref l,rfl,h5,T.JE,T.Y7,rfl,.inl ⟨rfl,_,Jo.of l5⟩,_,rfl,k,dx,_,rfl,h5,rfl,_,rfl,k,b,i,ps,zs,gs,c,tn,i,by rw [Int.zero_add]; rfl,B5,Nat.le_refl _,by omega,fun a H6 e6 r6=>?_⟩;refine ⟨l,_,_,rfl,rfl,e6 _ _ l5,by rw [List.length_map]; omega,rs ++ [a],_,?_,?_,?_,?_,?_,rfl⟩
   ·intro x u hx hu;rw [Jq (Jr hu lH)];exact e6 _ _ (b5 x u hx hu)
   ·rw [Jq (fun e=>lk e.symm)]; exact e6 _ _ h5
   ·rw [Jf,List.map_append]; rfl
   ·rw [List.length_append,len5]; rfl
   ·intro j x hx;have key:∀ {y:Addr} {f:Str→Bool→Int},Jdh H6 y ps f→Jdh (upd H6 l (.lst (rs.map V.ref ++ [.ref a]))) y ps f:=fun {y f} hy=>by
     obtain ⟨kvs,y1,y2⟩:=hy;exact ⟨kvs,by rw [Jq (Z5 y1 (e6 _ _ l5) (fun z=>nomatch z))]; exact y1,y2⟩
    by_cases hj:j < rs.length
    ·rw [List.getElem?_append_left hj] at hx;exact key ((r5 j x hx).same e6)
    ·rw [List.getElem?_append_right (by omega)] at hx;have hj0:j - rs.length=0:=by
      cases e:j - rs.length with
      | zero=>rfl
      | succ n=>rw [e] at hx; simp at hx
     rw [hj0] at hx;have:a=x:=by simpa using hx
     subst this;have:j=i:=by omega
     subst this;exact key r6
  ·rintro σ H5 ⟨rs,v,b5,h5,l5,len5,r5,rfl⟩;exact q H5 b5 ⟨Zp.bd B b5 hk hkb,hc.1,hc.2,by omega,dx,l,rs,h5,l5,len5,r5⟩
theorem Zq (T:Txt K mg):JM P w K mg base (Y4 P w) 3 T.Jaq T.ZY ["self", "place", "turns", "north", "ribbon"] (Jlv K T.JD T.JA T.Yv T.JY T.YS):=by
 refine T.J1.F.ok1 Jd1 (fun vs H Q E h=>?_) (fun cdv A outer s H vs Q E hr h=>?_)
 ·obtain ⟨_,_,_,_,_,_,_,_,_,_,_,rfl,_⟩:=h;rfl
 ·obtain ⟨k,b,z,x,m,north,ps,zs,gs,c,t,rfl,tz,tx,B,⟨q1,q2,q3,q4⟩,q⟩:=h;refine ⟨_,(@Jd _ _ _ _ _ (@JH _ _ _ _ (@JV _ _ _ _ _ _ _ _ _ _ _ _ _ _ _ _ _ _ _ _ (@Yk _ _ _ _ _ (@pv _ 0 _ _ rfl (.inl rfl) rfl rfl) rfl) T.Yo T.JW.m (Zc T) (hr.mono (by decide)) T.JW.b .nil Yz (@Ja _ _ _ _ _ (@pv _ 1 _ _ rfl (.inl rfl) rfl rfl) (@Jc _) rfl) rfl rfl rfl) rfl) (@Jd _ _ _ _ _ (@JH _ _ _ _ (@Jn _ _ _ _ _ _ _ _ _ _ _ _ _ _ _ T.Za (ZI T) (hr.mono (by decide)) Yz (@Ja _ _ _ _ _ (@pv _ 2 _ _ rfl (.inl rfl) rfl rfl) (@Ja _ _ _ _ _ (@Yk _ _ _ _ _ (@pv _ 0 _ _ rfl (.inl rfl) rfl rfl) rfl) (@Jc _) rfl) rfl) rfl (by decide) rfl rfl) rfl) (@Jd _ _ _ _ _ (@JH _ _ _ _ (@Jn _ _ _ _ _ _ _ _ _ _ _ _ _ _ _ T.Za (ZI T) (hr.mono (by decide)) Yz (@Ja _ _ _ _ _ (@pv _ 3 _ _ rfl (.inl rfl) rfl rfl) (@Ja _ _ _ _ _ (@Yk _ _ _ _ _ (@pv _ 0 _ _ rfl (.inl rfl) rfl rfl) rfl) (@Jc _) rfl) rfl) rfl (by decide) rfl rfl) rfl) (@Jh _ _ _ (@JH _ _ _ _ (@Jn _ _ _ _ _ _ _ _ _ _ _ _ _ _ _ T.Jas (Jb4 T) (hr.mono (by decide)) Yz (@Ja _ _ _ _ _ (@pv _ 4 _ _ rfl (.inl rfl) rfl rfl) (@Jc _) rfl) rfl (by decide) rfl rfl) rfl))))),?_⟩;obtain ⟨dx,l,rs,h1,h2,h3,h4⟩:=B.at_;obtain ⟨bdx,tp,tl,tg,hb,_⟩:=id B.B.B;have:=B.c0;have:=B.c1;have:=B.t1;refine ⟨_,rfl,k,_,dx,_,.ref b,rfl,h1,T.JE,T.Yh,rfl,b,bdx,_,rfl,hb,rfl,_,rfl,b,z,ps,zs,gs,rfl,tz,B.B.B,fun hz=>?_,q1⟩;refine ⟨_,rfl,_,rfl,k,_,dx,_,.int t,rfl,h1,T.JE,T.Jb5,rfl,m,t,rfl,⟨by omega,by omega⟩,fun hm=>?_,q2 hz⟩;refine ⟨_,rfl,_,rfl,k,_,dx,_,.int c,rfl,h1,T.JE,T.Y8,rfl,north,c,rfl,⟨by omega,by omega⟩,fun hn=>?_,q3 hz hm⟩;exact ⟨_,rfl,x,rfl,tx,fun hx=>q ⟨hz,hm,hn,hx⟩,q4 hz hm hn⟩
theorem Jbu (T:Txt K mg):JM P w K mg base (Y4 P w) 4 T.Jcf T.JbD ["self", "place", "turns", "north", "ribbon"] (Jki K T.JD T.JA T.Yv T.JY T.YS):=by
 refine T.YT.F.ok1 Jgh (fun vs H Q E h=>?_) (fun cdv A outer s H vs Q E hr h=>?_)
 ·obtain ⟨_,_,_,_,_,_,_,_,_,_,_,rfl,_⟩:=h;rfl
 ·obtain ⟨k,b,z,x,m,north,ps,zs,gs,c,t,rfl,tz,tx,B,qe,q⟩:=h;have hu:=Jcu hr;refine ⟨_,(@Jd _ _ _ _ _ (@JH _ _ _ _ (@JV _ _ _ _ _ _ _ _ _ _ _ _ _ _ _ _ _ _ _ _ (@pv _ 0 _ _ rfl (.inl rfl) rfl rfl) T.JE T.J1.m (Zq T) (hr.mono (by decide)) T.J1.b .nil Yz (@Ja _ _ _ _ _ (@pv _ 1 _ _ rfl (.inl rfl) rfl rfl) (@Ja _ _ _ _ _ (@pv _ 2 _ _ rfl (.inl rfl) rfl rfl) (@Ja _ _ _ _ _ (@pv _ 3 _ _ rfl (.inl rfl) rfl rfl) (@Ja _ _ _ _ _ (@pv _ 4 _ _ rfl (.inl rfl) rfl rfl) (@Jc _) rfl) rfl) rfl) rfl) rfl rfl rfl) rfl) (@Jh _ _ _ (@Ju _ _ _ _ (@JcS _ _ _ _ _ _ _ _ (@Js _ _ _ _ _ _ _ _ (@JoV _) (@pv _ 3 _ _ rfl (.inl rfl) rfl rfl) (@Jax _ _ _ _ _ _ hu (@JB _ _ _ _ _ _ _ (@JF _) (@Yk _ _ _ _ _ (@pv _ 0 _ _ rfl (.inl rfl) rfl rfl) rfl) (@pv _ 2 _ _ rfl (.inl rfl) rfl rfl) (fun _ _=>rfl)) (@YX _ _ _ _ _ (@Ja _ _ _ _ _ (@pv _ 1 _ _ rfl (.inl rfl) rfl rfl) (@Ja _ _ _ _ _ (@pv _ 4 _ _ rfl (.inl rfl) rfl rfl) (@Jc _) rfl) rfl)) (fun _ _=>rfl)) (JC _)) (@JS _ _ _ _) (@JS _ _ _ _))))),?_⟩;obtain ⟨dx,l,rs,h1,h2,h3,h4⟩:=B.at_;refine ⟨_,rfl,k,dx,_,rfl,h1,rfl,_,rfl,_,rfl,_,rfl,_,rfl,k,b,z,x,m,north,ps,zs,gs,c,t,rfl,tz,tx,B,qe,fun ⟨hz,hm,hn,hx⟩=>?_⟩;obtain ⟨r,rfl⟩:=JcB hx;obtain ⟨j,rfl⟩:∃ j:Nat,m=(j:Int):=⟨m.toNat,by omega⟩
  obtain ⟨a,ha⟩:∃ a,rs[j]?=some a:=⟨_,List.getElem?_eq_getElem (by omega)⟩
  obtain ⟨kvs,hk1,hk2⟩:=h4 j a ha;have hat:atI (rs.map V.ref) (j:Int)=some (.ref a):=Ys (by rw [List.getElem?_map,ha]; rfl);refine ⟨_,rfl,_,rfl,k,_,dx,_,.ref l,rfl,h1,T.JE,T.Y7,rfl,_,rfl,l,_,_,.ref a,rfl,rfl,Jo.of h2,hat,_,rfl,_,rfl,by show 2≤sizeLine; decide,fun p hp=>?_⟩;have g:=Jat.t (k:=ZL z r) ((Jg.upd (o:=.tup [.str z,.str (hs r)]) hp) _ _ hk1) (show upd H p (.tup [.str z,.str (hs r)]) p=some (.tup ((ZL z r).map kV)) from Jf);rw [hk2 z hz r] at g;have q:=q hz hm hn r rfl _ (Jg.upd (o:=.tup [.str z,.str (hs r)]) hp);rw [Int.toNat_natCast] at q;refine ⟨a,_,rfl,g,_,_,rfl,rfl,_,rfl,Yw (fun hc=>?_) (fun hc=>?_)⟩
  ·rw [hc] at q; exact q
  ·rw [Bool.not_eq_true] at hc; rw [hc] at q; exact q
theorem Jhx (T:Txt K mg):JM P w K mg base (Y4 P w) 4 T.Jc0 T.Jb7 ["self", "place", "turns", "ribbon"] (JlB K T.JD T.JA T.Yv T.JY T.YS):=by
 refine T.Jbm.F.ok1 JdZ (fun vs H Q E h=>?_) (fun cdv A outer s H vs Q E hr h=>?_)
 ·obtain ⟨_,_,_,_,_,_,_,_,_,_,rfl,_⟩:=h;rfl
 ·obtain ⟨k,b,z,x,m,ps,zs,gs,c,t,rfl,tz,tx,B,qe,q⟩:=h;have hu:=Jcu hr;refine ⟨_,(@Jd _ _ _ _ _ (@JH _ _ _ _ (@JV _ _ _ _ _ _ _ _ _ _ _ _ _ _ _ _ _ _ _ _ (@pv _ 0 _ _ rfl (.inl rfl) rfl rfl) T.JE T.J1.m (Zq T) (hr.mono (by decide)) T.J1.b .nil Yz (@Ja _ _ _ _ _ (@pv _ 1 _ _ rfl (.inl rfl) rfl rfl) (@Ja _ _ _ _ _ (@pv _ 2 _ _ rfl (.inl rfl) rfl rfl) (@Ja _ _ _ _ _ (@Yk _ _ _ _ _ (@pv _ 0 _ _ rfl (.inl rfl) rfl rfl) rfl) (@Ja _ _ _ _ _ (@pv _ 3 _ _ rfl (.inl rfl) rfl rfl) (@Jc _) rfl) rfl) rfl) rfl) rfl rfl rfl) rfl) (@Jd _ _ _ _ _ (@Jt _ _ 4 _ _ _ _ JdZ.nd rfl (Or.inl rfl) (@Jax _ _ _ _ _ _ hu (@JB _ _ _ _ _ _ _ (@JF _) (@Yk _ _ _ _ _ (@pv _ 0 _ _ rfl (.inl rfl) rfl rfl) rfl) (@pv _ 2 _ _ rfl (.inl rfl) rfl rfl) (fun _ _=>rfl)) (@YX _ _ _ _ _ (@Ja _ _ _ _ _ (@pv _ 1 _ _ rfl (.inl rfl) rfl rfl) (@Ja _ _ _ _ _ (@pv _ 3 _ _ rfl (.inl rfl) rfl rfl) (@Jc _) rfl) rfl)) (fun _ _=>rfl)) rfl (.inl rfl)) (@Jh _ _ _ (@Ju _ _ _ _ (@JcS _ _ _ _ _ _ _ _ (@Js _ _ _ _ _ _ _ _ (@Jcr _) (@pv _ 4 _ _ rfl (.inl rfl) rfl rfl) (@Yk _ _ _ _ _ (@pv _ 0 _ _ rfl (.inl rfl) rfl rfl) rfl) (JC _)) (@JcR _ _ _) (@pv _ 4 _ _ rfl (.inl rfl) rfl rfl)))))),?_⟩;obtain ⟨dx,l,rs,h1,h2,h3,h4⟩:=B.at_;refine ⟨_,rfl,k,dx,_,rfl,h1,rfl,_,rfl,_,rfl,_,rfl,k,_,dx,_,.int c,rfl,h1,T.JE,T.Y8,rfl,_,rfl,k,b,z,x,m,c,ps,zs,gs,c,t,rfl,tz,tx,B,qe,fun ⟨hz,hm,hn,hx⟩=>?_⟩;obtain ⟨r,rfl⟩:=JcB hx;obtain ⟨j,rfl⟩:∃ j:Nat,m=(j:Int):=⟨m.toNat,by omega⟩
  obtain ⟨a,ha⟩:∃ a,rs[j]?=some a:=⟨_,List.getElem?_eq_getElem (by omega)⟩
  obtain ⟨kvs,hk1,hk2⟩:=h4 j a ha;have hat:atI (rs.map V.ref) (j:Int)=some (.ref a):=Ys (by rw [List.getElem?_map,ha]; rfl);refine ⟨_,rfl,k,_,dx,_,.ref l,rfl,h1,T.JE,T.Y7,rfl,_,rfl,l,_,_,.ref a,rfl,rfl,Jo.of h2,hat,_,rfl,_,rfl,by show 2≤sizeLine; decide,fun p hp=>?_⟩;have e1:Jg H (upd H p (.tup [.str z,.str (hs r)])):=Jg.upd hp;have g:=Jat.t (k:=ZL z r) (e1 _ _ hk1) (show upd H p (.tup [.str z,.str (hs r)]) p=some (.tup ((ZL z r).map kV)) from Jf);rw [hk2 z hz r] at g;have q:=q hz hm r rfl _ e1;rw [Int.toNat_natCast] at q;refine ⟨a,_,rfl,g,_,rfl,_,rfl,k,_,dx,_,.int c,rfl,e1 _ _ h1,T.JE,T.Y8,rfl,_,_,rfl,rfl,_,rfl,Yw (fun hc=>?_) (fun hc=>?_)⟩
  ·rw [Ja9,if_neg (by have:=of_decide_eq_true hc; omega)] at q; exact q
  ·rw [Ja9,if_pos (Int.not_lt.mp fun h=>hc (decide_eq_true h))] at q; exact ⟨_,rfl,q⟩
theorem Jgv (T:Txt K mg):JM P w K mg base (Y4 P w) 5 T.Jcg T.JbE ["self", "place", "turns", "north", "ribbon"] (Jkp K T.JD T.JA T.Yv T.JY T.YS):=by
 refine T.JaR.F.ok1 Jdv (fun vs H Q E h=>?_) (fun cdv A outer s H vs Q E hr h=>?_)
 ·obtain ⟨_,_,_,_,_,_,_,_,_,_,_,rfl,_⟩:=h;rfl
 ·obtain ⟨k,b,z,x,m,north,ps,zs,gs,c,t,rfl,tz,tx,B,qe,q⟩:=h;refine ⟨_,(@Jd _ _ _ _ _ (@Jt _ _ 5 _ _ _ _ Jdv.nd rfl (Or.inl rfl) (@JV _ _ _ _ _ _ _ _ _ _ _ _ _ _ _ _ _ _ _ _ (@pv _ 0 _ _ rfl (.inl rfl) rfl rfl) T.JE T.YT.m (Jbu T) (hr.mono (by decide)) T.YT.b .nil Yz (@Ja _ _ _ _ _ (@pv _ 1 _ _ rfl (.inl rfl) rfl rfl) (@Ja _ _ _ _ _ (@pv _ 2 _ _ rfl (.inl rfl) rfl rfl) (@Ja _ _ _ _ _ (@pv _ 3 _ _ rfl (.inl rfl) rfl rfl) (@Ja _ _ _ _ _ (@pv _ 4 _ _ rfl (.inl rfl) rfl rfl) (@Jc _) rfl) rfl) rfl) rfl) rfl rfl rfl) rfl (.inl rfl)) (@Jd _ _ _ _ _ (@JN _ _ _ _ _ _ _ _ (@PW.pt _ _ _ (@JbM _ _ _ _ _ _ _ (@Js _ _ _ _ _ _ _ _ (@Yc _) (@pv _ 5 _ _ rfl (.inl rfl) rfl rfl) (@pv _ 4 _ _ rfl (.inl rfl) rfl rfl) (JC _)) (@Ja4 _ _ _ _ (@Jdx _ _ _ _ _ _ (@Jcx _ _ _ _ _ (@Jn _ _ _ _ _ _ _ _ _ _ _ _ _ _ _ T.JcD (JdR T) (hr.mono (by decide)) Y0 (@Ja _ _ _ _ _ (@Yk _ _ _ _ _ (@pv _ 0 _ _ rfl (.inl rfl) rfl rfl) rfl) (@Ja _ _ _ _ _ (@pv _ 1 _ _ rfl (.inl rfl) rfl rfl) (@Ja _ _ _ _ _ (@pv _ 2 _ _ rfl (.inl rfl) rfl rfl) (@Jc _) rfl) rfl) rfl) rfl (by decide) rfl rfl)) (by first | exact Zm _ (by decide) (by decide) | rfl))))) (@Jh _ _ _ (@Ju _ _ _ _ (@JcR _ _ _))) (@Jy _)) (@Jd _ _ _ _ _ (@JN _ _ _ _ _ _ _ _ (@Js _ _ _ _ _ _ _ _ (@Yc _) (@pv _ 4 _ _ rfl (.inl rfl) rfl rfl) (@JS _ _ _ _) (JC _)) (@Jh _ _ _ (@Ju _ _ _ _ (@JI _ _ _ _ _ _ _ _ _ (@JbW _ rfl) rfl T.JdS PyProof.Rows.boot_max (@Ja _ _ _ _ _ (@Jb _ _ _ _) (@Ja _ _ _ _ _ (@Jj _ _ _ _ _ _ _ _ (@Y2 _) (@JV _ _ _ _ _ _ _ _ _ _ _ _ _ _ _ _ _ _ _ _ (@pv _ 0 _ _ rfl (.inl rfl) rfl rfl) T.JE T.JZ.m (ZD T) (hr.mono (by decide)) T.JZ.b .nil JL (@Ja _ _ _ _ _ (@pv _ 1 _ _ rfl (.inl rfl) rfl rfl) (@Ja _ _ _ _ _ (@pv _ 2 _ _ rfl (.inl rfl) rfl rfl) (@Jc _) rfl) rfl) rfl rfl rfl) (@pv _ 3 _ _ rfl (.inl rfl) rfl rfl)) (@Jc _) rfl) rfl) (by decide) (by decide) rfl rfl))) (@Jy _)) (@Jh _ _ _ (@Ju _ _ _ _ (@JI _ _ _ _ _ _ _ _ _ (@JbW _ rfl) rfl T.JdS PyProof.Rows.boot_max (@Ja _ _ _ _ _ (@Jb _ _ _ _) (@Ja _ _ _ _ _ (@Jj _ _ _ _ _ _ _ _ (@JP _) (@Jj _ _ _ _ _ _ _ _ (@Y2 _) (@pv _ 3 _ _ rfl (.inl rfl) rfl rfl) (@JV _ _ _ _ _ _ _ _ _ _ _ _ _ _ _ _ _ _ _ _ (@pv _ 0 _ _ rfl (.inl rfl) rfl rfl) T.JE T.J0.m (ZE T) (hr.mono (by decide)) T.J0.b .nil JL (@Ja _ _ _ _ _ (@pv _ 1 _ _ rfl (.inl rfl) rfl rfl) (@Ja _ _ _ _ _ (@pv _ 2 _ _ rfl (.inl rfl) rfl rfl) (@Jc _) rfl) rfl) rfl rfl rfl)) (@Jb _ _ _ _)) (@Jc _) rfl) rfl) (by decide) (by decide) rfl rfl)))))),?_⟩;obtain ⟨dx,l,rs,h1,h2,h3,h4⟩:=B.at_;refine ⟨_,rfl,k,dx,_,rfl,h1,rfl,_,rfl,_,rfl,_,rfl,_,rfl,k,b,z,x,m,north,ps,zs,gs,c,t,rfl,tz,tx,B,qe,fun hz hm hn r hx H1 e1=>?_⟩;subst hx;obtain ⟨j,rfl⟩:∃ j:Nat,m=(j:Int):=⟨m.toNat,by omega⟩
  have q:=fun H' e=>q hz hm hn r rfl H' e
  simp only [Int.toNat_natCast] at q ⊢;have t1:=B.t1;refine ⟨_,rfl,_,rfl,rfl,_,rfl,?_⟩;have ev:=Jfq (z:=z) (m:=j) (zs:=zs.map (·.2)) (gs:=gs);cases hd:decide (J5 (zs.map (·.2)) gs c j z r≤north) == r with
  | true =>
   have hd':decide (J5 (zs.map (·.2)) gs c j z r≤north)=r:=by simpa using hd
   rw [hd'];refine Zr (decide_eq_true rfl) (Y9 ?_);have e:bidV (zs.map (·.2)) gs c j z north r=.non:=by
    unfold bidV;by_cases he:YO (zs.map (·.2)) gs j z
    ·rw [if_pos he]
    ·rw [if_neg he,hd',if_neg (by cases r <;> decide)]
   rw [e] at q;exact q H1 e1
  | false =>
   have hd':decide (J5 (zs.map (·.2)) gs c j z r≤north)=!r:=by
    revert hd
    cases decide (J5 (zs.map (·.2)) gs c j z r≤north) <;> cases r <;> decide
   rw [hd'];refine YA (decide_eq_false (fun e=>by have:=YH (V.str.inj e); cases r <;> cases this)) ?_;refine ⟨_,rfl,k,_,dx,_,.ref b,rfl,e1 _ _ h1,T.JE,T.Yh,rfl,_,rfl,_,rfl,b,z,j,ps,zs,gs,rfl,tz,B.B.zl,(B.B.same e1).B,fun h=>absurd hz h,fun _ h=>absurd (by omega) h,fun _ _ H2 e2=>?_⟩;have e12:=e1.trans e2;by_cases he:YO (zs.map (·.2)) gs j z
   ·obtain ⟨y,hy⟩:=ev.1 he;rw [hy];have e:bidV (zs.map (·.2)) gs c j z north r=.non:=by unfold bidV; rw [if_pos he]
    rw [e] at q;exact ⟨_,rfl,Y9 (q H2 e12)⟩
   ·rw [ev.2 he];refine ⟨_,rfl,ZJ ?_⟩;have hw:Jp (zs.map (·.2)) z≠[]:=fun h=>he (.inr (.inr h))
    obtain ⟨i,rfl⟩:∃ i,j=i + 1:=⟨j - 1,by have:j≠0:=fun h=>he (.inr (.inl h)); omega⟩
    have e:bidV (zs.map (·.2)) gs c (i + 1) z north r=.int (JiD (Jp (zs.map (·.2))) (gB gs) c i z north r):=by unfold bidV; rw [if_neg he,hd',if_pos rfl]; rfl
    rw [e] at q;refine ⟨_,rfl,rfl,_,rfl,?_⟩;cases r with
    | false =>
     refine Zr (by decide +kernel) ?_;refine ⟨_,rfl,k,dx,_,rfl,e12 _ _ h1,rfl,_,rfl,_,rfl,k,b,z,i,ps,zs,gs,c,t,t + 1,rfl,B.same e12,by omega,hz,hw,fun H3 e3=>?_⟩;exact ⟨_,rfl,_,_,rfl,rfl,_,_,rfl,q H3 (e12.trans e3)⟩
    | true =>
     refine YA (by decide +kernel) ?_;refine ⟨_,rfl,_,rfl,k,dx,_,rfl,e12 _ _ h1,rfl,_,rfl,_,rfl,k,b,z,i,ps,zs,gs,c,t,t + 1,rfl,B.same e12,by omega,hz,hw,fun H3 e3=>?_⟩;exact ⟨_,_,rfl,rfl,_,_,rfl,rfl,_,_,rfl,q H3 (e12.trans e3)⟩
theorem Ja8 (T:Txt K mg):JM P w K mg base (Y4 P w) 5 T.JbG T.Jbd ["self", "place", "turns", "north", "ribbon", "hand"] (Jju K T.JD T.JA T.Yv T.JY T.YS):=by
 refine T.YI.F.ok1 Jdb (fun vs H Q E h=>?_) (fun cdv A outer s H vs Q E hr h=>?_)
 ·obtain ⟨_,_,_,_,_,_,_,_,_,_,_,_,rfl,_⟩:=h;rfl
 ·obtain ⟨k,b,z,x,y,m,north,ps,zs,gs,c,t,rfl,tz,tx,ty,B,qe,qh,q⟩:=h;refine ⟨_,(@Jd _ _ _ _ _ (@JH _ _ _ _ (@JV _ _ _ _ _ _ _ _ _ _ _ _ _ _ _ _ _ _ _ _ (@pv _ 0 _ _ rfl (.inl rfl) rfl rfl) T.JE T.J1.m (Zq T) (hr.mono (by decide)) T.J1.b .nil Yz (@Ja _ _ _ _ _ (@pv _ 1 _ _ rfl (.inl rfl) rfl rfl) (@Ja _ _ _ _ _ (@pv _ 2 _ _ rfl (.inl rfl) rfl rfl) (@Ja _ _ _ _ _ (@pv _ 3 _ _ rfl (.inl rfl) rfl rfl) (@Ja _ _ _ _ _ (@pv _ 4 _ _ rfl (.inl rfl) rfl rfl) (@Jc _) rfl) rfl) rfl) rfl) rfl rfl rfl) rfl) (@Jd _ _ _ _ _ (@JH _ _ _ _ (@Jn _ _ _ _ _ _ _ _ _ _ _ _ _ _ _ T.Jas (Jb4 T) (hr.mono (by decide)) Yz (@Ja _ _ _ _ _ (@pv _ 5 _ _ rfl (.inl rfl) rfl rfl) (@Jc _) rfl) rfl (by decide) rfl rfl) rfl) (@Jd _ _ _ _ _ (@JN _ _ _ _ _ _ _ _ (@Jdx _ _ _ _ _ _ (@Jcx _ _ _ _ _ (@Jn _ _ _ _ _ _ _ _ _ _ _ _ _ _ _ T.JcD (JdR T) (hr.mono (by decide)) Y0 (@Ja _ _ _ _ _ (@Yk _ _ _ _ _ (@pv _ 0 _ _ rfl (.inl rfl) rfl rfl) rfl) (@Ja _ _ _ _ _ (@pv _ 1 _ _ rfl (.inl rfl) rfl rfl) (@Ja _ _ _ _ _ (@pv _ 2 _ _ rfl (.inl rfl) rfl rfl) (@Jc _) rfl) rfl) rfl) rfl (by decide) rfl rfl)) (by first | exact Zm _ (by decide) (by decide) | rfl)) (@Jh _ _ _ (@Ju _ _ _ _ (@JcR _ _ _))) (@Jy _)) (@Jd _ _ _ _ _ (@Yt _ _ _ _ _ _ _ _ PassesOwn.leaving rfl (@JcQ _ _ _ _ (@JV _ _ _ _ _ _ _ _ _ _ _ _ _ _ _ _ _ _ _ _ (@Yk _ _ _ _ _ (@pv _ 0 _ _ rfl (.inl rfl) rfl rfl) rfl) T.Yo T.Yy.m (JaO T) (hr.mono (by decide)) T.Yy.b .nil Y0 (@Ja _ _ _ _ _ (@pv _ 1 _ _ rfl (.inl rfl) rfl rfl) (@Jc _) rfl) rfl rfl rfl)) (@J8 _ _ 6 _ Jdb.nd rfl (Or.inl rfl) (.inl rfl)) (@Jh _ _ _ (@JN _ _ _ _ _ _ _ _ (@Js _ _ _ _ _ _ _ _ (@Yc _) (@JV _ _ _ _ _ _ _ _ _ _ _ _ _ _ _ _ _ _ _ _ (@pv _ 0 _ _ rfl (.inl rfl) rfl rfl) T.JE T.YT.m (Jbu T) (hr.mono (by decide)) T.YT.b .nil Y0 (@Ja _ _ _ _ _ (@pv _ 6 _ _ rfl (.inl rfl) rfl rfl) (@Ja _ _ _ _ _ (@Jj _ _ _ _ _ _ _ _ (@Y2 _) (@pv _ 2 _ _ rfl (.inl rfl) rfl rfl) (@Jb _ _ _ _)) (@Ja _ _ _ _ _ (@pv _ 3 _ _ rfl (.inl rfl) rfl rfl) (@Ja _ _ _ _ _ (@pv _ 4 _ _ rfl (.inl rfl) rfl rfl) (@Jc _) rfl) rfl) rfl) rfl) rfl rfl rfl) (@pv _ 5 _ _ rfl (.inl rfl) rfl rfl) (JC _)) (@Jh _ _ _ (@Ju _ _ _ _ (@pv _ 6 _ _ rfl (.inl rfl) rfl rfl))) (@Jy _))) (by intro _; rfl)) (@Jh _ _ _ (@Ju _ _ _ _ (@JcR _ _ _))))))),?_⟩;obtain ⟨dx,l,rs,h1,h2,h3,h4⟩:=B.at_;refine ⟨_,rfl,k,dx,_,rfl,h1,rfl,_,rfl,_,rfl,_,rfl,_,rfl,k,b,z,x,m,north,ps,zs,gs,c,t,rfl,tz,tx,B,qe,fun hok=>?_⟩;refine ⟨_,rfl,y,rfl,ty,fun hy=>?_,qh hok⟩;obtain ⟨hz,hm,hn,hx⟩:=hok;obtain ⟨r,rfl⟩:=JcB hx;obtain ⟨h,rfl⟩:=JcB hy;obtain ⟨j,rfl⟩:∃ j:Nat,m=(j:Int):=⟨m.toNat,by omega⟩
  have q:=fun H' e=>q hz hm hn r h rfl rfl H' e
  simp only [Int.toNat_natCast] at q;have t1:=B.t1;have ev:=Jfq (z:=z) (m:=j) (zs:=zs.map (·.2)) (gs:=gs);refine ⟨_,rfl,k,_,dx,_,.ref b,rfl,h1,T.JE,T.Yh,rfl,_,rfl,_,rfl,b,z,j,ps,zs,gs,rfl,tz,B.B.zl,B.B.B,fun h=>absurd hz h,fun _ h=>absurd (by omega) h,fun _ _ H1 e1=>?_⟩;by_cases he:YO (zs.map (·.2)) gs j z
  ·obtain ⟨y,hy⟩:=ev.1 he;rw [hy];have e:stepV (zs.map (·.2)) gs c j z north r h=.non:=by unfold stepV; rw [if_pos he]
   rw [e] at q;exact ⟨_,rfl,Y9 (q H1 e1)⟩
  ·rw [ev.2 he];refine ⟨_,rfl,ZJ ?_⟩;obtain ⟨i,rfl⟩:∃ i,j=i + 1:=⟨j - 1,by have:j≠0:=fun h=>he (.inr (.inl h)); omega⟩
   have e:stepV (zs.map (·.2)) gs c (i + 1) z north r h=Jfc (Jau (Jp (zs.map (·.2))) (gB gs) c i z north r h):=by unfold stepV; rw [if_neg he]; rfl
   rw [e] at q;obtain ⟨bdx,tp,tl,tg,hb,_⟩:=id B.B.B;refine ⟨_,rfl,k,_,dx,_,.ref b,rfl,e1 _ _ h1,T.JE,T.Yh,rfl,b,bdx,_,rfl,e1 _ _ hb,rfl,_,rfl,b,z,ps,zs,gs,rfl,tz,B.B.zl,(B.B.same e1).B,fun _ tw H2 e2 ht=>?_,fun h=>absurd hz h⟩;have e12:=e1.trans e2;refine ⟨tw,rfl,⟨_,JT.of ht⟩,?_⟩;refine JeP (xs:=(Jp (zs.map (·.2)) z).map V.str) (fun n σ H3=>Jg H2 H3∧(∀ w∈(Jp (zs.map (·.2)) z).take n,(decide (J5 (zs.map (·.2)) gs c i w r≤north) == h)=false)∧∃ v,σ=[some (.ref k),some (.str z),some (.int ((i:Int) + 1)),some (.int north),some (.str (hs r)),some (.str (hs h)),v]) ⟨Jg.refl _,fun w hw=>by simp at hw,none,rfl⟩ (fun n σ H3 _ p=>JT.of (p.1 _ _ ht)) ?_ ?_
   ·rintro n x σ H3 hx ⟨e3,hf,v,rfl⟩;rw [List.getElem?_map] at hx;obtain ⟨w',hw1,rfl⟩:=Option.map_eq_some_iff.mp hx;have hin:=JeC B.B.G (List.mem_of_getElem? hw1);have e13:=e12.trans e3;refine ⟨_,rfl,k,dx,_,rfl,e13 _ _ h1,rfl,_,rfl,_,rfl,_,_,rfl,rfl,_,rfl,_,rfl,k,b,w',hs r,(i:Int) + 1 - 1,north,ps,zs,gs,c,t,rfl,YB (B.B.G.p3 w' hin),Zg r,B.same e13,ZN ⟨hin,⟨by omega,by omega⟩,hn,YG r⟩,fun _ _ _ r' hr' H4 e4=>?_⟩;obtain rfl:=YH hr';have ei:((i:Int) + 1 - 1).toNat=i:=by omega
    rw [ei];refine ⟨_,rfl,rfl,_,rfl,?_⟩;cases hd:decide (J5 (zs.map (·.2)) gs c i w' r≤north) == h with
    | true =>
     have hd':decide (J5 (zs.map (·.2)) gs c i w' r≤north)=h:=by simpa using hd
     rw [hd'];refine Zr (decide_eq_true rfl) ⟨_,rfl,?_⟩;have es:Jau (Jp (zs.map (·.2))) (gB gs) c i z north r h=some w':=Jjb hw1 hf hd;rw [es] at q;exact q H4 (e13.trans e4)
    | false =>
     refine YA (decide_eq_false fun e=>?_) ⟨e3.trans e4,fun w hw=>?_,_,rfl⟩
     ·rw [YH (V.str.inj e)] at hd;simp at hd
     ·rw [List.take_succ,hw1] at hw;rcases List.mem_append.mp hw with h' | h'
      ·exact hf w h'
      ·have h':w=w':=by simpa using h'
       subst h';exact hd
   ·rintro σ H3 ⟨e3,hf,v,rfl⟩;rw [List.length_map,List.take_length] at hf;have es:Jau (Jp (zs.map (·.2))) (gB gs) c i z north r h=none:=by
     unfold Jau;rw [List.find?_eq_none];intro w hw;rw [hf w hw]; exact Bool.false_ne_true
    rw [es] at q;exact q H3 (e12.trans e3)
theorem Jd2 (T:Txt K mg):JM P w K mg base Y6 6 T.Jar T.ZZ ["self", "place", "turns", "settled", "holder"] (JlF K T.JD T.JA):=by
 refine T.ZF.F.ok ZW (fun vs H Q E h=>?_) (fun cdv A outer s H vs Q E hr h=>?_)
 ·obtain ⟨_,_,_,_,_,_,_,_,_,_,_,_,_,_,_,rfl,_⟩:=h;rfl
 ·obtain ⟨k,b,p,z,m,l,r,h,n,s',ps,zs,gs,c,t,rfl,hp,B,hz,hm,hn,he,q⟩:=h;refine ⟨_,(@Jd _ _ _ _ _ (@Jt _ _ 5 _ _ _ _ ZW.nd rfl (Or.inl rfl) (@JB _ _ _ _ _ _ _ (@YF _) (@pv _ 3 _ _ rfl (.inl rfl) rfl rfl) (@Jb _ _ _ _) (fun _ _=>rfl)) rfl (.inl rfl)) (@Jd _ _ _ _ _ (@Jt _ _ 6 _ _ _ _ ZW.nd rfl (Or.inl rfl) (@JV _ _ _ _ _ _ _ _ _ _ _ _ _ _ _ _ _ _ _ _ (@pv _ 0 _ _ rfl (.inl rfl) rfl rfl) T.JE T.YI.m (Ja8 T) (hr.mono (by decide)) T.YI.b .nil Y0 (@Ja _ _ _ _ _ (@pv _ 1 _ _ rfl (.inl rfl) rfl rfl) (@Ja _ _ _ _ _ (@pv _ 2 _ _ rfl (.inl rfl) rfl rfl) (@Ja _ _ _ _ _ (@JB _ _ _ _ _ _ _ (@YF _) (@pv _ 3 _ _ rfl (.inl rfl) rfl rfl) (@Jb _ _ _ _) (fun _ _=>rfl)) (@Ja _ _ _ _ _ (@JB _ _ _ _ _ _ _ (@YF _) (@pv _ 3 _ _ rfl (.inl rfl) rfl rfl) (@Jb _ _ _ _) (fun _ _=>rfl)) (@Ja _ _ _ _ _ (@pv _ 5 _ _ rfl (.inl rfl) rfl rfl) (@Jc _) rfl) rfl) rfl) rfl) rfl) rfl rfl rfl) rfl (.inl rfl)) (@Jd _ _ _ _ _ (@JN _ _ _ _ _ _ _ _ (@Js _ _ _ _ _ _ _ _ (@Yc _) (@pv _ 5 _ _ rfl (.inl rfl) rfl rfl) (@pv _ 4 _ _ rfl (.inl rfl) rfl rfl) (JC _)) (@Jh _ _ _ (@Ju _ _ _ _ (@Jh4 _ _ _ _ _ _ (@Jcx _ _ _ _ _ (@pv _ 6 _ _ rfl (.inl rfl) rfl rfl)) (by first | exact Zm _ (by decide) (by decide) | rfl)))) (@Jy _)) (@Jh _ _ _ (@Ju _ _ _ _ (@Jh4 _ _ _ _ _ _ (@Jh6 _ _ _ _ _ (@pv _ 6 _ _ rfl (.inl rfl) rfl rfl)) (by first | exact Zm _ (by decide) (by decide) | rfl))))))),?_⟩;obtain ⟨dx,l',rs,h1,h2,h3,h4⟩:=B.at_;refine ⟨_,rfl,p,_,_,.str (hs l),rfl,rfl,JT.of hp,rfl,?_⟩;refine ⟨_,rfl,k,dx,_,rfl,h1,rfl,_,rfl,_,rfl,_,rfl,p,_,_,.int n,rfl,rfl,JT.of hp,rfl,_,rfl,p,_,_,.str (hs r),rfl,rfl,JT.of hp,rfl,_,rfl,?_⟩;refine ⟨k,b,z,hs r,hs l,(m:Int) + 1,n,ps,zs,gs,c,t,rfl,YB (B.B.G.p3 z hz),Zg r,Zg l,B,ZN ⟨hz,⟨by omega,by omega⟩,hn,YG r⟩,fun _ h=>(by rw [YG] at h; cases h),fun _ _ _ r' l'' hr' hl' H1 e1=>?_⟩;obtain rfl:=YH hr';obtain rfl:=YH hl';have ei:((m:Int) + 1).toNat=m + 1:=by omega
  have es:stepV (zs.map (·.2)) gs c ((m:Int) + 1).toNat z n r l=Jfc (Jau (Jp (zs.map (·.2))) (gB gs) c m z n r l):=by rw [ei]; unfold stepV; rw [if_neg he]; rfl
  rw [es];have q:=q H1 e1;refine ⟨_,rfl,_,rfl,rfl,_,rfl,?_⟩;cases hs':Jau (Jp (zs.map (·.2))) (gB gs) c m z n r l with
  | none =>
   rw [hs'] at q;by_cases hlh:l=h
   ·subst hlh;refine Zr (decide_eq_true rfl) ⟨_,rfl,?_⟩;simpa [Jfc] using q
   ·refine YA (decide_eq_false fun e=>hlh (YH (V.str.inj e))) ⟨_,rfl,?_⟩;have:(l == h)=false:=by simpa using hlh
    rw [this] at q;simpa [Jfc] using q
  | some w' =>
   rw [hs'] at q;by_cases hlh:l=h
   ·subst hlh;refine Zr (decide_eq_true rfl) ⟨_,rfl,?_⟩;simpa [Jfc] using q
   ·refine YA (decide_eq_false fun e=>hlh (YH (V.str.inj e))) ⟨_,rfl,?_⟩;have:(l == h)=false:=by simpa using hlh
    rw [this] at q;simpa [Jfc] using q
theorem JeX (T:Txt K mg):JM P w K mg base (Y4 P w) 7 T.JaV T.JaH ["self", "place", "turns", "north", "ribbon", "bid"] (JhL K T.JD T.JA T.Yv T.JY T.YS T.Jbx):=by
 refine T.ZS.F.ok1 JaE (fun vs H Q E h=>?_) (fun cdv A outer s H vs Q E hr h=>?_)
 ·obtain ⟨_,_,_,_,_,_,_,_,_,_,_,_,rfl,_⟩:=h;rfl
 ·obtain ⟨k,b,z,x,m,north,bid,ps,zs,gs,c,t,rfl,tz,tx,B,qe,qb,q⟩:=h;refine ⟨_,(@Jd _ _ _ _ _ (@JH _ _ _ _ (@JV _ _ _ _ _ _ _ _ _ _ _ _ _ _ _ _ _ _ _ _ (@pv _ 0 _ _ rfl (.inl rfl) rfl rfl) T.JE T.J1.m (Zq T) (hr.mono (by decide)) T.J1.b .nil Yz (@Ja _ _ _ _ _ (@pv _ 1 _ _ rfl (.inl rfl) rfl rfl) (@Ja _ _ _ _ _ (@pv _ 2 _ _ rfl (.inl rfl) rfl rfl) (@Ja _ _ _ _ _ (@pv _ 3 _ _ rfl (.inl rfl) rfl rfl) (@Ja _ _ _ _ _ (@pv _ 4 _ _ rfl (.inl rfl) rfl rfl) (@Jc _) rfl) rfl) rfl) rfl) rfl rfl rfl) rfl) (@Jd _ _ _ _ _ (@Jt _ _ 6 _ _ _ _ JaE.nd rfl (Or.inl rfl) (@Jj _ _ _ _ _ _ _ _ (@Y2 _) (@Yk _ _ _ _ _ (@pv _ 0 _ _ rfl (.inl rfl) rfl rfl) rfl) (@pv _ 3 _ _ rfl (.inl rfl) rfl rfl)) rfl (.inl rfl)) (@Jd _ _ _ _ _ (@JH _ _ _ _ (@Jn _ _ _ _ _ _ _ _ _ _ _ _ _ _ _ T.JaM (JcT T) (hr.mono (by decide)) Yz (@Ja _ _ _ _ _ (@pv _ 5 _ _ rfl (.inl rfl) rfl rfl) (@Ja _ _ _ _ _ (@Jn _ _ _ _ _ _ _ _ _ _ _ _ _ _ _ T.JaA (JbN T) (hr.mono (by decide)) JL (@Ja _ _ _ _ _ (@Jn _ _ _ _ _ _ _ _ _ _ _ _ _ _ _ T.JeV (Jic T) (hr.mono (by decide)) Y0 (@Ja _ _ _ _ _ (@pv _ 4 _ _ rfl (.inl rfl) rfl rfl) (@Jc _) rfl) rfl (by decide) rfl rfl) (@Ja _ _ _ _ _ (@pv _ 3 _ _ rfl (.inl rfl) rfl rfl) (@Ja _ _ _ _ _ (@pv _ 6 _ _ rfl (.inl rfl) rfl rfl) (@Jc _) rfl) rfl) rfl) rfl (by decide) rfl rfl) (@Jc _) rfl) rfl) rfl (by decide) rfl rfl) rfl) (@Jd _ _ _ _ _ (@JN _ _ _ _ _ _ _ _ (@Jdx _ _ _ _ _ _ (@Jcx _ _ _ _ _ (@Jn _ _ _ _ _ _ _ _ _ _ _ _ _ _ _ T.JcD (JdR T) (hr.mono (by decide)) Y0 (@Ja _ _ _ _ _ (@Yk _ _ _ _ _ (@pv _ 0 _ _ rfl (.inl rfl) rfl rfl) rfl) (@Ja _ _ _ _ _ (@pv _ 1 _ _ rfl (.inl rfl) rfl rfl) (@Ja _ _ _ _ _ (@pv _ 2 _ _ rfl (.inl rfl) rfl rfl) (@Jc _) rfl) rfl) rfl) rfl (by decide) rfl rfl)) (by first | exact Zm _ (by decide) (by decide) | rfl)) (@Jh _ _ _ (@Ju _ _ _ _ (@JcR _ _ _))) (@Jy _)) (@Jd _ _ _ _ _ (@Yt _ _ _ _ _ _ _ _ PassesOwn.leaving rfl (@JcQ _ _ _ _ (@YX _ _ _ _ _ (@Ja _ _ _ _ _ (@Jb _ _ _ _) (@Ja _ _ _ _ _ (@pv _ 5 _ _ rfl (.inl rfl) rfl rfl) (@Jc _) rfl) rfl))) (@J8 _ _ 7 _ JaE.nd rfl (Or.inl rfl) (.inl rfl)) (@Jh _ _ _ (@JN _ _ _ _ _ _ _ _ (@Js _ _ _ _ _ _ _ _ (@JoU _) (@pv _ 7 _ _ rfl (.inl rfl) rfl rfl) (@Jn _ _ _ _ _ _ _ _ _ _ _ _ _ _ _ T.JaA (JbN T) (hr.mono (by decide)) JL (@Ja _ _ _ _ _ (@pv _ 4 _ _ rfl (.inl rfl) rfl rfl) (@Ja _ _ _ _ _ (@pv _ 3 _ _ rfl (.inl rfl) rfl rfl) (@Ja _ _ _ _ _ (@pv _ 6 _ _ rfl (.inl rfl) rfl rfl) (@Jc _) rfl) rfl) rfl) rfl (by decide) rfl rfl) (JC _)) (@Jh _ _ _ (@JN _ _ _ _ _ _ _ _ (@JbU _ _ _ (@JV _ _ _ _ _ _ _ _ _ _ _ _ _ _ _ _ _ _ _ _ (@pv _ 0 _ _ rfl (.inl rfl) rfl rfl) T.JE T.ZF.m (Jd2 T) (hr.mono (by decide)) T.ZF.b .nil JL (@Ja _ _ _ _ _ (@pv _ 1 _ _ rfl (.inl rfl) rfl rfl) (@Ja _ _ _ _ _ (@pv _ 2 _ _ rfl (.inl rfl) rfl rfl) (@Ja _ _ _ _ _ (@Jn _ _ _ _ _ _ _ _ _ _ _ _ _ _ _ T.Jfv (JkB T) (hr.mono (by decide)) Y0 (@Ja _ _ _ _ _ (@pv _ 3 _ _ rfl (.inl rfl) rfl rfl) (@Ja _ _ _ _ _ (@pv _ 6 _ _ rfl (.inl rfl) rfl rfl) (@Ja _ _ _ _ _ (@pv _ 4 _ _ rfl (.inl rfl) rfl rfl) (@Ja _ _ _ _ _ (@pv _ 5 _ _ rfl (.inl rfl) rfl rfl) (@Ja _ _ _ _ _ (@pv _ 7 _ _ rfl (.inl rfl) rfl rfl) (@Jc _) rfl) rfl) rfl) rfl) rfl) rfl (by decide) rfl rfl) (@Ja _ _ _ _ _ (@pv _ 4 _ _ rfl (.inl rfl) rfl rfl) (@Jc _) rfl) rfl) rfl) rfl) rfl rfl rfl) (by intro _; rfl)) (@Jh _ _ _ (@Ju _ _ _ _ (@pv _ 7 _ _ rfl (.inl rfl) rfl rfl))) (@Jy _))) (@Jy _))) (by intro _; rfl)) (@Jh _ _ _ (@Ju _ _ _ _ (@JcR _ _ _)))))))),?_⟩
  try dsimp only [cxK,Jes]
  obtain ⟨dx,l,rs,h1,h2,h3,h4⟩:=B.at_;refine ⟨_,rfl,k,dx,_,rfl,h1,rfl,_,rfl,_,rfl,_,rfl,_,rfl,k,b,z,x,m,north,ps,zs,gs,c,t,rfl,tz,tx,B,qe,fun hok=>?_⟩;obtain ⟨hz,hm,hn,hx⟩:=hok;obtain ⟨r,rfl⟩:=JcB hx;obtain ⟨j,rfl⟩:∃ j:Nat,m=(j:Int):=⟨m.toNat,by omega⟩
  have qb:=qb hz hm hn r rfl;have q:=fun hb H' e=>q hz hm hn r rfl hb H' e
  simp only [Int.toNat_natCast] at q;have t1:=B.t1;have c1:=B.c1;have ev:=Jfq (z:=z) (m:=j) (zs:=zs.map (·.2)) (gs:=gs);have eo:∀ r:Bool,(if r then north else c - north)=own c north r:=fun r=>rfl
  refine ⟨_,rfl,k,_,dx,_,.int c,rfl,h1,T.JE,T.Y8,rfl,_,rfl,_,_,rfl,rfl,?_⟩;refine ⟨_,rfl,_,rfl,hs r,rfl,Zg r,fun r' hr'=>?_,fun h=>by rw [YG] at h; cases h⟩;obtain rfl:=YH hr';refine ⟨_,rfl,_,rfl,!r,north,c - north,rfl,bid,_,rfl,fun hb=>?_,qb⟩;have q:=q hb;have hb:0≤bid∧bid≤own c north (!r):=hb;refine ⟨_,rfl,k,_,dx,_,.ref b,rfl,h1,T.JE,T.Yh,rfl,_,rfl,_,rfl,b,z,j,ps,zs,gs,rfl,tz,B.B.zl,B.B.B,fun h=>absurd hz h,fun _ h=>absurd (by omega) h,fun _ _ H1 e1=>?_⟩;by_cases he:YO (zs.map (·.2)) gs j z
  ·obtain ⟨y,hy⟩:=ev.1 he;rw [hy];have e:ansV (zs.map (·.2)) gs c j z north r bid=.non:=by unfold ansV; rw [if_pos he]
   rw [e] at q;exact ⟨_,rfl,Y9 (q H1 e1)⟩
  ·rw [ev.2 he];refine ⟨_,rfl,ZJ ?_⟩;obtain ⟨i,rfl⟩:∃ i,j=i + 1:=⟨j - 1,by have:j≠0:=fun h=>he (.inr (.inl h)); omega⟩
   have e:ansV (zs.map (·.2)) gs c (i + 1) z north r bid=Jn5 (Jc5 (Jp (zs.map (·.2))) (gB gs) c i z north r bid):=by unfold ansV; rw [if_neg he]; rfl
   rw [e] at q;have hon:0≤own c north r:=by unfold own; split <;> omega
   refine ⟨_,rfl,by show 2≤sizeLine; decide,fun tp ntp=>⟨tp,rfl,⟨_,JT.of Jf⟩,?_⟩⟩;have ht:upd H1 tp (.tup [.int 0,.int bid]) tp=some (.tup [.int 0,.int bid]):=Jf;have e2:=e1.trans (Jg.upd (o:=.tup [.int 0,.int bid]) ntp);generalize upd H1 tp (.tup [.int 0,.int bid])=H2 at ht e2;refine JeP (xs:=[.int 0,.int bid]) (fun n σ H3=>Jg H H3∧H3 tp=some (.tup [.int 0,.int bid])∧(0 < n→¬ JaZ (Jp (zs.map (·.2))) (gB gs) c i z north r bid 0=true)∧(1 < n→¬ (bid≤own c north r∧JaZ (Jp (zs.map (·.2))) (gB gs) c i z north r bid bid=true))∧∃ v,σ=[some (.ref k),some (.str z),some (.int ((i:Int) + 1)),some (.int north),some (.str (hs r)),some (.int bid),some (.int (c - north)),v])
    ⟨e2,ht,fun h=>absurd h (by decide),fun h=>absurd h (by decide),none,rfl⟩ (fun n σ H3 _ p=>JT.of p.2.1) ?_ ?_
   ·rintro n x σ H3 hx ⟨e3,ht3,hf0,hf1,v,rfl⟩;obtain ⟨an,rfl,han⟩:∃ an:Int,x=.int an∧((n=0∧an=0)∨(n=1∧an=bid)):=by
     match n,hx with
     | 0,h=>exact ⟨0,(Option.some.inj h).symm,.inl ⟨rfl,rfl⟩⟩
     | 1,h=>exact ⟨bid,(Option.some.inj h).symm,.inr ⟨rfl,rfl⟩⟩
     | n + 2,h=>cases h
    have ha0:0≤an:=by rcases han with h | h <;> omega
    refine ⟨_,rfl,_,rfl,_,rfl,_,rfl,r,north,c - north,rfl,_,_,rfl,rfl,_,rfl,Yw (fun hc=>?_) (fun hc=>?_)⟩
    ·have hc:an≤own c north r:=of_decide_eq_true hc;refine ⟨_,rfl,k,dx,_,rfl,e3 _ _ h1,rfl,_,rfl,_,rfl,_,rfl,_,rfl,_,rfl,_,rfl,_,rfl,north,c - north,hs r,bid,an,rfl,Zg r,?_,?_,?_,?_⟩
     ·exact fun h=>absurd ⟨hn.1,by omega,by omega⟩ h
     ·exact fun _ h=>(by rw [YG] at h; cases h)
     ·intro r' hr' _ h;obtain rfl:=YH hr';refine absurd ⟨⟨hb.1,?_⟩,ha0,hc⟩ h;have:=hb.2; unfold own at this; cases r <;> simpa using this
     ·intro r' hr' _ _ p H4 e4 hp;obtain rfl:=YH hr';obtain ⟨s',hs'⟩:=JjG north (c - north) r bid an;rw [hs'] at hp;have ab:=Jmx (r:=r) hn hb.1 hb.2 ha0 hc;refine ⟨_,rfl,k,b,p,z,i,_,_,r,_,s',ps,zs,gs,c,t,rfl,hp,B.same (e3.trans e4),hz,by omega,ab,he,fun H5 e5=>?_⟩;have e35:=(e3.trans e4).trans e5;cases hwin:JaZ (Jp (zs.map (·.2))) (gB gs) c i z north r bid an with
      | true =>
       have hwin':=hwin;unfold JaZ at hwin';rw [hwin'];refine ⟨_,rfl,Y9 ⟨_,rfl,?_⟩⟩;have ea:Jc5 (Jp (zs.map (·.2))) (gB gs) c i z north r bid=some an:=by
        unfold Jc5;rcases han with ⟨rfl,rfl⟩ | ⟨rfl,rfl⟩
        ·rw [if_pos hwin]
        ·rw [if_neg (hf0 (by decide)),if_pos ⟨hc,hwin⟩]
       rw [ea] at q;exact q H5 e35
      | false =>
       have hwin':=hwin;unfold JaZ at hwin';rw [hwin'];refine ⟨_,rfl,ZJ ⟨e35,e5 _ _ (e4 _ _ ht3),fun h=>?_,fun h=>?_,_,rfl⟩⟩
       ·rcases han with ⟨rfl,rfl⟩ | ⟨rfl,rfl⟩
        ·rw [hwin]; exact Bool.false_ne_true
        ·exact hf0 (by decide)
       ·rcases han with ⟨rfl,rfl⟩ | ⟨rfl,rfl⟩
        ·exact absurd h (by decide)
        ·rw [hwin]; exact fun h=>Bool.false_ne_true h.2
    ·have hc:¬ an≤own c north r:=fun h=>hc (decide_eq_true h)
     refine ⟨e3,ht3,fun h=>?_,fun h=>?_,_,rfl⟩
     ·rcases han with ⟨rfl,rfl⟩ | ⟨rfl,rfl⟩
      ·exact absurd hon hc
      ·exact hf0 (by decide)
     ·rcases han with ⟨rfl,rfl⟩ | ⟨rfl,rfl⟩
      ·exact absurd h (by decide)
      ·exact fun h=>hc h.1
   ·rintro σ H3 ⟨e3,ht3,hf0,hf1,v,rfl⟩;have ea:Jc5 (Jp (zs.map (·.2))) (gB gs) c i z north r bid=none:=by
     rw [Jlk];exact ⟨hf0 (by show 0 < 2; decide),hf1 (by show 1 < 2; decide)⟩
    rw [ea] at q;exact q H3 e3
end
def JlA (K:PySem.W.Frag):Sp:=fun vs H Q _=>∃ (t:Addr) (z:Str) (ps:List Str) (zs:List (V×(Str×Str))) (gs:List Str),vs=[.ref t,.str z]∧Ground K H t ps zs gs∧∀ (p:Addr) (ws:List Str) (H':Hp),Jg H H'→H' p=some (.lst (ws.map V.str))→ws.Perm (Jp (zs.map (·.2)) z)→ws.Pairwise sle→Q (.ref p) H'
def JdH (z:Str) (n:Int) (zs:List (Str×Str)) (gs:List Str):Str:=if z∈gs then "north" else if n=0∨Jp zs z=[] then "south" else ""
def JnK (K:PySem.W.Frag):Sp:=fun vs H Q _=>∃ (t:Addr) (z:Str) (n:Int) (ps:List Str) (zs:List (V×(Str×Str))) (gs:List Str),vs=[.ref t,.str z,.int n]∧Ground K H t ps zs gs∧∀ H',Jg H H'→Q (.str (JdH z n (zs.map (·.2)) gs)) H'
def Jlu:Sp:=fun vs H Q _=>∃ c:Int,vs=[.int c]∧∀ (n:Int) (H':Hp),0≤n→n≤20→Jg H H'→Q (.int n) H'
def Jm4:Sp:=fun vs H Q _=>∃ c:Int,vs=[.int c]∧∀ (n:Int) (H':Hp),0≤n→n≤30→Jg H H'→Q (.int n) H'
theorem JmP {xs:List Int} (hl:xs.length=8) (hb:∀ x∈xs,0≤x∧x≤20) (c:Int):∃ y:Int,atI (xs.map V.int) (c % 8)=some (.int y)∧0≤y∧y≤20:=by
 obtain ⟨j,hj⟩:∃ j:Nat,c % 8=(j:Int):=⟨(c % 8).toNat,by omega⟩
 have hj8:j < xs.length:=by omega
 refine ⟨xs[j],?_,hb _ (List.getElem_mem hj8)⟩;rw [hj];refine Ys ?_;rw [List.getElem?_map,List.getElem?_eq_getElem hj8];rfl
section
variable {K:PySem.W.Frag} {C CB:Addr} {H:Hp} {σ:St} {i j l:Nat} {E:XK} {Q:VK}
theorem JfK {H4:Hp} {l1 l2 l3 x dx:Addr} {ps:List Str} {zs:List (V×(Str×Str))} {gs:List Str} (e4:Jg H H4) (k1:H4 l1=some (.lst (ps.map V.str))) (k2:H4 l2=some (.lst (zs.map (·.1)))) (k3:H4 l3=some (.lst (gs.map V.str))) (hP:Yq K H4 zs) (G:Jbk ps (zs.map (·.2)) gs)
  (nx:H4 x=none) (ndx:H4 dx=none) (q:∀ ps' zs' gs' H',Jg H H'→Bd K C H' x ps' zs' gs'→ps'.Perm ps→ps'.Pairwise sle→zs'.Perm zs→(zs'.map (·.2)).Pairwise ple→gs'.Perm gs→gs'.Pairwise sle→Q .non H') :
  JiW K C (.ref x :: ([.ref l1,.ref l2,.ref l3] ++ [])) (upd (upd H4 dx (.own x)) x (.ins C dx [])) Q E:=by
 have e5:Jg H4 (upd (upd H4 dx (.own x)) x (.ins C dx [])):=fun b u e=>by
  rw [Jq (Jr e nx),Jq (Jr e ndx)]; exact e
 refine ⟨x,l1,l2,l3,dx,ps,zs,gs,rfl,Jf,Jo.of (e5 _ _ k1),Jo.of (e5 _ _ k2),YL hP e5,Jo.of (e5 _ _ k3),G,fun H' ps' zs' gs' bt pp ps zp zs gp gs B=>q ps' zs' gs' H' (fun b u e=>?_) ⟨B,G.perm pp (zp.map _) gp⟩ pp ps zp zs gp gs⟩;have e6:=e4 b u e;exact bt b u (Jr e6 nx) (e5 b u e6)
theorem Jg5 {x0 x dx:Addr} {b:Addr} {ps:List Str} {zs:List (V×(Str×Str))} {gs:List Str} {c t:Int} (B:Bd K C H b ps zs gs) (hc:0≤c∧c≤20) (ht:0≤t∧t≤30)
  (nx:H x=none) (ndx:H dx=none) (q:∀ H',Jg H H'→Bk K C CB H' x b ps zs gs c t.toNat (t.toNat + 1)→Q .non H') :
  JhK K C CB x0 (.ref x :: ([.ref b,.int c,.int t] ++ [])) (upd (upd H dx (.own x)) x (.ins CB dx [])) Q E:=by
 have e5:Jg H (upd (upd H dx (.own x)) x (.ins CB dx [])):=fun b u e=>by
  rw [Jq (Jr e nx),Jq (Jr e ndx)]; exact e
 obtain ⟨bdx,_,_,_,hb,_⟩:=id B.B;refine ⟨x,b,dx,c,t,ps,zs,gs,rfl,Jf,(fun e=>by rw [← e,nx] at hb; cases hb),B.same e5,fun h=>absurd hc h,fun _ h=>absurd ht h,fun _ _ H' bt Bk'=>q H' (fun b u e=>?_) Bk'⟩;exact bt b u (Jr e nx) (e5 b u e)
theorem Bk.ins {k b:Addr} {ps:List Str} {zs:List (V×(Str×Str))} {gs:List Str} {c:Int} {t n:Nat} (h:Bk K C CB H k b ps zs gs c t n):∃ dx l,H k=some (.ins CB dx [("board",.ref b),("coins",.int c),("turns",.int t),("needs",.ref l)]):=let ⟨dx,l,_,h1,_⟩:=h.at_; ⟨dx,l,h1⟩
end
theorem JdI {zs zs':List (Str×Str)} (h:zs'.Perm zs) (p:Str):(Jp zs' p).Perm (Jp zs p):=(h.filter _).map _
theorem Jii {x n:Int} (h:0 < n):0≤x % n∧x % n < n:=⟨Int.emod_nonneg _ (by omega),Int.emod_lt_of_pos _ h⟩
theorem Jlj {ps:List Str} (h:1≤ps.length) (x:Int):∃ p,atI (ps.map V.str) (x % ((ps.map V.str).length:Int))=some (.str p)∧p∈ps:=by
 rw [List.length_map];have hb:=Jii (x:=x) (n:=(ps.length:Int)) (by omega);exact ⟨_,JhA hb.1 hb.2,JfI hb.1 hb.2⟩
theorem Jd3 {zs:List (Str×Str)} (h:zs.Pairwise ple) (p:Str):(Jp zs p).Pairwise sle:=by
 unfold Jp;rw [List.pairwise_map];refine List.Pairwise.imp_of_mem ?_ (h.filter _);intro x y hx hy hxy;have e1:x.1=p:=of_decide_eq_true (List.mem_filter.mp hx).2;have e2:y.1=p:=of_decide_eq_true (List.mem_filter.mp hy).2;have z:(if y.1.cps.toList=x.1.cps.toList then decide (y.2.cps.toList < x.2.cps.toList) else decide (y.1.cps.toList < x.1.cps.toList))=false:=hxy;rw [if_pos (by rw [e1,e2])] at z;exact z
def Jm1 (K:PySem.W.Frag):Sp:=fun vs H Q _=>∃ (t:Addr) (c:Int) (ps:List Str) (zs:List (V×(Str×Str))) (gs:List Str),vs=[.ref t,.int c]∧Ground K H t ps zs gs∧∀ (p:Str) (H':Hp),p∈ps→Jg H H'→Q (.str p) H'
theorem Jns (r:Bool):inV (.str (hs r)) [.str "north",.str "south"]=true:=by cases r <;> decide +kernel
theorem Jkd {i:Nat} {y:V} (h:[V.str "north",V.str "south"][i]?=some y):∃ b:Bool,y=.str (hs b):=by
 match i,h with
 | 0,h=>exact ⟨true,(Option.some.inj h).symm⟩
 | 1,h=>exact ⟨false,(Option.some.inj h).symm⟩
 | i + 2,h=>cases h
def JeR:V→Bool
 | .non=>true
 | .int _=>true
 | .str _=>true
 | _=>false
def Jlt:Sp:=fun vs H Q _=>∃ i:Int,vs=[.int i]∧Q (.bl true) H
def JlC:Sp:=fun vs H Q _=>∃ x:V,vs=[x,x]∧JeR x=true∧Q (.bl true) H
section
variable {P:Program} {w:World} {K:PySem.W.Frag} {mg:Str→Option Value} {base:Heap}
theorem Jl6 (T:Txt K mg):JM P w K mg base Y6 1 T.JgC T.Jff ["_law_found"] Jlt:=by
 refine T.JgN.F.ok JlQ (fun vs H Q E h=>?_) (fun cdv A outer s H vs Q E hr h=>?_)
 ·obtain ⟨i,rfl,_⟩:=h;rfl
 ·obtain ⟨i,rfl,q⟩:=h;refine ⟨_,(@Jh _ _ _ (@Ju _ _ _ _ (@Jh5 _ _ _ _ _ _ _ (@JI _ _ _ _ _ _ _ _ _ (@JbQ _) rfl T.Jaj PyProof.Rows.boot_isinstance (@Ja _ _ _ _ _ (@pv _ 0 _ _ rfl (.inl rfl) rfl rfl) (@Ja _ _ _ _ _ (@JfE _ _ _ _ rfl T.JjO PyProof.Rows.boot_int (by decide) (by decide)) (@Jc _) rfl) rfl) (by decide) (by decide) rfl rfl) (@Jh3 _ _ _ _ _ (@Jn4 _ _ _ _ (@JI _ _ _ _ _ _ _ _ _ (@JbQ _) rfl T.Jaj PyProof.Rows.boot_isinstance (@Ja _ _ _ _ _ (@pv _ 0 _ _ rfl (.inl rfl) rfl rfl) (@Ja _ _ _ _ _ (@JfE _ _ _ _ rfl T.JkJ PyProof.Rows.boot_bool (by decide) (by decide)) (@Jc _) rfl) rfl) (by decide) (by decide) rfl rfl)))))),?_⟩;refine ⟨_,rfl,_,_,_,_,rfl,⟨_,.inl rfl⟩,.int i,Joe,_,rfl,Y9 ?_⟩;exact ⟨_,rfl,_,_,_,_,rfl,⟨_,.inl rfl⟩,.int i,Jof,_,rfl,q⟩
theorem Jfd (T:Txt K mg):JM P w K mg base Y6 2 T.JgH T.Jfk ["_law_found", "_law_due"] JlC:=by
 refine T.JdG.F.ok JlT (fun vs H Q E h=>?_) (fun cdv A outer s H vs Q E hr h=>?_)
 ·obtain ⟨_,rfl,_⟩:=h;rfl
 ·obtain ⟨x,rfl,hx,q⟩:=h;refine ⟨_,(@Jd _ _ _ _ _ (@JN _ _ _ _ _ _ _ _ (@Jdx _ _ _ _ _ _ (@Jh6 _ _ _ _ _ (@pv _ 1 _ _ rfl (.inl rfl) rfl rfl)) (by first | exact Zm _ (by decide) (by decide) | rfl)) (@Jh _ _ _ (@Ju _ _ _ _ (@Jh4 _ _ _ _ _ _ (@Jh6 _ _ _ _ _ (@pv _ 0 _ _ rfl (.inl rfl) rfl rfl)) (by first | exact Zm _ (by decide) (by decide) | rfl)))) (@Jy _)) (@Jd _ _ _ _ _ (@JN _ _ _ _ _ _ _ _ (@JbU _ _ _ (@JI _ _ _ _ _ _ _ _ _ (@JbQ _) rfl T.Jaj PyProof.Rows.boot_isinstance (@Ja _ _ _ _ _ (@pv _ 1 _ _ rfl (.inl rfl) rfl rfl) (@Ja _ _ _ _ _ (@JfE _ _ _ _ rfl T.JjM PyProof.Rows.boot_str (by decide) (by decide)) (@Jc _) rfl) rfl) (by decide) (by decide) rfl rfl) (by intro _; rfl)) (@Jh _ _ _ (@Ju _ _ _ _ (@Jh5 _ _ _ _ _ _ _ (@JI _ _ _ _ _ _ _ _ _ (@JbQ _) rfl T.Jaj PyProof.Rows.boot_isinstance (@Ja _ _ _ _ _ (@pv _ 0 _ _ rfl (.inl rfl) rfl rfl) (@Ja _ _ _ _ _ (@JfE _ _ _ _ rfl T.JjM PyProof.Rows.boot_str (by decide) (by decide)) (@Jc _) rfl) rfl) (by decide) (by decide) rfl rfl) (@Jh3 _ _ _ _ _ (@JeL _ _ _ _ _ _ _ _ (@Yc _) (@pv _ 0 _ _ rfl (.inl rfl) rfl rfl) (@pv _ 1 _ _ rfl (.inl rfl) rfl rfl) (JC _)))))) (@Jy _)) (@Jh _ _ _ (@Ju _ _ _ _ (@Jh5 _ _ _ _ _ _ _ (@Jn _ _ _ _ _ _ _ _ _ _ _ _ _ _ _ T.JgN (Jl6 T) (hr.mono (by decide)) JL (@Ja _ _ _ _ _ (@pv _ 0 _ _ rfl (.inl rfl) rfl rfl) (@Jc _) rfl) rfl (by decide) rfl rfl) (@Jh3 _ _ _ _ _ (@JeL _ _ _ _ _ _ _ _ (@Yc _) (@pv _ 0 _ _ rfl (.inl rfl) rfl rfl) (@pv _ 1 _ _ rfl (.inl rfl) rfl rfl) (JC _)))))))),?_⟩;refine ⟨_,rfl,_,rfl,?_⟩;cases x with
  | non =>
   refine Zr (by rfl) ⟨_,rfl,?_⟩;exact q
  | int i =>
   refine YA (by rfl) ⟨_,rfl,_,_,_,_,rfl,⟨_,.inl rfl⟩,.int i,Jod,_,rfl,ZJ ?_⟩;refine ⟨_,rfl,i,rfl,_,rfl,Y9 ⟨_,rfl,_,rfl,rfl,?_⟩⟩;rw [decide_eq_true rfl];exact q
  | str z =>
   refine YA (by rfl) ⟨_,rfl,_,_,_,_,rfl,⟨_,.inl rfl⟩,.str z,JkO,_,rfl,Y9 ?_⟩;refine ⟨_,rfl,_,_,_,_,rfl,⟨_,.inl rfl⟩,.str z,JkO,_,rfl,Y9 ⟨_,rfl,_,rfl,rfl,?_⟩⟩;rw [decide_eq_true rfl];exact q
  | _=>exact absurd hx Bool.false_ne_true
theorem Jnf (T:Txt K mg):JM P w K mg base Y6 1 T.Jiw T.Jgz ["_law_ground_here", "_law_place"] (JlA K):=by
 refine T.JiI.F.ok Jm9 (fun vs H Q E h=>?_) (fun cdv A outer s H vs Q E hr h=>?_)
 ·obtain ⟨_,_,_,_,_,rfl,_⟩:=h;rfl
 ·obtain ⟨t,z,ps,zs,gs,rfl,G,q⟩:=h;have szl:sizeLine=16777216:=sizeLine_eq;refine ⟨_,(@Jh _ _ _ (@Ju _ _ _ _ (@JI _ _ _ _ _ _ _ _ _ (@Jbh _) rfl T.JaT PyProof.Rows.boot_sorted (@Ja _ _ _ _ _ (@Jcp _ _ _ _ _ _ _ 2 ["_law_start", "_law_end", "_law_place"] [1] _ _ _ _ ["_law_ground_here", "_law_place"] ((Jl JfB).names) (by decide +kernel) (@Yr _ _ _ _ (@JB _ _ _ _ _ _ _ (@YF _) (@pv _ 0 _ _ rfl (.inl rfl) rfl rfl) (@Jb _ _ _ _) (fun _ _=>rfl))) (fun _ _ _ _=>(show PG _ _ (Jiq K 2 _) from Jh0 rfl (@Jbt _ _ _ _ _ (@YK _ _ _ _ _ _ _ _ _ 0 (by decide +kernel) rfl rfl) (@Jbt _ _ _ _ _ (@YK _ _ _ _ _ _ _ _ _ 1 (by decide +kernel) rfl rfl) (@Jgr _) rfl) rfl))) (fun _ _ _ _=>(@Jgq _ _ _ (@Js _ _ _ _ _ _ _ _ (@Yc _) (@Yd _ _ _ _ _ _ _ _ _ 0 rfl rfl (by decide) (by decide)) (@JX _ _ _ _ _ _ _ _ _ 2 rfl rfl (by decide) (by decide)) (JC _)))) (fun _ _ _ _=>(@Yd _ _ _ _ _ _ _ _ _ 1 rfl rfl (by decide) (by decide))) rfl rfl rfl (by intro _; rfl)) (@Jc _) rfl) (by decide) (by decide) rfl rfl))),?_⟩;obtain ⟨pn,pl,pg,h1,h2,h3,h4,h5⟩:=G.at_;have hzl:zs.length≤40:=by have:=G.good.l1; rwa [List.length_map] at this
  have wl:∀ i,(Jp ((zs.map (·.2)).take i) z).length≤40:=fun i=>by
   unfold Jp;rw [List.length_map];refine Nat.le_trans (List.length_filter_le _ _) ?_;rw [List.length_take,List.length_map];omega
  refine ⟨_,rfl,t,_,_,.ref pl,rfl,rfl,JT.of h1,rfl,pl,rfl,⟨_,Jo.of h3⟩,fun D hD=>?_⟩;refine JdY (xs:=zs.map (·.1)) (fun i ys H2=>Jg H H2∧H2 D=some (.lst ys)∧ys=(Jp ((zs.map (·.2)).take i) z).map V.str) rfl rfl (fun i ys H2 p=>Jo.of (p.1 _ _ h3)) ⟨Jg.upd hD,Jf,by simp [Jp]⟩ (fun i ys H2 p=>p.2.1) ?_ ?_
  ·rintro i x ys H2 hx ⟨e2,hy,rfl⟩;rw [List.getElem?_map] at hx;obtain ⟨y,hy1,rfl⟩:=Option.map_eq_some_iff.mp hx;obtain ⟨a,ea,ha⟩:=h4 y (List.mem_of_getElem? hy1);have step:(zs.map (·.2)).take (i + 1)=(zs.map (·.2)).take i ++ [y.2]:=by
    rw [List.take_succ,List.getElem?_map,hy1]; rfl
   have wstep:Jp ((zs.map (·.2)).take (i + 1)) z=Jp ((zs.map (·.2)).take i) z ++ (if y.2.1=z then [y.2.2] else []):=by
    unfold Jp;rw [step,List.filter_append,List.map_append];by_cases h:y.2.1=z
    ·simp [h]
    ·simp [h]
   have wli:=wl i;refine ⟨a,.str y.2.1,.str y.2.2,ea,e2.tup ha,_,rfl,_,rfl,rfl,_,rfl,?_⟩;by_cases h:y.2.1=z
   ·refine Zr (by rw [h]; exact decide_eq_true rfl) ⟨_,rfl,hy,by rw [List.length_map]; omega,fun b' u e=>?_,Jf,?_⟩
    ·rw [Jq (Jr e hD)]; exact e2 b' u e
    ·rw [wstep,if_pos h,List.map_append]; rfl
   ·refine YA (decide_eq_false (fun e=>h (V.str.inj e))) ⟨e2,hy,?_⟩;rw [wstep,if_neg h,List.append_nil]
  ·rintro ys H2 ⟨e2,hy,rfl⟩;rw [List.length_map] at hy;rw [show zs.length=(zs.map (·.2)).length by simp] at hy;have wll:=wl (zs.map (·.2)).length;rw [List.take_length] at hy wll;exact ⟨D,_,rfl,Jo.of hy,by omega,fun p ws np hp hs=>q p ws _ (e2.trans (Jg.upd np)) Jf hp hs⟩
theorem Jn9 (T:Txt K mg):JM P w K mg base Y6 2 T.JjX T.Jis ["_law_ground_here", "_law_place", "_law_left_here"] (JnK K):=by
 refine T.Jkb.F.ok JnR (fun vs H Q E h=>?_) (fun cdv A outer s H vs Q E hr h=>?_)
 ·obtain ⟨_,_,_,_,_,_,rfl,_⟩:=h;rfl
 ·obtain ⟨t,z,n,ps,zs,gs,rfl,G,q⟩:=h;refine ⟨_,(@Jd _ _ _ _ _ (@JN _ _ _ _ _ _ _ _ (@Js _ _ _ _ _ _ _ _ (@Jg2 _) (@pv _ 1 _ _ rfl (.inl rfl) rfl rfl) (@JB _ _ _ _ _ _ _ (@YF _) (@pv _ 0 _ _ rfl (.inl rfl) rfl rfl) (@Jb _ _ _ _) (fun _ _=>rfl)) (by with_unfolding_all rfl)) (@Jh _ _ _ (@Ju _ _ _ _ (@JS _ _ _ _))) (@Jy _)) (@Jd _ _ _ _ _ (@JN _ _ _ _ _ _ _ _ (@PW.pt _ _ _ (@JbM _ _ _ _ _ _ _ (@Js _ _ _ _ _ _ _ _ (@Yc _) (@pv _ 2 _ _ rfl (.inl rfl) rfl rfl) (@Jb _ _ _ _) (JC _)) (@Ja4 _ _ _ _ (@Js _ _ _ _ _ _ _ _ (@Jh9 _ hr.units0) (@Jn _ _ _ _ _ _ _ _ _ _ _ _ _ _ _ T.JiI (Jnf T) (hr.mono (by decide)) JL (@Ja _ _ _ _ _ (@pv _ 0 _ _ rfl (.inl rfl) rfl rfl) (@Ja _ _ _ _ _ (@pv _ 1 _ _ rfl (.inl rfl) rfl rfl) (@Jc _) rfl) rfl) rfl (by decide) rfl rfl) (@Ye _ _ _ _ (@Jc _)) (JC _))))) (@Jh _ _ _ (@Ju _ _ _ _ (@JS _ _ _ _))) (@Jy _)) (@Jh _ _ _ (@Ju _ _ _ _ (@JS _ _ _ _))))),?_⟩;obtain ⟨pn,pl,pg,h1,h2,h3,h4,h5⟩:=G.at_;refine ⟨_,rfl,_,rfl,t,_,_,.ref pg,rfl,rfl,JT.of h1,rfl,pg,_,rfl,.inl (Jo.of h5),rfl,Jdd gs,_,rfl,?_⟩;rw [if_neg Bool.false_ne_true,JdT];by_cases hg:z∈gs
  ·refine Zr (decide_eq_true hg) ?_;have e:JdH z n (zs.map (·.2)) gs = "north":=by unfold JdH; rw [if_pos hg]
   rw [e] at q;exact q H (Jg.refl _)
  ·refine YA (decide_eq_false hg) ⟨_,rfl,rfl,_,rfl,?_⟩;by_cases h0:n=0
   ·have e:JdH z n (zs.map (·.2)) gs = "south":=by unfold JdH; rw [if_neg hg,if_pos (.inl h0)]
    rw [e] at q;exact Zr (by rw [h0]; exact decide_eq_true rfl) (Y9 (q H (Jg.refl _)))
   ·refine YA (decide_eq_false fun e=>h0 (V.int.inj e)) ⟨_,rfl,_,rfl,t,z,ps,zs,gs,rfl,G,fun p ws H' e' hp wp _=>⟨by show 0≤sizeLine; decide,fun l nl=>⟨p,l,_,rfl,rfl,(Jg.upd nl).seq (Jo.of hp),Jo.of Jf,_,rfl,?_⟩⟩⟩;by_cases hw:Jp (zs.map (·.2)) z=[]
    ·have e:JdH z n (zs.map (·.2)) gs = "south":=by unfold JdH; rw [if_neg hg,if_pos (.inr hw)]
     rw [e] at q;rw [hw] at wp;exact Zr (by rw [wp.eq_nil]; rfl) (q _ (e'.trans (Jg.upd nl)))
    ·have e:JdH z n (zs.map (·.2)) gs = "":=by unfold JdH; rw [if_neg hg,if_neg (fun h=>h.elim h0 hw)]
     rw [e] at q;refine YA ?_ (q _ (e'.trans (Jg.upd nl)));cases ws with
     | nil=>exact absurd (wp.symm.eq_nil) hw
     | cons _ _=>rfl
theorem Jl7 (T:Txt K mg):JM P w K mg base Y6 1 T.JgD T.Jfg ["_law_cell"] Jlu:=by
 refine T.JgO.F.ok JlR (fun vs H Q E h=>?_) (fun cdv A outer s H vs Q E hr h=>?_)
 ·obtain ⟨_,rfl,_⟩:=h;rfl
 ·obtain ⟨c,rfl,q⟩:=h;refine ⟨_,(@Jd _ _ _ _ _ (@JN _ _ _ _ _ _ _ _ (@Js _ _ _ _ _ _ _ _ (@Yc _) (@Jj _ _ _ _ _ _ _ _ (@JQ _) (@Jj _ _ _ _ _ _ _ _ (@YE _) (@pv _ 0 _ _ rfl (.inl rfl) rfl rfl) (@Jb _ _ _ _)) (@Jb _ _ _ _)) (@Jb _ _ _ _) (JC _)) (@Jh _ _ _ (@Ju _ _ _ _ (@Jj _ _ _ _ _ _ _ _ (@JQ _) (@Jj _ _ _ _ _ _ _ _ (@YE _) (@pv _ 0 _ _ rfl (.inl rfl) rfl rfl) (@Jb _ _ _ _)) (@Jb _ _ _ _)))) (@Jy _)) (@Jh _ _ _ (@Ju _ _ _ _ (@JB _ _ _ _ _ _ _ (@JF _) (@Ye _ _ _ _ (@Ja _ _ _ _ _ (@Jb _ _ _ _) (@Ja _ _ _ _ _ (@Jb _ _ _ _) (@Ja _ _ _ _ _ (@Jb _ _ _ _) (@Ja _ _ _ _ _ (@Jb _ _ _ _) (@Ja _ _ _ _ _ (@Jb _ _ _ _) (@Ja _ _ _ _ _ (@Jb _ _ _ _) (@Ja _ _ _ _ _ (@Jb _ _ _ _) (@Ja _ _ _ _ _ (@Jb _ _ _ _) (@Jc _) rfl) rfl) rfl) rfl) rfl) rfl) rfl) rfl)) (@Jj _ _ _ _ _ _ _ _ (@JQ _) (@pv _ 0 _ _ rfl (.inl rfl) rfl rfl) (@Jb _ _ _ _)) (fun _ _=>rfl))))),?_⟩;refine ⟨_,rfl,_,_,rfl,rfl,⟨by decide,by decide⟩,_,_,rfl,rfl,(by show (0:Int) < 6; decide),rfl,_,rfl,Yw (fun _=>?_) (fun _=>?_)⟩
  ·exact ⟨_,rfl,_,_,rfl,rfl,⟨by decide,by decide⟩,_,_,rfl,rfl,(by show (0:Int) < 21; decide),q _ _ (by omega) (by omega) (Jg.refl _)⟩
  ·refine ⟨by show 8≤sizeLine; decide,fun l hl=>?_⟩;obtain ⟨y,hy,y0,y1⟩:=JmP (xs:=[5,3,4,6,2,1,0,7]) rfl (by decide) c;exact ⟨_,rfl,_,_,rfl,rfl,(by show (0:Int) < 8; decide),l,_,_,.int y,rfl,rfl,Jo.of Jf,hy,q _ _ y0 y1 (Jg.upd hl)⟩
theorem Jnh (T:Txt K mg):JM P w K mg base Y6 1 T.Jiy T.JgB ["_law_cell"] Jm4:=by
 refine T.JiK.F.ok Jna (fun vs H Q E h=>?_) (fun cdv A outer s H vs Q E hr h=>?_)
 ·obtain ⟨_,rfl,_⟩:=h;rfl
 ·obtain ⟨c,rfl,q⟩:=h;refine ⟨_,(@Jd _ _ _ _ _ (@JN _ _ _ _ _ _ _ _ (@Js _ _ _ _ _ _ _ _ (@Yc _) (@Jj _ _ _ _ _ _ _ _ (@JQ _) (@Jj _ _ _ _ _ _ _ _ (@YE _) (@pv _ 0 _ _ rfl (.inl rfl) rfl rfl) (@Jb _ _ _ _)) (@Jb _ _ _ _)) (@Jb _ _ _ _) (JC _)) (@Jh _ _ _ (@Ju _ _ _ _ (@Jj _ _ _ _ _ _ _ _ (@JQ _) (@Jj _ _ _ _ _ _ _ _ (@YE _) (@pv _ 0 _ _ rfl (.inl rfl) rfl rfl) (@Jb _ _ _ _)) (@Jb _ _ _ _)))) (@Jy _)) (@Jh _ _ _ (@Ju _ _ _ _ (@JB _ _ _ _ _ _ _ (@JF _) (@Ye _ _ _ _ (@Ja _ _ _ _ _ (@Jb _ _ _ _) (@Ja _ _ _ _ _ (@Jb _ _ _ _) (@Ja _ _ _ _ _ (@Jb _ _ _ _) (@Ja _ _ _ _ _ (@Jb _ _ _ _) (@Ja _ _ _ _ _ (@Jb _ _ _ _) (@Ja _ _ _ _ _ (@Jb _ _ _ _) (@Ja _ _ _ _ _ (@Jb _ _ _ _) (@Ja _ _ _ _ _ (@Jb _ _ _ _) (@Jc _) rfl) rfl) rfl) rfl) rfl) rfl) rfl) rfl)) (@Jj _ _ _ _ _ _ _ _ (@JQ _) (@pv _ 0 _ _ rfl (.inl rfl) rfl rfl) (@Jb _ _ _ _)) (fun _ _=>rfl))))),?_⟩;refine ⟨_,rfl,_,_,rfl,rfl,⟨by decide,by decide⟩,_,_,rfl,rfl,(by show (0:Int) < 6; decide),rfl,_,rfl,Yw (fun _=>?_) (fun _=>?_)⟩
  ·exact ⟨_,rfl,_,_,rfl,rfl,⟨by decide,by decide⟩,_,_,rfl,rfl,(by show (0:Int) < 31; decide),q _ _ (by omega) (by omega) (Jg.refl _)⟩
  ·refine ⟨by show 8≤sizeLine; decide,fun l hl=>?_⟩;obtain ⟨y,hy,y0,y1⟩:=JmP (xs:=[4,5,3,6,2,1,0,7]) rfl (by decide) c;exact ⟨_,rfl,_,_,rfl,rfl,(by show (0:Int) < 8; decide),l,_,_,.int y,rfl,rfl,Jo.of Jf,hy,q _ _ y0 (by omega) (Jg.upd hl)⟩
theorem Jng (T:Txt K mg):JM P w K mg base Y6 3 T.Jix T.JgA ["_law_ground_here", "_law_cell"] (Jm1 K):=by
 refine T.JiJ.F.ok JeG (fun vs H Q E h=>?_) (fun cdv A outer s H vs Q E hr h=>?_)
 ·obtain ⟨_,_,_,_,_,rfl,_⟩:=h;rfl
 ·obtain ⟨t,c,ps,zs,gs,rfl,G,q⟩:=h;refine ⟨_,(@Jd _ _ _ _ _ (@Jt _ _ 2 _ _ _ _ JeG.nd rfl (Or.inl rfl) (@JB _ _ _ _ _ _ _ (@YF _) (@pv _ 0 _ _ rfl (.inl rfl) rfl rfl) (@Jb _ _ _ _) (fun _ _=>rfl)) rfl (.inl rfl)) (@Jd _ _ _ _ _ (@Yt _ _ _ _ _ _ _ _ PassesOwn.never rfl (@Ze _ _ _ _ _ _ rfl T.Zu (@Ja _ _ _ _ _ (@JI _ _ _ _ _ _ _ _ _ (@Yp _) rfl T.ZQ PySem.boot_len (@Ja _ _ _ _ _ (@pv _ 2 _ _ rfl (.inl rfl) rfl rfl) (@Jc _) rfl) (by decide) (by decide) rfl rfl) (@Jc _) rfl) rfl) (@J8 _ _ 3 _ JeG.nd rfl (Or.inl rfl) (.inl rfl)) (@Jd _ _ _ _ _ (@Jt _ _ 4 _ _ _ _ JeG.nd rfl (Or.inl rfl) (@JB _ _ _ _ _ _ _ (@JF _) (@pv _ 2 _ _ rfl (.inl rfl) rfl rfl) (@Jj _ _ _ _ _ _ _ _ (@JQ _) (@Jj _ _ _ _ _ _ _ _ (@JP _) (@pv _ 1 _ _ rfl (.inl rfl) rfl rfl) (@pv _ 3 _ _ rfl (.inl rfl) rfl rfl)) (@JI _ _ _ _ _ _ _ _ _ (@Yp _) rfl T.ZQ PySem.boot_len (@Ja _ _ _ _ _ (@pv _ 2 _ _ rfl (.inl rfl) rfl rfl) (@Jc _) rfl) (by decide) (by decide) rfl rfl)) (fun _ _=>rfl)) rfl (.inl rfl)) (@Jh _ _ _ (@JN _ _ _ _ _ _ _ _ (@Js _ _ _ _ _ _ _ _ (@Yc _) (@Jn _ _ _ _ _ _ _ _ _ _ _ _ _ _ _ T.Jkb (Jn9 T) (hr.mono (by decide)) JL (@Ja _ _ _ _ _ (@pv _ 0 _ _ rfl (.inl rfl) rfl rfl) (@Ja _ _ _ _ _ (@pv _ 4 _ _ rfl (.inl rfl) rfl rfl) (@Ja _ _ _ _ _ (@Jb _ _ _ _) (@Jc _) rfl) rfl) rfl) rfl (by decide) rfl rfl) (@JS _ _ _ _) (JC _)) (@Jh _ _ _ (@Ju _ _ _ _ (@pv _ 4 _ _ rfl (.inl rfl) rfl rfl))) (@Jy _)))) (by intro _; rfl)) (@Jh _ _ _ (@Ju _ _ _ _ (@JB _ _ _ _ _ _ _ (@JF _) (@pv _ 2 _ _ rfl (.inl rfl) rfl rfl) (@Jj _ _ _ _ _ _ _ _ (@JQ _) (@pv _ 1 _ _ rfl (.inl rfl) rfl rfl) (@JI _ _ _ _ _ _ _ _ _ (@Yp _) rfl T.ZQ PySem.boot_len (@Ja _ _ _ _ _ (@pv _ 2 _ _ rfl (.inl rfl) rfl rfl) (@Jc _) rfl) (by decide) (by decide) rfl rfl)) (fun _ _=>rfl)))))),?_⟩;obtain ⟨pn,pl,pg,h1,h2,h3,h4,h5⟩:=G.at_;have p1:=G.good.p1;have p2:=G.good.p2;refine ⟨_,rfl,t,_,_,.ref pn,rfl,rfl,JT.of h1,rfl,?_⟩;refine ⟨_,rfl,pn,_,rfl,.inl (Jo.of h2),((ps.map V.str).length:Int),rfl,by rw [List.length_map]; omega,by rw [List.length_map]; omega,?_⟩;rw [Int.toNat_natCast];refine Zf (n:=(ps.map V.str).length) (fun i σ H2=>Jg H H2∧∃ v3 v4,σ=[some (.ref t),some (.int c),some (.ref pn),v3,v4]) ⟨Jg.refl _,none,none,rfl⟩ ?_ ?_
  ·rintro i σ H2 hi ⟨e2,v3,v4,rfl⟩;obtain ⟨p,hp,hpm⟩:=Jlj p1 (c + (0 + (i:Int)));refine ⟨_,rfl,_,rfl,_,rfl,_,_,rfl,rfl,_,rfl,pn,_,rfl,.inl (Jo.of (e2 _ _ h2)),_,_,rfl,rfl,(by rw [List.length_map]; omega),pn,_,_,.str p,rfl,rfl,Jo.of (e2 _ _ h2),hp,?_⟩;refine ⟨_,rfl,_,rfl,t,p,1,ps,zs,gs,rfl,G.same e2,fun H3 e3=>⟨rfl,_,rfl,Yw (fun _=>?_) (fun _=>?_)⟩⟩
   ·exact ⟨_,rfl,q p H3 hpm (e2.trans e3)⟩
   ·exact ⟨e2.trans e3,_,_,rfl⟩
  ·rintro σ H2 ⟨e2,v3,v4,rfl⟩;obtain ⟨p,hp,hpm⟩:=Jlj p1 c;exact ⟨_,rfl,_,rfl,_,rfl,pn,_,rfl,.inl (Jo.of (e2 _ _ h2)),_,_,rfl,rfl,(by rw [List.length_map]; omega),pn,_,_,.str p,rfl,rfl,Jo.of (e2 _ _ h2),hp,q p H2 hpm e2⟩
end
section
variable {α:Type} {W W':α→List α} {g g':α→Bool} {c:Int} {f:α→α} {S:α→Prop}
structure Rn (W W':α→List α) (g g':α→Bool) (f:α→α) (S:α→Prop):Prop where
 w:∀ p,S p→W' (f p)=(W p).map f
 s:∀ p,S p→∀ w∈W p,S w
 g:∀ p,S p→g' (f p)=g p
theorem Rn.need (h:Rn W W' g g' f S):∀ (t:Nat) (p:α) (r:Bool),S p→L2.need W' g' c t (f p) r=L2.need W g c t p r
 | 0,p,r,hp=>by unfold L2.need; rw [h.g p hp]
 | t + 1,p,r,hp=>by
  have e:∀ r,(W' (f p)).map (fun w=>L2.need W' g' c t w r)=(W p).map fun w=>L2.need W g c t w r:=fun r=>by
   rw [h.w p hp,List.map_map];exact List.map_congr_left fun w hw=>h.need t w r (h.s p hp w hw)
  have e2:(W' (f p)).isEmpty=(W p).isEmpty:=by rw [h.w p hp]; cases W p <;> rfl
  unfold L2.need;rw [h.g p hp,e,e,e2]
theorem Rn.rows (h:Rn W W' g g' f S) (t:Nat) (p:α) (r:Bool) (hp:S p):(W' (f p)).map (fun w=>L2.need W' g' c t w r)=(W p).map fun w=>L2.need W g c t w r:=by
 rw [h.w p hp,List.map_map];exact List.map_congr_left fun w hw=>h.need t w r (h.s p hp w hw)
theorem Rn.lo (h:Rn W W' g g' f S) {t:Nat} {p:α} {r:Bool} (hp:S p):loA W' g' c t (f p) r=loA W g c t p r:=by unfold loA; rw [h.rows t p r hp]
theorem Rn.hi (h:Rn W W' g g' f S) {t:Nat} {p:α} {r:Bool} (hp:S p):hiB W' g' c t (f p) r=hiB W g c t p r:=by unfold hiB; rw [h.rows t p r hp]
theorem Jir {f:α→α} {p q:α→Bool}:∀ {l:List α},(∀ x∈l,p (f x)=q x)→(l.map f).find? p=(l.find? q).map f
 | [],_=>rfl
 | a :: l,h=>by
  rw [List.map_cons,List.find?_cons,List.find?_cons,h a (List.mem_cons_self ..)];cases q a with
  | true=>rfl
  | false=>exact Jir fun x hx=>h x (List.mem_cons_of_mem _ hx)
theorem Rn.step (h:Rn W W' g g' f S) {t:Nat} {p:α} {k:Int} {r b:Bool} (hp:S p):Jau W' g' c t (f p) k r b=(Jau W g c t p k r b).map f:=by
 unfold Jau;rw [h.w p hp];exact Jir fun w hw=>by rw [h.need t w r (h.s p hp w hw)]
theorem Rn.win (h:Rn W W' g g' f S) {t:Nat} {p:α} {k:Int} {r:Bool} {b a:Int} (hp:S p):JaZ W' g' c t (f p) k r b a=JaZ W g c t p k r b a:=by
 unfold JaZ;rw [h.step hp,Option.isSome_map]
theorem Rn.ans (h:Rn W W' g g' f S) {t:Nat} {p:α} {k:Int} {r:Bool} {b:Int} (hp:S p):Jc5 W' g' c t (f p) k r b=Jc5 W g c t p k r b:=by
 unfold Jc5;rw [h.win hp,h.win hp]
theorem Rn.bid (h:Rn W W' g g' f S) {t:Nat} {p:α} {k:Int} {r:Bool} (hp:S p):JiD W' g' c t (f p) k r=JiD W g c t p k r:=by
 unfold JiD;rw [h.lo hp,h.hi hp]
end
section
variable {zs1 zs2:List (Str×Str)} {gs1 gs2 ps:List Str} {f:Str→Str} {c:Int} {m:Nat} {p:Str} {n:Int} {r:Bool}
abbrev RnB (zs1 zs2:List (Str×Str)) (gs1 gs2 ps:List Str) (f:Str→Str):Prop:=Rn (Jp zs1) (Jp zs2) (gB gs1) (gB gs2) f (·∈ps)
theorem RnB.end_ (h:RnB zs1 zs2 gs1 gs2 ps f) (hp:p∈ps):YO zs2 gs2 m (f p)↔YO zs1 gs1 m p:=by
 have hg:(f p∈gs2)↔p∈gs1:=by
  have:=h.g p hp;unfold gB at this;rw [Bool.eq_iff_iff,decide_eq_true_eq,decide_eq_true_eq] at this;exact this
 have hw:Jp zs2 (f p)=[]↔Jp zs1 p=[]:=by rw [h.w p hp,List.map_eq_nil_iff]
 unfold YO;rw [hg,hw]
theorem RnB.least (h:RnB zs1 zs2 gs1 gs2 ps f) (hp:p∈ps):Ja9 zs2 gs2 c m (f p) r=Ja9 zs1 gs1 c m p r:=by
 unfold Ja9 J5;rw [h.need m p r hp]
theorem RnB.bidV (h:RnB zs1 zs2 gs1 gs2 ps f) (hp:p∈ps):Pf.bidV zs2 gs2 c m (f p) n r=Pf.bidV zs1 gs1 c m p n r:=by
 unfold Pf.bidV J5;rw [h.need m p r hp,h.bid hp];by_cases he:YO zs1 gs1 m p
 ·rw [if_pos ((h.end_ hp).mpr he),if_pos he]
 ·rw [if_neg (fun z=>he ((h.end_ hp).mp z)),if_neg he]
theorem RnB.ansV {b:Int} (h:RnB zs1 zs2 gs1 gs2 ps f) (hp:p∈ps):Pf.ansV zs2 gs2 c m (f p) n r b=Pf.ansV zs1 gs1 c m p n r b:=by
 unfold Pf.ansV;rw [h.ans hp];by_cases he:YO zs1 gs1 m p
 ·rw [if_pos ((h.end_ hp).mpr he),if_pos he]
 ·rw [if_neg (fun z=>he ((h.end_ hp).mp z)),if_neg he]
theorem RnB.stepV {b:Bool} (h:RnB zs1 zs2 gs1 gs2 ps f) (hp:p∈ps):(Pf.stepV zs1 gs1 c m p n r b=.non∧Pf.stepV zs2 gs2 c m (f p) n r b=.non)∨∃ w∈ps,Pf.stepV zs1 gs1 c m p n r b=.str w∧Pf.stepV zs2 gs2 c m (f p) n r b=.str (f w):=by
 unfold Pf.stepV;rw [h.step hp];by_cases he:YO zs1 gs1 m p
 ·rw [if_pos ((h.end_ hp).mpr he),if_pos he]; exact .inl ⟨rfl,rfl⟩
 ·rw [if_neg (fun z=>he ((h.end_ hp).mp z)),if_neg he];cases hs:Jau (Jp zs1) (gB gs1) c (m - 1) p n r b with
  | none=>exact .inl ⟨rfl,rfl⟩
  | some w=>exact .inr ⟨w,h.s p hp w (List.mem_of_find?_eq_some hs),rfl,rfl⟩
end
section
variable {P:Program} {w:World} {K:PySem.W.Frag} {mg:Str→Option Value} {base:Heap}
def Jj9 (T:Txt K mg) (H:Hp) (k b:Addr) (q:Str) (c:Int) (m t:Nat) (n bid:Int) (r:Bool) (vw:Bool) (vl vb va:V):Prop:=∃ (ps:List Str) (zs:List (V×(Str×Str))) (gs:List Str),Bk K T.JD T.JA H k b ps zs gs c t (t + 1)∧q∈ps∧decide (J5 (zs.map (·.2)) gs c m q r≤n)=vw∧Ja9 (zs.map (·.2)) gs c m q r=vl∧bidV (zs.map (·.2)) gs c m q n r=vb∧ansV (zs.map (·.2)) gs c m q n r bid=va
theorem Jj9.same {T:Txt K mg} {H H':Hp} {k b:Addr} {q:Str} {c:Int} {m t:Nat} {n bid:Int} {r vw:Bool} {vl vb va:V} (h:Jj9 T H k b q c m t n bid r vw vl vb va) (e:Jg H H'):Jj9 T H' k b q c m t n bid r vw vl vb va:=let ⟨ps,zs,gs,h1,h2⟩:=h; ⟨ps,zs,gs,h1.same e,h2⟩
def JlH (T:Txt K mg):Sp:=fun vs H Q _=>∃ (lb lp dn k1 k2 b1 b2:Addr) (p:Str) (f:Str→Str) (c:Int) (m t:Nat) (n bid:Int) (r:Bool) (kvs:List (JO×V)) (ps1:List Str) (zs1:List (V×(Str×Str))) (gs1 ps2:List Str) (zs2:List (V×(Str×Str))) (gs2:List Str),vs=[.ref lb,.ref lp,.int (m:Int),.int n,.str (hs r),.int bid,.ref dn]∧H lb=some (.lst [.ref k1,.ref k2])∧H lp=some (.lst [.str p,.str (f p)])∧H dn=some (.dK kvs)∧(∀ y∈ps1,YC kvs (.inr y)=some (.str (f y)))∧Bk K T.JD T.JA H k1 b1 ps1 zs1 gs1 c t (t + 1)∧Bk K T.JD T.JA H k2 b2 ps2 zs2 gs2 c t (t + 1)∧p∈ps1∧f p∈ps2∧m≤t∧(0≤n∧n≤c)∧(0≤bid∧bid≤own c n (!r))∧RnB (zs1.map (·.2)) (zs2.map (·.2)) gs1 gs2 ps1 f∧∀ H',Jg H H'→Q (.bl true) H'
theorem Jma (T:Txt K mg):JM P w K mg base Y6 10 T.JgK T.Jfn ["_law_books", "_law_places", "_law_left_here", "_law_north", "_law_ribbon", "_law_bid", "_law_new"] (JlH T):=by
 refine T.JgR.F.ok ZP (fun vs H Q E h=>?_) (fun cdv A outer s H vs Q E hr h=>?_)
 ·obtain ⟨_,_,_,_,_,_,_,_,_,_,_,_,_,_,_,_,_,_,_,_,_,_,rfl,_⟩:=h;rfl
 ·obtain ⟨lb,lp,dn,k1,k2,b1,b2,p,f,c,m,t,n,bid,r,kvs,ps1,zs1,gs1,ps2,zs2,gs2,rfl,hlb,hlp,hdn,hkv,B1,B2,hp,hp2,hm,hn,hbid,R,q⟩:=h;have hu:=Jcu hr;have szl:sizeLine=16777216:=sizeLine_eq;refine ⟨_,(@Jd _ _ _ _ _ (@J2 _ _ _ (@JdP _ _ _ _ _ _ _ _ _ _ 7 1 ["_law_k", "_law_left_here", "_law_north", "_law_ribbon", "_law_places", "_law_books"] [2,3,4,1,0] _ _ _ _ ["_law_books", "_law_places", "_law_left_here", "_law_north", "_law_ribbon", "_law_bid", "_law_new", "_law_sides", "_law_few", "_law_bids", "_law_replies", "_law_pair", "_law_hand", "_law_due"] ((Jl Jbp).names) (by decide +kernel) ZP.nd rfl (@Yr _ _ _ _ (@Ye _ _ _ _ (@Ja _ _ _ _ _ (@Jb _ _ _ _) (@Ja _ _ _ _ _ (@Jb _ _ _ _) (@Jc _) rfl) rfl))) (fun _ _ _ _=>(@YK _ _ _ _ _ _ _ _ _ 0 (by decide +kernel) rfl rfl)) (fun _ _ _ _=>(@Zh _)) (fun _ _ _ _=>(@JV _ _ _ _ _ _ _ _ _ _ _ _ _ _ _ _ _ _ _ _ (@JB _ _ _ _ _ _ _ (show IxR _ (Jbs K) from (@JF _)) (@JX _ _ _ _ _ _ _ _ _ 5 rfl rfl (by decide) (by decide)) (@Yd _ _ _ _ _ _ _ _ _ 0 rfl rfl (by decide) (by decide)) (fun _ _=>rfl)) T.JE T.YT.m (Jbu T) (hr.mono (by decide)) T.YT.b .nil Y0 (@Ja _ _ _ _ _ (@JB _ _ _ _ _ _ _ (show IxR _ (Jbs K) from (@JF _)) (@JX _ _ _ _ _ _ _ _ _ 4 rfl rfl (by decide) (by decide)) (@Yd _ _ _ _ _ _ _ _ _ 0 rfl rfl (by decide) (by decide)) (fun _ _=>rfl)) (@Ja _ _ _ _ _ (@JX _ _ _ _ _ _ _ _ _ 1 rfl rfl (by decide) (by decide)) (@Ja _ _ _ _ _ (@JX _ _ _ _ _ _ _ _ _ 2 rfl rfl (by decide) (by decide)) (@Ja _ _ _ _ _ (@JX _ _ _ _ _ _ _ _ _ 3 rfl rfl (by decide) (by decide)) (@Jc _) rfl) rfl) rfl) rfl) rfl rfl rfl)) rfl rfl rfl rfl rfl (by intro _; rfl))) (@Jd _ _ _ _ _ (@JN _ _ _ _ _ _ _ _ (@PW.pt _ _ _ (@JbM _ _ _ _ _ _ _ (@Js _ _ _ _ _ _ _ _ (@Ja6 _) (@JB _ _ _ _ _ _ _ (@JF _) (@pv _ 7 _ _ rfl (.inl rfl) rfl rfl) (@Jb _ _ _ _) (fun _ _=>rfl)) (@Ye _ _ _ _ (@Ja _ _ _ _ _ (@JS _ _ _ _) (@Ja _ _ _ _ _ (@JS _ _ _ _) (@Jc _) rfl) rfl)) (by with_unfolding_all rfl)) (@Ja4 _ _ _ _ (@Jd8 _ _ _ _ (@JbU _ _ _ (@Jn _ _ _ _ _ _ _ _ _ _ _ _ _ _ _ T.JdG (Jfd T) (hr.mono (by decide)) JL (@Ja _ _ _ _ _ (@JB _ _ _ _ _ _ _ (@JF _) (@pv _ 7 _ _ rfl (.inl rfl) rfl rfl) (@Jb _ _ _ _) (fun _ _=>rfl)) (@Ja _ _ _ _ _ (@JB _ _ _ _ _ _ _ (@JF _) (@pv _ 7 _ _ rfl (.inl rfl) rfl rfl) (@Jb _ _ _ _) (fun _ _=>rfl)) (@Jc _) rfl) rfl) rfl (by decide) rfl rfl) (by intro _; rfl)))))) (@Jh _ _ _ (@Ju _ _ _ _ (@JdQ _ _ _ _))) (@Jy _)) (@Jd _ _ _ _ _ (@J2 _ _ _ (@JdP _ _ _ _ _ _ _ _ _ _ 8 1 ["_law_k", "_law_left_here", "_law_ribbon", "_law_places", "_law_books"] [2,4,1,0] _ _ _ _ ["_law_books", "_law_places", "_law_left_here", "_law_north", "_law_ribbon", "_law_bid", "_law_new", "_law_sides", "_law_few", "_law_bids", "_law_replies", "_law_pair", "_law_hand", "_law_due"] ((Jl Jbp).names) (by decide +kernel) ZP.nd rfl (@Yr _ _ _ _ (@Ye _ _ _ _ (@Ja _ _ _ _ _ (@Jb _ _ _ _) (@Ja _ _ _ _ _ (@Jb _ _ _ _) (@Jc _) rfl) rfl))) (fun _ _ _ _=>(@YK _ _ _ _ _ _ _ _ _ 0 (by decide +kernel) rfl rfl)) (fun _ _ _ _=>(@Zh _)) (fun _ _ _ _=>(@JV _ _ _ _ _ _ _ _ _ _ _ _ _ _ _ _ _ _ _ _ (@JB _ _ _ _ _ _ _ (show IxR _ (Jbs K) from (@JF _)) (@JX _ _ _ _ _ _ _ _ _ 4 rfl rfl (by decide) (by decide)) (@Yd _ _ _ _ _ _ _ _ _ 0 rfl rfl (by decide) (by decide)) (fun _ _=>rfl)) T.JE T.Jbm.m (Jhx T) (hr.mono (by decide)) T.Jbm.b .nil Y0 (@Ja _ _ _ _ _ (@JB _ _ _ _ _ _ _ (show IxR _ (Jbs K) from (@JF _)) (@JX _ _ _ _ _ _ _ _ _ 3 rfl rfl (by decide) (by decide)) (@Yd _ _ _ _ _ _ _ _ _ 0 rfl rfl (by decide) (by decide)) (fun _ _=>rfl)) (@Ja _ _ _ _ _ (@JX _ _ _ _ _ _ _ _ _ 1 rfl rfl (by decide) (by decide)) (@Ja _ _ _ _ _ (@JX _ _ _ _ _ _ _ _ _ 2 rfl rfl (by decide) (by decide)) (@Jc _) rfl) rfl) rfl) rfl rfl rfl)) rfl rfl rfl rfl rfl (by intro _; rfl))) (@Jd _ _ _ _ _ (@J2 _ _ _ (@JdP _ _ _ _ _ _ _ _ _ _ 9 1 ["_law_k", "_law_left_here", "_law_north", "_law_ribbon", "_law_places", "_law_books"] [2,3,4,1,0] _ _ _ _ ["_law_books", "_law_places", "_law_left_here", "_law_north", "_law_ribbon", "_law_bid", "_law_new", "_law_sides", "_law_few", "_law_bids", "_law_replies", "_law_pair", "_law_hand", "_law_due"] ((Jl Jbp).names) (by decide +kernel) ZP.nd rfl (@Yr _ _ _ _ (@Ye _ _ _ _ (@Ja _ _ _ _ _ (@Jb _ _ _ _) (@Ja _ _ _ _ _ (@Jb _ _ _ _) (@Jc _) rfl) rfl))) (fun _ _ _ _=>(@YK _ _ _ _ _ _ _ _ _ 0 (by decide +kernel) rfl rfl)) (fun _ _ _ _=>(@Zh _)) (fun _ _ _ _=>(@JV _ _ _ _ _ _ _ _ _ _ _ _ _ _ _ _ _ _ _ _ (@JB _ _ _ _ _ _ _ (show IxR _ (Jbs K) from (@JF _)) (@JX _ _ _ _ _ _ _ _ _ 5 rfl rfl (by decide) (by decide)) (@Yd _ _ _ _ _ _ _ _ _ 0 rfl rfl (by decide) (by decide)) (fun _ _=>rfl)) T.JE T.JaR.m (Jgv T) (hr.mono (by decide)) T.JaR.b .nil Y0 (@Ja _ _ _ _ _ (@JB _ _ _ _ _ _ _ (show IxR _ (Jbs K) from (@JF _)) (@JX _ _ _ _ _ _ _ _ _ 4 rfl rfl (by decide) (by decide)) (@Yd _ _ _ _ _ _ _ _ _ 0 rfl rfl (by decide) (by decide)) (fun _ _=>rfl)) (@Ja _ _ _ _ _ (@JX _ _ _ _ _ _ _ _ _ 1 rfl rfl (by decide) (by decide)) (@Ja _ _ _ _ _ (@JX _ _ _ _ _ _ _ _ _ 2 rfl rfl (by decide) (by decide)) (@Ja _ _ _ _ _ (@JX _ _ _ _ _ _ _ _ _ 3 rfl rfl (by decide) (by decide)) (@Jc _) rfl) rfl) rfl) rfl) rfl rfl rfl)) rfl rfl rfl rfl rfl (by intro _; rfl))) (@Jd _ _ _ _ _ (@J2 _ _ _ (@JdP _ _ _ _ _ _ _ _ _ _ 10 1 ["_law_k", "_law_left_here", "_law_north", "_law_ribbon", "_law_bid", "_law_places", "_law_books"] [2,3,4,5,1,0] _ _ _ _ ["_law_books", "_law_places", "_law_left_here", "_law_north", "_law_ribbon", "_law_bid", "_law_new", "_law_sides", "_law_few", "_law_bids", "_law_replies", "_law_pair", "_law_hand", "_law_due"] ((Jl Jbp).names) (by decide +kernel) ZP.nd rfl (@Yr _ _ _ _ (@Ye _ _ _ _ (@Ja _ _ _ _ _ (@Jb _ _ _ _) (@Ja _ _ _ _ _ (@Jb _ _ _ _) (@Jc _) rfl) rfl))) (fun _ _ _ _=>(@YK _ _ _ _ _ _ _ _ _ 0 (by decide +kernel) rfl rfl)) (fun _ _ _ _=>(@Zh _)) (fun _ _ _ _=>(@JV _ _ _ _ _ _ _ _ _ _ _ _ _ _ _ _ _ _ _ _ (@JB _ _ _ _ _ _ _ (show IxR _ (Jbs K) from (@JF _)) (@JX _ _ _ _ _ _ _ _ _ 6 rfl rfl (by decide) (by decide)) (@Yd _ _ _ _ _ _ _ _ _ 0 rfl rfl (by decide) (by decide)) (fun _ _=>rfl)) T.JE T.ZS.m (JeX T) (hr.mono (by decide)) T.ZS.b .nil Y0 (@Ja _ _ _ _ _ (@JB _ _ _ _ _ _ _ (show IxR _ (Jbs K) from (@JF _)) (@JX _ _ _ _ _ _ _ _ _ 5 rfl rfl (by decide) (by decide)) (@Yd _ _ _ _ _ _ _ _ _ 0 rfl rfl (by decide) (by decide)) (fun _ _=>rfl)) (@Ja _ _ _ _ _ (@JX _ _ _ _ _ _ _ _ _ 1 rfl rfl (by decide) (by decide)) (@Ja _ _ _ _ _ (@JX _ _ _ _ _ _ _ _ _ 2 rfl rfl (by decide) (by decide)) (@Ja _ _ _ _ _ (@JX _ _ _ _ _ _ _ _ _ 3 rfl rfl (by decide) (by decide)) (@Ja _ _ _ _ _ (@JX _ _ _ _ _ _ _ _ _ 4 rfl rfl (by decide) (by decide)) (@Jc _) rfl) rfl) rfl) rfl) rfl) rfl rfl rfl)) rfl rfl rfl rfl rfl (by intro _; rfl))) (@Jd _ _ _ _ _ (@Yt _ _ _ _ _ _ _ _ PassesOwn.never rfl (@Yr _ _ _ _ (@Ye _ _ _ _ (@Ja _ _ _ _ _ (@pv _ 8 _ _ rfl (.inl rfl) rfl rfl) (@Ja _ _ _ _ _ (@pv _ 9 _ _ rfl (.inl rfl) rfl rfl) (@Ja _ _ _ _ _ (@pv _ 10 _ _ rfl (.inl rfl) rfl rfl) (@Jc _) rfl) rfl) rfl))) (@J8 _ _ 11 _ ZP.nd rfl (Or.inl rfl) (.inl rfl)) (@Jh _ _ _ (@JN _ _ _ _ _ _ _ _ (@Jd8 _ _ _ _ (@JbU _ _ _ (@Jn _ _ _ _ _ _ _ _ _ _ _ _ _ _ _ T.JdG (Jfd T) (hr.mono (by decide)) JL (@Ja _ _ _ _ _ (@JB _ _ _ _ _ _ _ (@JF _) (@pv _ 11 _ _ rfl (.inl rfl) rfl rfl) (@Jb _ _ _ _) (fun _ _=>rfl)) (@Ja _ _ _ _ _ (@JB _ _ _ _ _ _ _ (@JF _) (@pv _ 11 _ _ rfl (.inl rfl) rfl rfl) (@Jb _ _ _ _) (fun _ _=>rfl)) (@Jc _) rfl) rfl) rfl (by decide) rfl rfl) (by intro _; rfl))) (@Jh _ _ _ (@Ju _ _ _ _ (@JdQ _ _ _ _))) (@Jy _))) (by intro _; rfl)) (@Jd _ _ _ _ _ (@Yt _ _ _ _ _ _ _ _ PassesOwn.never rfl (@Yr _ _ _ _ (@Ye _ _ _ _ (@Ja _ _ _ _ _ (@JS _ _ _ _) (@Ja _ _ _ _ _ (@JS _ _ _ _) (@Jc _) rfl) rfl))) (@J8 _ _ 12 _ ZP.nd rfl (Or.inl rfl) (.inl rfl)) (@Jd _ _ _ _ _ (@Jt _ _ 13 _ _ _ _ ZP.nd rfl (Or.inl rfl) (@JV _ _ _ _ _ _ _ _ _ _ _ _ _ _ _ _ _ _ _ _ (@JB _ _ _ _ _ _ _ (@JF _) (@pv _ 0 _ _ rfl (.inr (.inl rfl)) rfl rfl) (@Jb _ _ _ _) (fun _ _=>rfl)) T.JE T.YI.m (Ja8 T) (hr.mono (by decide)) T.YI.b .nil Y0 (@Ja _ _ _ _ _ (@JB _ _ _ _ _ _ _ (@JF _) (@pv _ 1 _ _ rfl (.inr (.inl rfl)) rfl rfl) (@Jb _ _ _ _) (fun _ _=>rfl)) (@Ja _ _ _ _ _ (@pv _ 2 _ _ rfl (.inr (.inl rfl)) rfl rfl) (@Ja _ _ _ _ _ (@pv _ 3 _ _ rfl (.inr (.inl rfl)) rfl rfl) (@Ja _ _ _ _ _ (@pv _ 4 _ _ rfl (.inr (.inl rfl)) rfl rfl) (@Ja _ _ _ _ _ (@pv _ 12 _ _ rfl (.inl rfl) rfl rfl) (@Jc _) rfl) rfl) rfl) rfl) rfl) rfl rfl rfl) rfl (.inl rfl)) (@Jd _ _ _ _ _ (@J2 _ _ _ (@JN _ _ _ _ _ _ _ _ (@Jdx _ _ _ _ _ _ (@Jcx _ _ _ _ _ (@pv _ 13 _ _ rfl (.inl rfl) rfl rfl)) (by first | exact Zm _ (by decide) (by decide) | rfl)) (@Jh _ _ _ (@Jt _ _ 13 _ _ _ _ ZP.nd rfl (Or.inl rfl) (@Jl4 _ _ _ _ _ _ _ _ _ hu (@pv _ 6 _ _ rfl (.inl rfl) rfl rfl) (@pv _ 13 _ _ rfl (.inl rfl) rfl rfl) (@JS _ _ _ _) ⟨rfl,rfl,rfl,rfl⟩) rfl (.inl rfl))) (@Jy _))) (@Jh _ _ _ (@JN _ _ _ _ _ _ _ _ (@Jd8 _ _ _ _ (@JbU _ _ _ (@Jn _ _ _ _ _ _ _ _ _ _ _ _ _ _ _ T.JdG (Jfd T) (hr.mono (by decide)) JL (@Ja _ _ _ _ _ (@JV _ _ _ _ _ _ _ _ _ _ _ _ _ _ _ _ _ _ _ _ (@JB _ _ _ _ _ _ _ (@JF _) (@pv _ 0 _ _ rfl (.inr (.inl rfl)) rfl rfl) (@Jb _ _ _ _) (fun _ _=>rfl)) T.JE T.YI.m (Ja8 T) (hr.mono (by decide)) T.YI.b .nil Y0 (@Ja _ _ _ _ _ (@JB _ _ _ _ _ _ _ (@JF _) (@pv _ 1 _ _ rfl (.inr (.inl rfl)) rfl rfl) (@Jb _ _ _ _) (fun _ _=>rfl)) (@Ja _ _ _ _ _ (@pv _ 2 _ _ rfl (.inr (.inl rfl)) rfl rfl) (@Ja _ _ _ _ _ (@pv _ 3 _ _ rfl (.inr (.inl rfl)) rfl rfl) (@Ja _ _ _ _ _ (@pv _ 4 _ _ rfl (.inr (.inl rfl)) rfl rfl) (@Ja _ _ _ _ _ (@pv _ 12 _ _ rfl (.inl rfl) rfl rfl) (@Jc _) rfl) rfl) rfl) rfl) rfl) rfl rfl rfl) (@Ja _ _ _ _ _ (@pv _ 13 _ _ rfl (.inl rfl) rfl rfl) (@Jc _) rfl) rfl) rfl (by decide) rfl rfl) (by intro _; rfl))) (@Jh _ _ _ (@Ju _ _ _ _ (@JdQ _ _ _ _))) (@Jy _))))) (by intro _; rfl)) (@Jh _ _ _ (@Ju _ _ _ _ (@JdQ _ _ _ _)))))))))),?_⟩
  try dsimp only [cxK,Jes]
  have c0:=B1.c0;have hmm:0≤(m:Int)∧(m:Int)≤(t:Int):=by omega
  have em:((m:Int)).toNat=m:=Int.toNat_natCast m;obtain ⟨vw,hvw⟩:∃ v,decide (J5 (zs1.map (·.2)) gs1 c m p r≤n)=v:=⟨_,rfl⟩
  obtain ⟨vl,hvl⟩:∃ v,Ja9 (zs1.map (·.2)) gs1 c m p r=v:=⟨_,rfl⟩
  obtain ⟨vb,hvb⟩:∃ v,bidV (zs1.map (·.2)) gs1 c m p n r=v:=⟨_,rfl⟩
  obtain ⟨va,hva⟩:∃ v,ansV (zs1.map (·.2)) gs1 c m p n r bid=v:=⟨_,rfl⟩
  have fl:JeR vl=true:=by rw [← hvl]; unfold Ja9; split <;> rfl
  have fb:JeR vb=true:=by
   rw [← hvb]; unfold bidV;split
   ·rfl
   ·split <;> rfl
  have fa:JeR va=true:=by
   rw [← hva]; unfold ansV;split
   ·rfl
   ·cases Jc5 (Jp (zs1.map (·.2))) (gB gs1) c (m - 1) p n r bid <;> rfl
  have two:∀ i:Nat,i < 2→∃ kk bk qk,[V.ref k1,V.ref k2][i]?=some (.ref kk)∧[V.str p,V.str (f p)][i]?=some (.str qk)∧Jj9 T H kk bk qk c m t n bid r vw vl vb va:=by
   intro i hi
   match i,hi with
   | 0,_=>exact ⟨k1,b1,p,rfl,rfl,ps1,zs1,gs1,B1,hp,hvw,hvl,hvb,hva⟩
   | 1,_=>exact ⟨k2,b2,f p,rfl,rfl,ps2,zs2,gs2,B2,hp2,by rw [← hvw]; unfold J5; rw [R.need m p r hp],by rw [R.least hp]; exact hvl,by rw [R.bidV hp]; exact hvb,by rw [R.ansV hp]; exact hva⟩
  have at2:∀ {i:Nat} {xv:V},[V.int 0,V.int 1][i]?=some xv→i < 2∧xv=.int (i:Int):=by
   intro i xv hx
   match i,hx with
   | 0,hx=>exact ⟨by decide,(Option.some.inj hx).symm⟩
   | 1,hx=>exact ⟨by decide,(Option.some.inj hx).symm⟩
  refine ⟨fun σ1 H1=>∃ D,Jg H H1∧H1 D=some (.lst [.str (hs vw),.str (hs vw)])∧σ1=[some (.ref lb),some (.ref lp),some (.int (m:Int)),some (.int n),some (.str (hs r)),some (.int bid),some (.ref dn),some (.ref D),none,none,none,none,none,none],?_,?_⟩
  ·refine ⟨by show 2≤sizeLine; decide,fun l nl=>⟨l,rfl,⟨_,Jo.of Jf⟩,fun D hD=>?_⟩⟩;have hl:upd H l (.lst [.int 0,.int 1]) l=some (.lst [.int 0,.int 1]):=Jf;have e1:=Jg.upd (o:=.lst [.int 0,.int 1]) nl;generalize upd H l (.lst [.int 0,.int 1])=H1 at hl e1 hD;refine JaY (xs:=[.int 0,.int 1]) (fun i ys H2=>Jg H1 H2∧H2 D=some (.lst ys)∧ys=[V.str (hs vw),V.str (hs vw)].take i) rfl (fun i ys H2 z=>Jo.of (z.1 _ _ hl)) ⟨Jg.upd hD,Jf,rfl⟩ (fun i ys H2 z=>z.2.1) ?_ ?_
   ·rintro i xv ys H2 hx ⟨e2,hy,rfl⟩;obtain ⟨hi,rfl⟩:=at2 hx;obtain ⟨kk,bk,qk,a1,a2,O⟩:=two i hi;have e12:=e1.trans e2;obtain ⟨ps,zs,gs,Bk,hq,o1,o2,o3,o4⟩:=O.same e12;obtain ⟨kdx,lk,hk⟩:=Bk.ins;have tq:=YB (Bk.B.G.p3 qk hq);refine tcT ?_;refine ⟨_,rfl,_,rfl,lb,_,_,.ref kk,rfl,rfl,Jo.of (e12 _ _ hlb),Ys a1,kk,kdx,_,rfl,hk,rfl,_,rfl,_,rfl,lp,_,_,.str qk,rfl,rfl,Jo.of (e12 _ _ hlp),Ys a2,_,rfl,_,rfl,_,rfl,kk,bk,qk,hs r,(m:Int),n,ps,zs,gs,c,t,rfl,tq,Zg r,Bk,ZN ⟨hq,hmm,hn,YG r⟩,fun _ _ _ r' hr' H3 e3=>?_⟩;obtain rfl:=YH hr';rw [em,o1];refine ⟨e3 _ _ hy,?_,fun x u qq=>?_,Jf,?_⟩
    ·rw [List.length_take]; exact Nat.lt_of_le_of_lt (Nat.min_le_right _ _) (by show 2 < sizeLine; decide)
    ·rw [Jq (Jr qq hD)]; exact e3 _ _ (e2 _ _ qq)
    ·match i,hi with
     | 0,_=>rfl
     | 1,_=>rfl
   ·rintro ys H2 ⟨e2,hy,rfl⟩;exact ⟨D,e1.trans e2,hy,rfl⟩
  rintro σ1 H1 ⟨D1,e1,hD1,rfl⟩;refine ⟨_,rfl,D1,_,_,.str (hs vw),rfl,rfl,Jo.of hD1,rfl,by show 2≤sizeLine; decide,fun l nl=>⟨l,_,rfl,.inl (Jo.of Jf),rfl,rfl,?_⟩⟩;rw [if_pos rfl,Jns];have s2:=Jg.upd (o:=.lst [.str "north",.str "south"]) nl;have hD2:=s2 _ _ hD1;have e2:=e1.trans s2;generalize upd H1 l (.lst [.str "north",.str "south"])=H2 at s2 hD2 e2;refine ⟨_,rfl,ZJ ⟨_,rfl,D1,_,_,.str (hs vw),rfl,rfl,Jo.of hD2,rfl,_,rfl,D1,_,_,.str (hs vw),rfl,rfl,Jo.of hD2,rfl,_,rfl,rfl,_,rfl,ZJ ?_⟩⟩;refine ⟨fun σ1 H10=>∃ D,Jg H H10∧Jg H2 H10∧H10 D=some (.lst [vl,vl])∧σ1=[some (.ref lb),some (.ref lp),some (.int (m:Int)),some (.int n),some (.str (hs r)),some (.int bid),some (.ref dn),some (.ref D1),some (.ref D),none,none,none,none,none],?_,?_⟩
  ·refine ⟨by show 2≤sizeLine; decide,fun l nl=>⟨l,rfl,⟨_,Jo.of Jf⟩,fun D hD=>?_⟩⟩;have hl:upd H2 l (.lst [.int 0,.int 1]) l=some (.lst [.int 0,.int 1]):=Jf;have f1:=Jg.upd (o:=.lst [.int 0,.int 1]) nl;generalize upd H2 l (.lst [.int 0,.int 1])=H5 at hl f1 hD;refine JaY (xs:=[.int 0,.int 1]) (fun i ys H6=>Jg H5 H6∧H6 D=some (.lst ys)∧ys=[vl,vl].take i) rfl (fun i ys H6 z=>Jo.of (z.1 _ _ hl)) ⟨Jg.upd hD,Jf,rfl⟩ (fun i ys H6 z=>z.2.1) ?_ ?_
   ·rintro i xv ys H6 hx ⟨f2,hy,rfl⟩;obtain ⟨hi,rfl⟩:=at2 hx;obtain ⟨kk,bk,qk,a1,a2,O⟩:=two i hi;have e12:=(e2.trans f1).trans f2;obtain ⟨ps,zs,gs,Bk,hq,o1,o2,o3,o4⟩:=O.same e12;obtain ⟨kdx,lk,hk⟩:=Bk.ins;have tq:=YB (Bk.B.G.p3 qk hq);refine tcT ?_;refine ⟨_,rfl,_,rfl,lb,_,_,.ref kk,rfl,rfl,Jo.of (e12 _ _ hlb),Ys a1,kk,kdx,_,rfl,hk,rfl,_,rfl,_,rfl,lp,_,_,.str qk,rfl,rfl,Jo.of (e12 _ _ hlp),Ys a2,_,rfl,_,rfl,kk,bk,qk,hs r,(m:Int),ps,zs,gs,c,t,rfl,tq,Zg r,Bk,ZN ⟨hq,hmm,⟨c0,Int.le_refl _⟩,YG r⟩,fun _ _ r' hr' H7 f3=>?_⟩;obtain rfl:=YH hr';rw [em,o2];refine ⟨f3 _ _ hy,?_,fun x u qq=>?_,Jf,?_⟩
    ·rw [List.length_take]; exact Nat.lt_of_le_of_lt (Nat.min_le_right _ _) (by show 2 < sizeLine; decide)
    ·rw [Jq (Jr qq hD)]; exact f3 _ _ (f2 _ _ qq)
    ·match i,hi with
     | 0,_=>rfl
     | 1,_=>rfl
   ·rintro ys H6 ⟨f2,hy,rfl⟩;exact ⟨D,(e2.trans f1).trans f2,f1.trans f2,hy,rfl⟩
  rintro σ1 H10 ⟨D2,e10,g10,hE2,rfl⟩;refine ⟨fun σ1 H11=>∃ D,Jg H H11∧Jg H10 H11∧H11 D=some (.lst [vb,vb])∧σ1=[some (.ref lb),some (.ref lp),some (.int (m:Int)),some (.int n),some (.str (hs r)),some (.int bid),some (.ref dn),some (.ref D1),some (.ref D2),some (.ref D),none,none,none,none],?_,?_⟩
  ·refine ⟨by show 2≤sizeLine; decide,fun l nl=>⟨l,rfl,⟨_,Jo.of Jf⟩,fun D hD=>?_⟩⟩;have hl:upd H10 l (.lst [.int 0,.int 1]) l=some (.lst [.int 0,.int 1]):=Jf;have f1:=Jg.upd (o:=.lst [.int 0,.int 1]) nl;generalize upd H10 l (.lst [.int 0,.int 1])=H5 at hl f1 hD;refine JaY (xs:=[.int 0,.int 1]) (fun i ys H6=>Jg H5 H6∧H6 D=some (.lst ys)∧ys=[vb,vb].take i) rfl (fun i ys H6 z=>Jo.of (z.1 _ _ hl)) ⟨Jg.upd hD,Jf,rfl⟩ (fun i ys H6 z=>z.2.1) ?_ ?_
   ·rintro i xv ys H6 hx ⟨f2,hy,rfl⟩;obtain ⟨hi,rfl⟩:=at2 hx;obtain ⟨kk,bk,qk,a1,a2,O⟩:=two i hi;have e12:=(e10.trans f1).trans f2;obtain ⟨ps,zs,gs,Bk,hq,o1,o2,o3,o4⟩:=O.same e12;obtain ⟨kdx,lk,hk⟩:=Bk.ins;have tq:=YB (Bk.B.G.p3 qk hq);refine tcT ?_;refine ⟨_,rfl,_,rfl,lb,_,_,.ref kk,rfl,rfl,Jo.of (e12 _ _ hlb),Ys a1,kk,kdx,_,rfl,hk,rfl,_,rfl,_,rfl,lp,_,_,.str qk,rfl,rfl,Jo.of (e12 _ _ hlp),Ys a2,_,rfl,_,rfl,_,rfl,kk,bk,qk,hs r,(m:Int),n,ps,zs,gs,c,t,rfl,tq,Zg r,Bk,ZN ⟨hq,hmm,hn,YG r⟩,fun _ _ _ r' hr' H7 f3=>?_⟩;obtain rfl:=YH hr';rw [em,o3];refine ⟨f3 _ _ hy,?_,fun x u qq=>?_,Jf,?_⟩
    ·rw [List.length_take]; exact Nat.lt_of_le_of_lt (Nat.min_le_right _ _) (by show 2 < sizeLine; decide)
    ·rw [Jq (Jr qq hD)]; exact f3 _ _ (f2 _ _ qq)
    ·match i,hi with
     | 0,_=>rfl
     | 1,_=>rfl
   ·rintro ys H6 ⟨f2,hy,rfl⟩;exact ⟨D,(e10.trans f1).trans f2,f1.trans f2,hy,rfl⟩
  rintro σ1 H11 ⟨D3,e11,g11,hE3,rfl⟩;refine ⟨fun σ1 H12=>∃ D,Jg H H12∧Jg H11 H12∧H12 D=some (.lst [va,va])∧σ1=[some (.ref lb),some (.ref lp),some (.int (m:Int)),some (.int n),some (.str (hs r)),some (.int bid),some (.ref dn),some (.ref D1),some (.ref D2),some (.ref D3),some (.ref D),none,none,none],?_,?_⟩
  ·refine ⟨by show 2≤sizeLine; decide,fun l nl=>⟨l,rfl,⟨_,Jo.of Jf⟩,fun D hD=>?_⟩⟩;have hl:upd H11 l (.lst [.int 0,.int 1]) l=some (.lst [.int 0,.int 1]):=Jf;have f1:=Jg.upd (o:=.lst [.int 0,.int 1]) nl;generalize upd H11 l (.lst [.int 0,.int 1])=H5 at hl f1 hD;refine JaY (xs:=[.int 0,.int 1]) (fun i ys H6=>Jg H5 H6∧H6 D=some (.lst ys)∧ys=[va,va].take i) rfl (fun i ys H6 z=>Jo.of (z.1 _ _ hl)) ⟨Jg.upd hD,Jf,rfl⟩ (fun i ys H6 z=>z.2.1) ?_ ?_
   ·rintro i xv ys H6 hx ⟨f2,hy,rfl⟩;obtain ⟨hi,rfl⟩:=at2 hx;obtain ⟨kk,bk,qk,a1,a2,O⟩:=two i hi;have e12:=(e11.trans f1).trans f2;obtain ⟨ps,zs,gs,Bk,hq,o1,o2,o3,o4⟩:=O.same e12;obtain ⟨kdx,lk,hk⟩:=Bk.ins;have tq:=YB (Bk.B.G.p3 qk hq);refine tcT ?_;refine ⟨_,rfl,_,rfl,lb,_,_,.ref kk,rfl,rfl,Jo.of (e12 _ _ hlb),Ys a1,kk,kdx,_,rfl,hk,rfl,_,rfl,_,rfl,lp,_,_,.str qk,rfl,rfl,Jo.of (e12 _ _ hlp),Ys a2,_,rfl,_,rfl,_,rfl,_,rfl,kk,bk,qk,hs r,(m:Int),n,bid,ps,zs,gs,c,t,rfl,tq,Zg r,Bk,ZN ⟨hq,hmm,hn,YG r⟩,(fun _ _ _ r' hr' h=>absurd (by rw [← YH hr']; exact hbid) h),fun _ _ _ r' hr' _ H7 f3=>?_⟩;obtain rfl:=YH hr';rw [em,o4];refine ⟨f3 _ _ hy,?_,fun x u qq=>?_,Jf,?_⟩
    ·rw [List.length_take]; exact Nat.lt_of_le_of_lt (Nat.min_le_right _ _) (by show 2 < sizeLine; decide)
    ·rw [Jq (Jr qq hD)]; exact f3 _ _ (f2 _ _ qq)
    ·match i,hi with
     | 0,_=>rfl
     | 1,_=>rfl
   ·rintro ys H6 ⟨f2,hy,rfl⟩;exact ⟨D,(e11.trans f1).trans f2,f1.trans f2,hy,rfl⟩
  rintro σ1 H12 ⟨D4,e12,g12,hE4,rfl⟩;have k2':=(g11.trans g12) _ _ hE2;have k3':=g12 _ _ hE3;refine ⟨_,rfl,_,rfl,_,rfl,by show 3≤sizeLine; decide,fun l nl=>⟨l,rfl,⟨_,Jo.of Jf⟩,?_⟩⟩;have hl:upd H12 l (.lst [.ref D2,.ref D3,.ref D4]) l=some (.lst [.ref D2,.ref D3,.ref D4]):=Jf;have s13:=Jg.upd (o:=.lst [.ref D2,.ref D3,.ref D4]) nl;generalize upd H12 l (.lst [.ref D2,.ref D3,.ref D4])=H13 at hl s13;refine Jan (xs:=[.ref D2,.ref D3,.ref D4]) (fun i σ H14=>H14=H13∧∃ v11,σ=[some (.ref lb),some (.ref lp),some (.int (m:Int)),some (.int n),some (.str (hs r)),some (.int bid),some (.ref dn),some (.ref D1),some (.ref D2),some (.ref D3),some (.ref D4),v11,none,none]) ⟨rfl,_,rfl⟩ (fun i σ H14 _ z=>by rw [z.1]; exact Jo.of hl) ?_ ?_
  ·rintro i xv σ H14 hx ⟨rfl,v11,rfl⟩;obtain ⟨Dk,vk,rfl,hDk,fk⟩:∃ Dk vk,xv=.ref Dk∧H14 Dk=some (.lst [vk,vk])∧JeR vk=true:=by
    match i,hx with
    | 0,hx=>exact ⟨D2,vl,(Option.some.inj hx).symm,s13 _ _ k2',fl⟩
    | 1,hx=>exact ⟨D3,vb,(Option.some.inj hx).symm,s13 _ _ k3',fb⟩
    | 2,hx=>exact ⟨D4,va,(Option.some.inj hx).symm,s13 _ _ hE4,fa⟩
   exact ⟨_,rfl,Dk,_,_,vk,rfl,rfl,Jo.of hDk,rfl,_,rfl,Dk,_,_,vk,rfl,rfl,Jo.of hDk,rfl,vk,rfl,fk,_,rfl,ZJ ⟨rfl,_,rfl⟩⟩
  rintro σ H14 ⟨rfl,v11,rfl⟩;have e14:=e12.trans s13;refine ⟨by show 2≤sizeLine; decide,fun l2 nl2=>⟨l2,rfl,⟨_,Jo.of Jf⟩,?_⟩⟩;have hl2:upd H14 l2 (.lst [.str "north",.str "south"]) l2=some (.lst [.str "north",.str "south"]):=Jf;have s15:=Jg.upd (o:=.lst [.str "north",.str "south"]) nl2;generalize upd H14 l2 (.lst [.str "north",.str "south"])=H15 at hl2 s15;have e15:=e14.trans s15;refine Jan (xs:=[.str "north",.str "south"]) (fun i σ H16=>Jg H15 H16∧∃ v12 v13,σ=[some (.ref lb),some (.ref lp),some (.int (m:Int)),some (.int n),some (.str (hs r)),some (.int bid),some (.ref dn),some (.ref D1),some (.ref D2),some (.ref D3),some (.ref D4),v11,v12,v13]) ⟨Jg.refl _,_,_,rfl⟩ (fun i σ H16 _ z=>Jo.of (z.1 _ _ hl2)) ?_ ?_
  ·rintro i xv σ H16 hx ⟨e16,v12,v13,rfl⟩;obtain ⟨hd,rfl⟩:=Jkd hx;have e016:=e15.trans e16;have B16:=B1.same e016;obtain ⟨kdx,lk,hk⟩:=B16.ins;have tp:=YB (B16.B.G.p3 p hp);refine ⟨_,rfl,lb,_,_,.ref k1,rfl,rfl,Jo.of (e016 _ _ hlb),rfl,k1,kdx,_,rfl,hk,rfl,_,rfl,lp,_,_,.str p,rfl,rfl,Jo.of (e016 _ _ hlp),rfl,_,rfl,_,rfl,_,rfl,_,rfl,k1,b1,p,hs r,hs hd,(m:Int),n,ps1,zs1,gs1,c,t,rfl,tp,Zg r,Zg hd,B16,ZN ⟨hp,hmm,hn,YG r⟩,(fun _ h=>by rw [YG] at h; cases h),fun _ _ _ r' h' hr' hh' H17 e17=>?_⟩;obtain rfl:=YH hr';obtain rfl:=YH hh';rw [em];have e017:=e016.trans e17;obtain ⟨v2,hv2,fv2,hcs⟩:∃ v2,stepV (zs2.map (·.2)) gs2 c m (f p) n r hd=v2∧JeR v2=true∧((stepV (zs1.map (·.2)) gs1 c m p n r hd=.non∧v2=.non)∨∃ w∈ps1,stepV (zs1.map (·.2)) gs1 c m p n r hd=.str w∧v2=.str (f w)):=by
    rcases R.stepV (c:=c) (m:=m) (n:=n) (r:=r) (b:=hd) hp with ⟨h1,h2⟩ | ⟨w,hw,h1,h2⟩
    ·exact ⟨.non,h2,rfl,.inl ⟨h1,rfl⟩⟩
    ·exact ⟨_,h2,rfl,.inr ⟨w,hw,h1,rfl⟩⟩
   refine ⟨fun σ1 H18=>H18=H17∧σ1=[some (.ref lb),some (.ref lp),some (.int (m:Int)),some (.int n),some (.str (hs r)),some (.int bid),some (.ref dn),some (.ref D1),some (.ref D2),some (.ref D3),some (.ref D4),v11,some (.str (hs hd)),some v2],?_,?_⟩
   ·rcases hcs with ⟨h1,rfl⟩ | ⟨w,hw,h1,rfl⟩
    ·rw [h1];exact ⟨_,rfl,_,rfl,ZJ ⟨rfl,rfl⟩⟩
    ·rw [h1];have g:=Jat.k (k:=Sum.inr w) (e017 _ _ hdn);rw [hkv w hw] at g;exact ⟨_,rfl,_,rfl,Y9 ⟨_,rfl,dn,rfl,.inl ⟨kvs,.inl (e017 _ _ hdn)⟩,_,rfl,_,g,rfl,rfl⟩⟩
   rintro σ1 H18 ⟨rfl,rfl⟩;have B18:=B2.same e017;obtain ⟨kdx2,lk2,hk2⟩:=B18.ins;have tp2:=YB (B18.B.G.p3 (f p) hp2);refine ⟨_,rfl,lb,_,_,.ref k2,rfl,rfl,Jo.of (e017 _ _ hlb),rfl,k2,kdx2,_,rfl,hk2,rfl,_,rfl,lp,_,_,.str (f p),rfl,rfl,Jo.of (e017 _ _ hlp),rfl,_,rfl,_,rfl,_,rfl,_,rfl,k2,b2,f p,hs r,hs hd,(m:Int),n,ps2,zs2,gs2,c,t,rfl,tp2,Zg r,Zg hd,B18,ZN ⟨hp2,hmm,hn,YG r⟩,(fun _ h=>by rw [YG] at h; cases h),fun _ _ _ r' h' hr' hh' H19 e19=>?_⟩;obtain rfl:=YH hr';obtain rfl:=YH hh';rw [em,hv2];exact ⟨_,rfl,v2,rfl,fv2,_,rfl,ZJ ⟨(e16.trans e17).trans e19,_,_,rfl⟩⟩
  ·rintro σ H16 ⟨e16,v12,v13,rfl⟩;exact q H16 (e15.trans e16)
end
section
variable {P:Program} {w:World} {K:PySem.W.Frag} {mg:Str→Option Value} {base:Heap}
structure Ren (ps nn:List Str) (f:Str→Str):Prop where
 m:∀ p∈ps,f p∈nn
 o:∀ p∈ps,∀ q∈ps,sle p q→sle (f p) (f q)
 i:∀ p∈ps,∀ q∈ps,f p=f q→p=q
theorem JnW {ps nn od row:List Str} (op:od.Perm ps) (os:od.Pairwise sle) (pd:ps.Nodup) (rp:row.Perm nn) (rs:row.Pairwise sle) (nd:nn.Nodup) (hl:nn.length=ps.length):∃ f,Ren ps nn f∧∀ (i:Nat) p s,od[i]?=some p→row[i]?=some s→f p=s:=by
 have odn:od.Nodup:=op.nodup_iff.mpr pd;have rdn:row.Nodup:=rp.nodup_iff.mpr nd;have hlen:row.length=od.length:=by rw [rp.length_eq,hl,op.length_eq]
 have inj:∀ {l:List Str} {i j:Nat} {p:Str},l.Nodup→l[i]?=some p→l[j]?=some p→i=j:=fun {l i j p} h h1 h2=>by
  have hi:=(List.getElem?_eq_some_iff.mp h1).1;exact (List.getElem?_inj hi h).mp (h1.trans h2.symm)
 have ch:∀ p,∃ s,∀ (i:Nat) s',od[i]?=some p→row[i]?=some s'→s'=s:=by
  intro p;by_cases h:∃ (i:Nat) (s:Str),od[i]?=some p∧row[i]?=some s
  ·obtain ⟨i,s,h1,h2⟩:=h;refine ⟨s,fun j s' h3 h4=>?_⟩;obtain rfl:=inj odn h1 h3;rw [h2] at h4;exact (Option.some.inj h4).symm
  ·exact ⟨"",fun j s' h3 h4=>absurd ⟨j,s',h3,h4⟩ h⟩
 obtain ⟨f,hf⟩:=Classical.axiomOfChoice ch;have hf:∀ p (i:Nat) s',od[i]?=some p→row[i]?=some s'→s'=f p:=hf;have at_:∀ p∈ps,∃ i:Nat,od[i]?=some p∧row[i]?=some (f p):=fun p hp=>by
  obtain ⟨i,hi⟩:=List.getElem?_of_mem (op.mem_iff.mpr hp);have hlt:=(List.getElem?_eq_some_iff.mp hi).1;obtain ⟨s,hs⟩:∃ s,row[i]?=some s:=⟨_,List.getElem?_eq_getElem (by omega)⟩
  exact ⟨i,hi,by rw [hs,hf p i s hi hs]⟩
 have pw:∀ {l:List Str} {i j:Nat} {p q:Str},l.Pairwise sle→i < j→l[i]?=some p→l[j]?=some q→sle p q:=fun {l i j p q} h hij h1 h2=>by
  obtain ⟨a1,b1⟩:=List.getElem?_eq_some_iff.mp h1;obtain ⟨a2,b2⟩:=List.getElem?_eq_some_iff.mp h2;have:=List.pairwise_iff_getElem.mp h i j a1 a2 hij;rwa [b1,b2] at this
 refine ⟨f,⟨fun p hp=>?_,fun p hp q hq h=>?_,fun p hp q hq h=>?_⟩,fun i p s h1 h2=>(hf p i s h1 h2).symm⟩
 ·obtain ⟨i,_,h2⟩:=at_ p hp;exact rp.mem_iff.mp (List.mem_of_getElem? h2)
 ·obtain ⟨i,h1,h2⟩:=at_ p hp;obtain ⟨j,h3,h4⟩:=at_ q hq;rcases Nat.lt_trichotomy i j with hij | hij | hij
  ·exact pw rs hij h2 h4
  ·subst hij;rw [h2] at h4;rw [Option.some.inj h4];exact JhQ _
  ·have:=JhR h (pw os hij h3 h1);rw [this];exact JhQ _
 ·obtain ⟨i,h1,h2⟩:=at_ p hp;obtain ⟨j,h3,h4⟩:=at_ q hq;rw [h] at h2;obtain rfl:=inj rdn h2 h4;rw [h1] at h3;exact Option.some.inj h3
abbrev ff (f:Str→Str) (z:Str×Str):Str×Str:=(f z.1,f z.2)
def Jjv (K:PySem.W.Frag):Sp:=fun vs H Q _=>∃ (t ln:Addr) (nn ps:List Str) (zs:List (V×(Str×Str))) (gs:List Str),vs=[.ref t,.ref ln]∧Ground K H t ps zs gs∧H ln=some (.lst (nn.map V.str))∧nn.length=ps.length∧nn.Nodup∧∀ (tt pn pl pg dn:Addr) (f:Str→Str) (ls:List (V×(Str×Str))) (kvs:List (JO×V)) (H':Hp),Jg H H'→Ren ps nn f→H' tt=some (.tup [.ref pn,.ref pl,.ref pg,.ref dn])→H' pn=some (.lst ((ps.map f).map V.str))→H' pl=some (.lst (ls.map (·.1)))→Yq K H' ls→ls.map (·.2)=(zs.map (·.2)).map (ff f)→H' pg=some (.lst ((gs.map f).map V.str))→H' dn=some (.dK kvs)→(∀ p∈ps,YC kvs (.inr p)=some (.str (f p)))→Q (.ref tt) H'
theorem JjK (T:Txt K mg):JM P w K mg base Y6 1 T.Jeq T.JdW ["_law_ground_here", "_law_names_here"] (Jjv K):=by
 refine T.Jez.F.ok Jav (fun vs H Q E h=>?_) (fun cdv A outer s H vs Q E hr h=>?_)
 ·obtain ⟨_,_,_,_,_,_,rfl,_⟩:=h;rfl
 ·obtain ⟨t,ln,nn,ps,zs,gs,rfl,G,hln,hl,hnd,q⟩:=h;have hu:=Jcu hr;have szl:sizeLine=16777216:=sizeLine_eq;refine ⟨_,(@Jd _ _ _ _ _ (@Jt _ _ 2 _ _ _ _ Jav.nd rfl (Or.inl rfl) (@JI _ _ _ _ _ _ _ _ _ (@Jbh _) rfl T.JaT PyProof.Rows.boot_sorted (@Ja _ _ _ _ _ (@pv _ 1 _ _ rfl (.inl rfl) rfl rfl) (@Jc _) rfl) (by decide) (by decide) rfl rfl) rfl (.inl rfl)) (@Jd _ _ _ _ _ (@Jt _ _ 3 _ _ _ _ Jav.nd rfl (Or.inl rfl) (@JI _ _ _ _ _ _ _ _ _ (@Jbh _) rfl T.JaT PyProof.Rows.boot_sorted (@Ja _ _ _ _ _ (@JB _ _ _ _ _ _ _ (@YF _) (@pv _ 0 _ _ rfl (.inl rfl) rfl rfl) (@Jb _ _ _ _) (fun _ _=>rfl)) (@Jc _) rfl) (by decide) (by decide) rfl rfl) rfl (.inl rfl)) (@Jd _ _ _ _ _ (@J2 _ _ _ (@Jt _ _ 4 _ _ _ _ Jav.nd rfl (Or.inr rfl) (@Jl3 _ _) rfl (by first | exact .inl rfl | exact .inr rfl | assumption))) (@Jd _ _ _ _ _ (@Yt _ _ _ _ _ _ _ _ PassesOwn.never rfl (@Ze _ _ _ _ _ _ rfl T.Zu (@Ja _ _ _ _ _ (@JI _ _ _ _ _ _ _ _ _ (@Yp _) rfl T.ZQ PySem.boot_len (@Ja _ _ _ _ _ (@pv _ 3 _ _ rfl (.inl rfl) rfl rfl) (@Jc _) rfl) (by decide) (by decide) rfl rfl) (@Jc _) rfl) rfl) (@J8 _ _ 5 _ Jav.nd rfl (Or.inl rfl) (.inl rfl)) (@Jh _ _ _ (@Ji1 _ _ _ _ _ _ _ _ _ hu (@pv _ 4 _ _ rfl (.inr (.inl rfl)) rfl rfl) (@JB _ _ _ _ _ _ _ (@JF _) (@pv _ 3 _ _ rfl (.inl rfl) rfl rfl) (@pv _ 5 _ _ rfl (.inl rfl) rfl rfl) (fun _ _=>rfl)) (@JB _ _ _ _ _ _ _ (@JF _) (@pv _ 2 _ _ rfl (.inl rfl) rfl rfl) (@pv _ 5 _ _ rfl (.inl rfl) rfl rfl) (fun _ _=>rfl)) rfl)) (by intro _; rfl)) (@Jd _ _ _ _ _ (@J2 _ _ _ (@JdP _ _ _ _ _ _ _ _ _ _ 6 2 ["_law_a", "_law_b", "_law_new"] [4] _ _ _ _ ["_law_ground_here", "_law_names_here", "_law_row_here", "_law_order", "_law_new", "_law_k", "_law_lanes"] ((Jl JaW).names) (by decide +kernel) Jav.nd rfl (@Yr _ _ _ _ (@JB _ _ _ _ _ _ _ (@YF _) (@pv _ 0 _ _ rfl (.inl rfl) rfl rfl) (@Jb _ _ _ _) (fun _ _=>rfl))) (fun _ _ _ _=>(show PG _ _ (Jiq K 2 _) from Jh0 rfl (@Jbt _ _ _ _ _ (@YK _ _ _ _ _ _ _ _ _ 0 (by decide +kernel) rfl rfl) (@Jbt _ _ _ _ _ (@YK _ _ _ _ _ _ _ _ _ 1 (by decide +kernel) rfl rfl) (@Jgr _) rfl) rfl))) (fun _ _ _ _=>(@Zh _)) (fun _ _ _ _=>(@YX _ _ _ _ _ (@Ja _ _ _ _ _ (@Jax _ _ _ _ _ _ hu (@JX _ _ _ _ _ _ _ _ _ 2 rfl rfl (by decide) (by decide)) (@Yd _ _ _ _ _ _ _ _ _ 0 rfl rfl (by decide) (by decide)) (fun _ _=>rfl)) (@Ja _ _ _ _ _ (@Jax _ _ _ _ _ _ hu (@JX _ _ _ _ _ _ _ _ _ 2 rfl rfl (by decide) (by decide)) (@Yd _ _ _ _ _ _ _ _ _ 1 rfl rfl (by decide) (by decide)) (fun _ _=>rfl)) (@Jc _) rfl) rfl))) rfl rfl rfl rfl rfl (by intro _; rfl))) (@Jh _ _ _ (@Ju _ _ _ _ (@YX _ _ _ _ _ (@Ja _ _ _ _ _ (@Jcp _ _ _ _ _ _ _ 1 ["_law_p", "_law_new"] [4] _ _ _ _ ["_law_ground_here", "_law_names_here", "_law_row_here", "_law_order", "_law_new", "_law_k", "_law_lanes"] ((Jl JaW).names) (by decide +kernel) (@Yr _ _ _ _ (@JB _ _ _ _ _ _ _ (@YF _) (@pv _ 0 _ _ rfl (.inl rfl) rfl rfl) (@Jb _ _ _ _) (fun _ _=>rfl))) (fun _ _ _ _=>(@YK _ _ _ _ _ _ _ _ _ 0 (by decide +kernel) rfl rfl)) (fun _ _ _ _=>(@Zh _)) (fun _ _ _ _=>(@Jax _ _ _ _ _ _ hu (@JX _ _ _ _ _ _ _ _ _ 1 rfl rfl (by decide) (by decide)) (@Yd _ _ _ _ _ _ _ _ _ 0 rfl rfl (by decide) (by decide)) (fun _ _=>rfl))) rfl rfl rfl (by intro _; rfl)) (@Ja _ _ _ _ _ (@pv _ 6 _ _ rfl (.inl rfl) rfl rfl) (@Ja _ _ _ _ _ (@Jcp _ _ _ _ _ _ _ 1 ["_law_p", "_law_new"] [4] _ _ _ _ ["_law_ground_here", "_law_names_here", "_law_row_here", "_law_order", "_law_new", "_law_k", "_law_lanes"] ((Jl JaW).names) (by decide +kernel) (@Yr _ _ _ _ (@JB _ _ _ _ _ _ _ (@YF _) (@pv _ 0 _ _ rfl (.inl rfl) rfl rfl) (@Jb _ _ _ _) (fun _ _=>rfl))) (fun _ _ _ _=>(@YK _ _ _ _ _ _ _ _ _ 0 (by decide +kernel) rfl rfl)) (fun _ _ _ _=>(@Zh _)) (fun _ _ _ _=>(@Jax _ _ _ _ _ _ hu (@JX _ _ _ _ _ _ _ _ _ 1 rfl rfl (by decide) (by decide)) (@Yd _ _ _ _ _ _ _ _ _ 0 rfl rfl (by decide) (by decide)) (fun _ _=>rfl))) rfl rfl rfl (by intro _; rfl)) (@Ja _ _ _ _ _ (@pv _ 4 _ _ rfl (.inr (.inl rfl)) rfl rfl) (@Jc _) rfl) rfl) rfl) rfl))))))))),?_⟩
  try dsimp only [cxK,Jes]
  obtain ⟨pn0,pl0,pg0,h1,h2,h3,h4,h5⟩:=G.at_;have p2:=G.good.p2;have hzl:=G.good.l1;rw [List.length_map] at hzl;have hgl:=G.good.glen;refine ⟨_,rfl,ln,nn,rfl,Jo.of hln,by omega,fun a1 row n1 rp rs=>?_⟩;have s1:=Jg.upd (o:=.lst (row.map V.str)) n1;have hrow:upd H a1 (.lst (row.map V.str)) a1=some (.lst (row.map V.str)):=Jf;generalize upd H a1 (.lst (row.map V.str))=H1 at s1 hrow;refine ⟨_,rfl,t,_,_,.ref pn0,rfl,rfl,JT.of (s1 _ _ h1),rfl,pn0,ps,rfl,Jo.of (s1 _ _ h2),by omega,fun a2 od n2 op os=>?_⟩;have s2:=s1.trans (Jg.upd (o:=.lst (od.map V.str)) n2);have hod:upd H1 a2 (.lst (od.map V.str)) a2=some (.lst (od.map V.str)):=Jf;have hrow2:=(Jg.upd (o:=.lst (od.map V.str)) n2) _ _ hrow;generalize upd H1 a2 (.lst (od.map V.str))=H2 at s2 hod hrow2;obtain ⟨f,R,hf⟩:=JnW op os G.good.p4 rp rs hnd hl;have odn:od.Nodup:=op.nodup_iff.mpr G.good.p4;have hlen:row.length=od.length:=by rw [rp.length_eq,hl,op.length_eq]
  have hol:od.length≤12:=by rw [op.length_eq]; exact p2
  refine ⟨fun σ1 H3=>∃ dn,H2 dn=none∧Jg H2 H3∧H3 dn=some (.dK [])∧σ1=[some (.ref t),some (.ref ln),some (.ref a1),some (.ref a2),some (.ref dn),none,none],fun dn ndn=>⟨dn,ndn,Jg.upd ndn,Jf,rfl⟩,?_⟩;rintro σ1 H3 ⟨dn,ndn,s3,hdn3,rfl⟩;refine ⟨_,rfl,a2,_,rfl,.inl (Jo.of (s3 _ _ hod)),((od.map V.str).length:Int),rfl,by omega,by rw [List.length_map]; omega,?_⟩;rw [Int.toNat_natCast];refine Zf (n:=(od.map V.str).length) (fun i σ H4=>∃ (kvs:List (JO×V)) (v5:Option V),Jg H2 H4∧H4 dn=some (.dK kvs)∧kvs.length≤i∧(∀ j,j < i→∀ p s,od[j]?=some p→row[j]?=some s→YC kvs (.inr p)=some (.str s))∧σ=[some (.ref t),some (.ref ln),some (.ref a1),some (.ref a2),some (.ref dn),v5,none]) ⟨[],none,s3,hdn3,Nat.le_refl _,fun j hj=>absurd hj (by omega),rfl⟩ ?_ ?_
  ·rintro i σ H4 hi ⟨kvs,v5,s4,hd4,hk4,hv4,rfl⟩;rw [List.length_map] at hi;have ei:(0:Int) + (i:Int)=(i:Int):=by omega
   obtain ⟨p,hp⟩:∃ p,od[i]?=some p:=⟨_,List.getElem?_eq_getElem hi⟩
   obtain ⟨y,hy⟩:∃ y,row[i]?=some y:=⟨_,List.getElem?_eq_getElem (by omega)⟩
   refine ⟨_,rfl,_,rfl,a1,_,_,.str y,rfl,rfl,Jo.of (s4 _ _ hrow2),by rw [ei]; exact Ys (by rw [List.getElem?_map,hy]; rfl),_,rfl,_,rfl,_,rfl,a2,_,_,.str p,rfl,rfl,Jo.of (s4 _ _ hod),by rw [ei]; exact Ys (by rw [List.getElem?_map,hp]; rfl),dn,_,rfl,JeA.k (k:=Sum.inr p) hd4 (by omega),?_⟩;have pl:(Jah kvs (Sum.inr p) (V.str y)).length≤i + 1:=by
    unfold Jah;split
    ·rw [List.length_map]; omega
    ·rw [List.length_append]; show _ + 1≤_; omega
   refine ⟨_,_,fun x u qq=>by rw [Jq (Jr qq ndn)]; exact s4 _ _ qq,Jf,pl,fun j hj p' s' h6 h7=>?_,rfl⟩;rw [JdJ];by_cases hji:j=i
   ·subst hji;rw [hp] at h6;rw [hy] at h7;cases Option.some.inj h6;cases Option.some.inj h7;exact if_pos rfl
   ·rw [if_neg (fun z=>by
     have z:=Sum.inr.inj z;rw [z] at h6;have hlt:=(List.getElem?_eq_some_iff.mp h6).1;exact hji ((List.getElem?_inj hlt odn).mp (h6.trans hp.symm)))]
    exact hv4 j (by omega) p' s' h6 h7
  rintro σ H4 ⟨kvs,v5,s4,hd4,hk4,hv4,rfl⟩;rw [List.length_map] at hv4;have hkf:∀ p∈ps,YC kvs (.inr p)=some (.str (f p)):=fun p hp=>by
   obtain ⟨i,hi⟩:=List.getElem?_of_mem (op.mem_iff.mpr hp);have hlt:=(List.getElem?_eq_some_iff.mp hi).1;obtain ⟨y,hy⟩:∃ y,row[i]?=some y:=⟨_,List.getElem?_eq_getElem (by omega)⟩
   rw [hv4 i hlt p y hi hy,hf i p y hi hy]
  have gp:∀ {H5:Hp} {p:Str},H5 dn=some (.dK kvs)→p∈ps→Jat H5 dn (.str p) (some (.str (f p))):=fun {H5 p} h hp=>by
   have g:=Jat.k (k:=Sum.inr p) h;rw [hkf p hp] at g;exact g
  have S4:=s2.trans s4;refine ⟨fun σ1 H5=>∃ (pl:Addr) (ls:List (V×(Str×Str))),Jg H4 H5∧H5 pl=some (.lst (ls.map (·.1)))∧Yq K H5 ls∧ls.map (·.2)=(zs.map (·.2)).map (ff f)∧σ1=[some (.ref t),some (.ref ln),some (.ref a1),some (.ref a2),some (.ref dn),v5,some (.ref pl)],?_,?_⟩
  ·refine ⟨_,rfl,t,_,_,.ref pl0,rfl,rfl,JT.of (S4 _ _ h1),rfl,pl0,rfl,⟨_,Jo.of (S4 _ _ h3)⟩,fun D hD=>?_⟩;refine JdY (xs:=zs.map (·.1)) (fun i ys H8=>Jg H4 H8∧H8 D=some (.lst ys)∧∃ ls:List (V×(Str×Str)),ys=ls.map (·.1)∧Yq K H8 ls∧ls.map (·.2)=((zs.take i).map (·.2)).map (ff f)) rfl rfl (fun i ys H8 p=>Jo.of (p.1 _ _ (S4 _ _ h3))) ⟨Jg.upd hD,Jf,[],rfl,(fun z hz=>nomatch hz),rfl⟩ (fun i ys H8 p=>p.2.1) ?_ ?_
   ·rintro i x ys H8 hx ⟨e8,hy,ls,rfl,hP,hls⟩;rw [List.getElem?_map] at hx;obtain ⟨z,hz,rfl⟩:=Option.map_eq_some_iff.mp hx;obtain ⟨b,eb,hb⟩:=h4 z (List.mem_of_getElem? hz);obtain ⟨r1,r2⟩:=G.good.l2 z.2 (List.mem_map.mpr ⟨z,List.mem_of_getElem? hz,rfl⟩);refine ⟨b,.str z.2.1,.str z.2.2,eb,(S4.trans e8).tup hb,?_⟩;simp only [JbT,if_true];have hll:ls.length≤40:=by
     have z:=congrArg List.length hls;rw [List.length_map,List.length_map,List.length_map,List.length_take] at z;omega
    refine ⟨_,rfl,_,rfl,dn,_,rfl,gp (e8 _ _ hd4) r1,_,rfl,_,rfl,dn,_,rfl,gp (e8 _ _ hd4) r2,by show 2≤sizeLine; omega,fun t nt=>?_⟩;have e9:=Jg.upd (o:=.tup [.str (f z.2.1),.str (f z.2.2)]) nt;refine ⟨e9 _ _ hy,by rw [List.length_map]; omega,fun b u e=>?_,Jf,ls ++ [(.ref t,ff f z.2)],by rw [List.map_append]; rfl,fun z' hz'=>?_,?_⟩
    ·rw [Jq (Jr e hD)]; exact e9 _ _ (e8 b u e)
    ·rcases List.mem_append.mp hz' with q | q
     ·exact JbV (YL hP e9) (e9 _ _ hy) z' q
     ·rw [List.mem_singleton.mp q];exact JbV (zs:=[(.ref t,ff f z.2)]) (fun z' hz'=>by rw [List.mem_singleton.mp hz']; exact ⟨t,rfl,JT.of Jf⟩) (e9 _ _ hy) _ (List.mem_singleton.mpr rfl)
    ·rw [List.map_append,hls,List.take_succ,hz,List.map_append,List.map_append]; rfl
   ·rintro ys H8 ⟨e8,hy,ls,rfl,hP,hls⟩;rw [List.length_map,List.take_length] at hls;exact ⟨D,ls,e8,hy,hP,hls,rfl⟩
  rintro σ1 H5 ⟨pl,ls,e5,hpl,hPl,hls,rfl⟩;have S5:=S4.trans e5;refine ⟨_,rfl,t,_,_,.ref pn0,rfl,rfl,JT.of (S5 _ _ h1),rfl,pn0,rfl,⟨_,Jo.of (S5 _ _ h2)⟩,fun D1 hD1=>?_⟩;refine JaY (xs:=ps.map V.str) (fun i ys H6=>Jg H5 H6∧H6 D1=some (.lst ys)∧ys=((ps.take i).map f).map V.str) rfl (fun i ys H6 z=>Jo.of (z.1 _ _ (S5 _ _ h2))) ⟨Jg.upd hD1,Jf,rfl⟩ (fun i ys H6 z=>z.2.1) ?_ ?_
  ·rintro i xv ys H6 hx ⟨e6,hy,rfl⟩;rw [List.getElem?_map] at hx;obtain ⟨p,hp,rfl⟩:=Option.map_eq_some_iff.mp hx;refine tcT ⟨_,rfl,_,rfl,dn,_,rfl,gp ((e5.trans e6) _ _ hd4) (List.mem_of_getElem? hp),hy,?_,fun x u qq=>?_,Jf,?_⟩
   ·rw [List.length_map,List.length_map,List.length_take]; omega
   ·rw [Jq (Jr qq hD1)]; exact e6 _ _ qq
   ·rw [List.take_succ,hp,List.map_append,List.map_append]; rfl
  rintro ys H6 ⟨e6,hy1,rfl⟩;rw [List.length_map,List.take_length] at hy1;have S6:=S5.trans e6;refine ⟨_,rfl,_,rfl,t,_,_,.ref pg0,rfl,rfl,JT.of (S6 _ _ h1),rfl,pg0,rfl,⟨_,Jo.of (S6 _ _ h5)⟩,fun D2 hD2=>?_⟩;refine JaY (xs:=gs.map V.str) (fun i ys H7=>Jg H6 H7∧H7 D2=some (.lst ys)∧ys=((gs.take i).map f).map V.str) rfl (fun i ys H7 z=>Jo.of (z.1 _ _ (S6 _ _ h5))) ⟨Jg.upd hD2,Jf,rfl⟩ (fun i ys H7 z=>z.2.1) ?_ ?_
  ·rintro i xv ys H7 hx ⟨e7,hy,rfl⟩;rw [List.getElem?_map] at hx;obtain ⟨p,hp,rfl⟩:=Option.map_eq_some_iff.mp hx;refine tcT ⟨_,rfl,_,rfl,dn,_,rfl,gp (((e5.trans e6).trans e7) _ _ hd4) (G.good.g1 p (List.mem_of_getElem? hp)),hy,?_,fun x u qq=>?_,Jf,?_⟩
   ·rw [List.length_map,List.length_map,List.length_take]; omega
   ·rw [Jq (Jr qq hD2)]; exact e7 _ _ qq
   ·rw [List.take_succ,hp,List.map_append,List.map_append]; rfl
  rintro ys H7 ⟨e7,hy2,rfl⟩;rw [List.length_map,List.take_length] at hy2;refine ⟨_,rfl,by show 4≤sizeLine; decide,fun tt ntt=>?_⟩;have s8:=Jg.upd (o:=.tup [.ref D1,.ref pl,.ref D2,.ref dn]) ntt;have e58:=(e6.trans e7).trans s8;exact q tt D1 pl D2 dn f ls kvs _ (S5.trans e58) R Jf ((e7.trans s8) _ _ hy1) (e58 _ _ hpl) (YL hPl e58) hls (s8 _ _ hy2) ((e5.trans e58) _ _ hd4) hkf
end
section
variable {P:Program} {w:World} {K:PySem.W.Frag} {mg:Str→Option Value} {base:Heap}
theorem Bk.put {C CB k b lb:Addr} {H:Hp} {ps:List Str} {zs:List (V×(Str×Str))} {gs:List Str} {c:Int} {t n:Nat} {xs ys:List V} (h:Bk K C CB H k b ps zs gs c t n) (hn:1≤n) (hl:H lb=some (.lst xs)) (hx:xs=[]∨∃ g C' dx fs,xs=[.ref g]∧H g=some (.ins C' dx fs)):Bk K C CB (upd H lb (.lst ys)) k b ps zs gs c t n:=by
 obtain ⟨⟨dx,tp,tl,tg,h1,h2,h3,h4,h5⟩,G⟩:=h.B;obtain ⟨kdx,l,rs,k1,k2,k3,k4⟩:=h.at_;have u:∀ {x:Addr} {o:HO},H x=some o→(∀ zs,o≠.lst zs)→upd H lb (.lst ys) x=some o:=fun hx ho=>by
  rw [Jq (Z5 hx hl (ho _))]; exact hx
 have ll:l≠lb:=fun z=>by
  rw [z,hl] at k2;have k2:xs=rs.map V.ref:=by injection k2 with k2; injection k2
  rcases hx with hx | ⟨g,C',dx',fs,hx,hg⟩
  ·rw [hx] at k2;have:=congrArg List.length k2;rw [List.length_map,k3] at this;simp at this;omega
  ·rw [hx] at k2;cases rs with
   | nil=>cases k2
   | cons r rs =>
    have e:r=g:=by
     have:=congrArg List.head? k2;simpa using this.symm
    obtain ⟨kvs,r1,_⟩:=k4 0 r rfl;rw [e,hg] at r1;cases r1
 exact ⟨⟨⟨dx,tp,tl,tg,u h1 (fun _ z=>nomatch z),u h2 (fun _ z=>nomatch z),u h3 (fun _ z=>nomatch z),JbV h4 hl,u h5 (fun _ z=>nomatch z)⟩,G⟩,h.c0,h.c1,h.t1,kdx,l,rs,u k1 (fun _ z=>nomatch z),by rw [Jq ll]; exact k2,k3,fun i a q=>let ⟨kvs,r1,r2⟩:=k4 i a q; ⟨kvs,u r1 (fun _ z=>nomatch z),r2⟩⟩
theorem JiV {f:Str→Str} {ps:List Str} (hi:∀ p∈ps,∀ q∈ps,f p=f q→p=q) {p:Str} (hp:p∈ps):∀ {l:List (Str×Str)},(∀ z∈l,z.1∈ps)→Jp (l.map (ff f)) (f p)=(Jp l p).map f
 | [],_=>rfl
 | z :: l,h=>by
  have ih:=JiV hi hp (l:=l) fun y hy=>h y (List.mem_cons_of_mem _ hy)
  unfold Jp at ih ⊢;rw [List.map_cons,List.filter_cons,List.filter_cons];by_cases e:z.1=p
  ·rw [if_pos (decide_eq_true (show (ff f z).1=f p by rw [← e])),if_pos (decide_eq_true e),List.map_cons,List.map_cons,List.map_cons,ih]
  ·rw [if_neg (by rw [decide_eq_true_eq]; exact fun z'=>e (hi _ (h z (List.mem_cons_self ..)) _ hp z')),if_neg (by rw [decide_eq_true_eq]; exact e)];exact ih
theorem JoN {ps nn gs ps1 gs1 gs2:List Str} {zs ls zs1 zs2:List (V×(Str×Str))} {f:Str→Str} (G:Jbk ps (zs.map (·.2)) gs) (R:Ren ps nn f) (hls:ls.map (·.2)=(zs.map (·.2)).map (ff f)) (pp1:ps1.Perm ps) (zp1:zs1.Perm zs) (zo1:(zs1.map (·.2)).Pairwise ple) (gp1:gs1.Perm gs) (zp2:zs2.Perm ls) (zo2:(zs2.map (·.2)).Pairwise ple) (gp2:gs2.Perm (gs.map f)) :
  RnB (zs1.map (·.2)) (zs2.map (·.2)) gs1 gs2 ps1 f:=by
 have wi:∀ {p w:Str},w∈Jp (zs1.map (·.2)) p→w∈ps:=fun {p w} h=>JeC G ((JdI (zp1.map (·.2)) p).mem_iff.mp h)
 refine ⟨fun p hp=>?_,fun p hp w hw=>pp1.mem_iff.mpr (wi hw),fun p hp=>?_⟩
 ·have hp:=pp1.mem_iff.mp hp;refine Jfz (fun _ _=>JhR) ?_ (Jd3 zo2 (f p)) ?_
  ·refine (JdI (zp2.map (·.2)) (f p)).trans ?_;rw [hls,JiV R.i hp fun z hz=>(G.l2 z hz).1];exact ((JdI (zp1.map (·.2)) p).symm).map f
  ·rw [List.pairwise_map];exact (Jd3 zo1 p).imp_of_mem fun ha hb h=>R.o _ (wi ha) _ (wi hb) h
 ·have hp:=pp1.mem_iff.mp hp;show decide (f p∈gs2)=decide (p∈gs1);rw [Bool.eq_iff_iff,decide_eq_true_eq,decide_eq_true_eq,gp2.mem_iff,gp1.mem_iff,List.mem_map];exact ⟨fun ⟨y,hy,e⟩=>by rw [← R.i y (G.g1 y hy) p hp e]; exact hy,fun h=>⟨p,h,rfl⟩⟩
theorem Jml {ps nn gs:List Str} {zs ls:List (V×(Str×Str))} {f:Str→Str} (G:Jbk ps (zs.map (·.2)) gs) (R:Ren ps nn f) (gn:∀ y∈nn,Y5 y=true) (hls:ls.map (·.2)=(zs.map (·.2)).map (ff f)):Jbk (ps.map f) (ls.map (·.2)) (gs.map f):=by
 refine ⟨by rw [List.length_map]; exact G.p1,by rw [List.length_map]; exact G.p2,fun p hp=>?_,?_,?_,fun z hz=>?_,?_,fun g hg=>?_,?_⟩
 ·obtain ⟨y,hy,rfl⟩:=List.mem_map.mp hp;exact gn _ (R.m y hy)
 ·show List.Pairwise _ _;rw [List.pairwise_map];exact List.Pairwise.imp_of_mem (fun ha hb h e=>h (R.i _ ha _ hb e)) G.p4
 ·rw [hls,List.length_map]; exact G.l1
 ·rw [hls] at hz;obtain ⟨y,hy,rfl⟩:=List.mem_map.mp hz;exact ⟨List.mem_map.mpr ⟨_,(G.l2 y hy).1,rfl⟩,List.mem_map.mpr ⟨_,(G.l2 y hy).2,rfl⟩⟩
 ·rw [hls];show List.Pairwise _ _;rw [List.pairwise_map];refine List.Pairwise.imp_of_mem (fun {a b} ha hb h e=>h ?_) G.l3;have e1:=R.i _ (G.l2 a ha).1 _ (G.l2 b hb).1 (congrArg Prod.fst e);have e2:=R.i _ (G.l2 a ha).2 _ (G.l2 b hb).2 (congrArg Prod.snd e);exact Prod.ext e1 e2
 ·obtain ⟨y,hy,rfl⟩:=List.mem_map.mp hg;exact List.mem_map.mpr ⟨_,G.g1 y hy,rfl⟩
 ·show List.Pairwise _ _;rw [List.pairwise_map];exact List.Pairwise.imp_of_mem (fun ha hb h e=>h (R.i _ (G.g1 _ ha) _ (G.g1 _ hb) e)) G.g2
def Jc9 (T:Txt K mg) (H:Hp) (k:Addr) (ps:List Str) (zs:List (V×(Str×Str))) (gs:List Str) (c:Int) (t:Nat):Prop:=∃ (b:Addr) (ps':List Str) (zs':List (V×(Str×Str))) (gs':List Str),Bk K T.JD T.JA H k b ps' zs' gs' c t (t + 1)∧ps'.Perm ps∧zs'.Perm zs∧(zs'.map (·.2)).Pairwise ple∧gs'.Perm gs
theorem Jc9.same {T:Txt K mg} {H H':Hp} {k:Addr} {ps:List Str} {zs:List (V×(Str×Str))} {gs:List Str} {c:Int} {t:Nat} (h:Jc9 T H k ps zs gs c t) (e:Jg H H'):Jc9 T H' k ps zs gs c t:=let ⟨b,ps',zs',gs',h1,h2⟩:=h; ⟨b,ps',zs',gs',h1.same e,h2⟩
theorem Jc9.put {T:Txt K mg} {H:Hp} {k lb:Addr} {ps:List Str} {zs:List (V×(Str×Str))} {gs:List Str} {c:Int} {t:Nat} {xs ys:List V} (h:Jc9 T H k ps zs gs c t) (hl:H lb=some (.lst xs)) (hx:xs=[]∨∃ g C' dx fs,xs=[.ref g]∧H g=some (.ins C' dx fs)):Jc9 T (upd H lb (.lst ys)) k ps zs gs c t:=let ⟨b,ps',zs',gs',h1,h2⟩:=h; ⟨b,ps',zs',gs',h1.put (by omega) hl hx,h2⟩
theorem Joa (T:Txt K mg):JM P w K mg base Y6 12 T.Jj0 T.Jiv ["_law_script"] (Jjx K):=by
 refine T.JmU.F.ok Zx (fun vs H Q E h=>?_) (fun cdv A outer s H vs Q E hr h=>?_)
 ·obtain ⟨_,_,rfl,_⟩:=h;rfl
 ·obtain ⟨a,ns,rfl,hS,hl,q⟩:=h;have hu:=Jcu hr;have szl:sizeLine=16777216:=sizeLine_eq;refine ⟨_,(@Jd _ _ _ _ _ (@Jt _ _ 1 _ _ _ _ Zx.nd rfl (Or.inl rfl) (@Jn _ _ _ _ _ _ _ _ _ _ _ _ _ _ _ T.Jfw (JkC T) (hr.mono (by decide)) JL (@Ja _ _ _ _ _ (@pv _ 0 _ _ rfl (.inl rfl) rfl rfl) (@Ja _ _ _ _ _ (@Jb _ _ _ _) (@Jc _) rfl) rfl) rfl (by decide) rfl rfl) rfl (.inl rfl)) (@Jd _ _ _ _ _ (@J2 _ _ _ (@Jt _ _ 2 _ _ _ _ Zx.nd rfl (Or.inl rfl) (@Jn _ _ _ _ _ _ _ _ _ _ _ _ _ _ _ T.Jez (JjK T) (hr.mono (by decide)) JL (@Ja _ _ _ _ _ (@pv _ 1 _ _ rfl (.inl rfl) rfl rfl) (@Ja _ _ _ _ _ (@Jn _ _ _ _ _ _ _ _ _ _ _ _ _ _ _ T.JeW (Jid T) (hr.mono (by decide)) JL (@Ja _ _ _ _ _ (@Jn _ _ _ _ _ _ _ _ _ _ _ _ _ _ _ T.JbK (Ja7 T) (hr.mono (by decide)) JL (@Ja _ _ _ _ _ (@pv _ 0 _ _ rfl (.inl rfl) rfl rfl) (@Ja _ _ _ _ _ (@Jb _ _ _ _) (@Jc _) rfl) rfl) rfl (by decide) rfl rfl) (@Ja _ _ _ _ _ (@JI _ _ _ _ _ _ _ _ _ (@Yp _) rfl T.ZQ PySem.boot_len (@Ja _ _ _ _ _ (@JB _ _ _ _ _ _ _ (@YF _) (@pv _ 1 _ _ rfl (.inl rfl) rfl rfl) (@Jb _ _ _ _) (fun _ _=>rfl)) (@Jc _) rfl) (by decide) (by decide) rfl rfl) (@Jc _) rfl) rfl) rfl (by decide) rfl rfl) (@Jc _) rfl) rfl) rfl (by decide) rfl rfl) rfl (.inl rfl))) (@Jd _ _ _ _ _ (@Jt _ _ 3 _ _ _ _ Zx.nd rfl (Or.inl rfl) (@Jn _ _ _ _ _ _ _ _ _ _ _ _ _ _ _ T.JgO (Jl7 T) (hr.mono (by decide)) JL (@Ja _ _ _ _ _ (@Jn _ _ _ _ _ _ _ _ _ _ _ _ _ _ _ T.JbK (Ja7 T) (hr.mono (by decide)) JL (@Ja _ _ _ _ _ (@pv _ 0 _ _ rfl (.inl rfl) rfl rfl) (@Ja _ _ _ _ _ (@Jb _ _ _ _) (@Jc _) rfl) rfl) rfl (by decide) rfl rfl) (@Jc _) rfl) rfl (by decide) rfl rfl) rfl (.inl rfl)) (@Jd _ _ _ _ _ (@Jt _ _ 4 _ _ _ _ Zx.nd rfl (Or.inl rfl) (@Jn _ _ _ _ _ _ _ _ _ _ _ _ _ _ _ T.JiK (Jnh T) (hr.mono (by decide)) JL (@Ja _ _ _ _ _ (@Jn _ _ _ _ _ _ _ _ _ _ _ _ _ _ _ T.JbK (Ja7 T) (hr.mono (by decide)) JL (@Ja _ _ _ _ _ (@pv _ 0 _ _ rfl (.inl rfl) rfl rfl) (@Ja _ _ _ _ _ (@Jb _ _ _ _) (@Jc _) rfl) rfl) rfl (by decide) rfl rfl) (@Jc _) rfl) rfl (by decide) rfl rfl) rfl (.inl rfl)) (@Jd _ _ _ _ _ (@Jt _ _ 5 _ _ _ _ Zx.nd rfl (Or.inl rfl) (@Ye _ _ _ _ (@Jc _)) rfl (.inl rfl)) (@Jd _ _ _ _ _ (@Yt _ _ _ _ _ _ _ _ PassesOwn.never rfl (@Yr _ _ _ _ (@Ye _ _ _ _ (@Ja _ _ _ _ _ (@pv _ 1 _ _ rfl (.inl rfl) rfl rfl) (@Ja _ _ _ _ _ (@pv _ 2 _ _ rfl (.inl rfl) rfl rfl) (@Jc _) rfl) rfl))) (@J8 _ _ 6 _ Zx.nd rfl (Or.inl rfl) (.inl rfl)) (@Jh _ _ _ (@JH _ _ _ _ (@Ja5 _ _ _ _ _ _ _ _ _ _ _ _ PySem.F.plainAttrs_list PySem.F.slot_list_append PySem.F.type_list_append (@Y3 _) (@pv _ 5 _ _ rfl (.inl rfl) rfl rfl) (@Ja _ _ _ _ _ (@Ji3 _ _ _ _ _ _ _ _ _ _ _ _ _ _ _ _ _ T.Ji6 (Jif T) (hr.mono (by decide)) rfl T.Jle T.Jdr.b .nil Y0 (@Ja _ _ _ _ _ (@Ji3 _ _ _ _ _ _ _ _ _ _ _ _ _ _ _ _ _ T.Jij (Jhy T) (hr.mono (by decide)) rfl T.Jjk T.Jc8.b .nil JL (@Ja _ _ _ _ _ (@ZC _ _ _ _ _ _ _ _ _ (@Jc3 _) rfl T.JfJ PyProof.Rows.boot_list (@Ja _ _ _ _ _ (@JB _ _ _ _ _ _ _ (@YF _) (@pv _ 6 _ _ rfl (.inl rfl) rfl rfl) (@Jb _ _ _ _) (fun _ _=>rfl)) (@Jc _) rfl) (by decide) (by decide) rfl rfl) (@Ja _ _ _ _ _ (@ZC _ _ _ _ _ _ _ _ _ (@Jc3 _) rfl T.JfJ PyProof.Rows.boot_list (@Ja _ _ _ _ _ (@JB _ _ _ _ _ _ _ (@YF _) (@pv _ 6 _ _ rfl (.inl rfl) rfl rfl) (@Jb _ _ _ _) (fun _ _=>rfl)) (@Jc _) rfl) (by decide) (by decide) rfl rfl) (@Ja _ _ _ _ _ (@ZC _ _ _ _ _ _ _ _ _ (@Jc3 _) rfl T.JfJ PyProof.Rows.boot_list (@Ja _ _ _ _ _ (@JB _ _ _ _ _ _ _ (@YF _) (@pv _ 6 _ _ rfl (.inl rfl) rfl rfl) (@Jb _ _ _ _) (fun _ _=>rfl)) (@Jc _) rfl) (by decide) (by decide) rfl rfl) (@Jc _) rfl) rfl) rfl) (by decide) rfl rfl) (@Ja _ _ _ _ _ (@pv _ 3 _ _ rfl (.inl rfl) rfl rfl) (@Ja _ _ _ _ _ (@pv _ 4 _ _ rfl (.inl rfl) rfl rfl) (@Jc _) rfl) rfl) rfl) (by decide) rfl rfl) (@Jc _) rfl) rfl rfl rfl rfl rfl) rfl)) (by intro _; rfl)) (@Jd _ _ _ _ _ (@Yt _ _ _ _ _ _ _ _ PassesOwn.never rfl (@Yr _ _ _ _ (@Ye _ _ _ _ (@Ja _ _ _ _ _ (@Jb _ _ _ _) (@Ja _ _ _ _ _ (@Jb _ _ _ _) (@Jc _) rfl) rfl))) (@J8 _ _ 7 _ Zx.nd rfl (Or.inl rfl) (.inl rfl)) (@Jd _ _ _ _ _ (@Jt _ _ 8 _ _ _ _ Zx.nd rfl (Or.inl rfl) (@Jn _ _ _ _ _ _ _ _ _ _ _ _ _ _ _ T.JiJ (Jng T) (hr.mono (by decide)) JL (@Ja _ _ _ _ _ (@pv _ 1 _ _ rfl (.inl rfl) rfl rfl) (@Ja _ _ _ _ _ (@Jn _ _ _ _ _ _ _ _ _ _ _ _ _ _ _ T.JbK (Ja7 T) (hr.mono (by decide)) JL (@Ja _ _ _ _ _ (@pv _ 0 _ _ rfl (.inl rfl) rfl rfl) (@Ja _ _ _ _ _ (@Jj _ _ _ _ _ _ _ _ (@JP _) (@Jb _ _ _ _) (@pv _ 7 _ _ rfl (.inl rfl) rfl rfl)) (@Jc _) rfl) rfl) rfl (by decide) rfl rfl) (@Jc _) rfl) rfl) rfl (by decide) rfl rfl) rfl (.inl rfl)) (@Jd _ _ _ _ _ (@Jt _ _ 9 _ _ _ _ Zx.nd rfl (Or.inl rfl) (@Ye _ _ _ _ (@Ja _ _ _ _ _ (@pv _ 8 _ _ rfl (.inl rfl) rfl rfl) (@Ja _ _ _ _ _ (@Jax _ _ _ _ _ _ hu (@JB _ _ _ _ _ _ _ (@YF _) (@pv _ 2 _ _ rfl (.inl rfl) rfl rfl) (@Jb _ _ _ _) (fun _ _=>rfl)) (@pv _ 8 _ _ rfl (.inl rfl) rfl rfl) (fun _ _=>rfl)) (@Jc _) rfl) rfl)) rfl (.inl rfl)) (@Jd _ _ _ _ _ (@Jt _ _ 10 _ _ _ _ Zx.nd rfl (Or.inl rfl) (@Jj _ _ _ _ _ _ _ _ (@JQ _) (@Jj _ _ _ _ _ _ _ _ (@JP _) (@pv _ 4 _ _ rfl (.inl rfl) rfl rfl) (@Jn _ _ _ _ _ _ _ _ _ _ _ _ _ _ _ T.JbK (Ja7 T) (hr.mono (by decide)) JL (@Ja _ _ _ _ _ (@pv _ 0 _ _ rfl (.inl rfl) rfl rfl) (@Ja _ _ _ _ _ (@Jj _ _ _ _ _ _ _ _ (@JP _) (@Jb _ _ _ _) (@pv _ 7 _ _ rfl (.inl rfl) rfl rfl)) (@Jc _) rfl) rfl) rfl (by decide) rfl rfl)) (@Jj _ _ _ _ _ _ _ _ (@JP _) (@pv _ 4 _ _ rfl (.inl rfl) rfl rfl) (@Jb _ _ _ _))) rfl (.inl rfl)) (@Jh _ _ _ (@Yt _ _ _ _ _ _ _ _ PassesOwn.never rfl (@Ze _ _ _ _ _ _ rfl T.Zu (@Ja _ _ _ _ _ (@Jj _ _ _ _ _ _ _ _ (@JP _) (@pv _ 3 _ _ rfl (.inl rfl) rfl rfl) (@Jb _ _ _ _)) (@Jc _) rfl) rfl) (@J8 _ _ 11 _ Zx.nd rfl (Or.inl rfl) (.inl rfl)) (@Jh _ _ _ (@Yt _ _ _ _ _ _ _ _ PassesOwn.never rfl (@Yr _ _ _ _ (@Ye _ _ _ _ (@Ja _ _ _ _ _ (@JS _ _ _ _) (@Ja _ _ _ _ _ (@JS _ _ _ _) (@Jc _) rfl) rfl))) (@J8 _ _ 12 _ Zx.nd rfl (Or.inl rfl) (.inl rfl)) (@Jd _ _ _ _ _ (@Jt _ _ 13 _ _ _ _ Zx.nd rfl (Or.inl rfl) (@Jj _ _ _ _ _ _ _ _ (@JQ _) (@Jn _ _ _ _ _ _ _ _ _ _ _ _ _ _ _ T.JbK (Ja7 T) (hr.mono (by decide)) JL (@Ja _ _ _ _ _ (@pv _ 0 _ _ rfl (.inl rfl) rfl rfl) (@Ja _ _ _ _ _ (@Jj _ _ _ _ _ _ _ _ (@JP _) (@Jb _ _ _ _) (@pv _ 7 _ _ rfl (.inl rfl) rfl rfl)) (@Jc _) rfl) rfl) rfl (by decide) rfl rfl) (@Jj _ _ _ _ _ _ _ _ (@JP _) (@JB _ _ _ _ _ _ _ (@JF _) (@Ye _ _ _ _ (@Ja _ _ _ _ _ (@pv _ 11 _ _ rfl (.inl rfl) rfl rfl) (@Ja _ _ _ _ _ (@Jj _ _ _ _ _ _ _ _ (@Y2 _) (@pv _ 3 _ _ rfl (.inl rfl) rfl rfl) (@pv _ 11 _ _ rfl (.inl rfl) rfl rfl)) (@Jc _) rfl) rfl)) (@ZC _ _ _ _ _ _ _ _ _ (@Jld _) rfl T.JjO PyProof.Rows.boot_int (@Ja _ _ _ _ _ (@JeL _ _ _ _ _ _ _ _ (@Yc _) (@pv _ 12 _ _ rfl (.inl rfl) rfl rfl) (@JS _ _ _ _) (JC _)) (@Jc _) rfl) (by decide) (by decide) rfl rfl) (fun _ _=>rfl)) (@Jb _ _ _ _))) rfl (.inl rfl)) (@Jh _ _ _ (@JN _ _ _ _ _ _ _ _ (@Jd8 _ _ _ _ (@JbU _ _ _ (@Jn _ _ _ _ _ _ _ _ _ _ _ _ _ _ _ T.JgR (Jma T) (hr.mono (by decide)) JL (@Ja _ _ _ _ _ (@pv _ 5 _ _ rfl (.inl rfl) rfl rfl) (@Ja _ _ _ _ _ (@pv _ 9 _ _ rfl (.inl rfl) rfl rfl) (@Ja _ _ _ _ _ (@pv _ 10 _ _ rfl (.inl rfl) rfl rfl) (@Ja _ _ _ _ _ (@pv _ 11 _ _ rfl (.inl rfl) rfl rfl) (@Ja _ _ _ _ _ (@pv _ 12 _ _ rfl (.inl rfl) rfl rfl) (@Ja _ _ _ _ _ (@pv _ 13 _ _ rfl (.inl rfl) rfl rfl) (@Ja _ _ _ _ _ (@JB _ _ _ _ _ _ _ (@YF _) (@pv _ 2 _ _ rfl (.inl rfl) rfl rfl) (@Jb _ _ _ _) (fun _ _=>rfl)) (@Jc _) rfl) rfl) rfl) rfl) rfl) rfl) rfl) rfl (by decide) rfl rfl) (by intro _; rfl))) (@Jh _ _ _ (@Ju _ _ _ _ (@JdQ _ _ _ _))) (@Jy _)))) (by intro _; rfl))) (by intro _; rfl)))))) (by intro _; rfl)) (@Jh _ _ _ (@Ju _ _ _ _ (@JdQ _ _ _ _)))))))))),?_⟩
  try dsimp only [cxK,Jes]
  refine ⟨_,rfl,a,ns,0,rfl,hS,by decide,fun t ps zs gs H1 e1 G=>?_⟩;obtain ⟨pn0,pl0,pg0,h1,h2,h3,h4,h5⟩:=G.at_;have p1:=G.good.p1;have p2:=G.good.p2;refine ⟨fun σ1 H2=>∃ (tt pn pl pg dn:Addr) (f:Str→Str) (nn:List Str) (ls:List (V×(Str×Str))) (kvs:List (JO×V)),Jg H1 H2∧Ren ps nn f∧(∀ y∈nn,Y5 y=true)∧H2 tt=some (.tup [.ref pn,.ref pl,.ref pg,.ref dn])∧H2 pn=some (.lst ((ps.map f).map V.str))∧H2 pl=some (.lst (ls.map (·.1)))∧Yq K H2 ls∧ls.map (·.2)=(zs.map (·.2)).map (ff f)∧H2 pg=some (.lst ((gs.map f).map V.str))∧H2 dn=some (.dK kvs)∧(∀ p∈ps,YC kvs (.inr p)=some (.str (f p)))∧σ1=[some (.ref a),some (.ref t),some (.ref tt),none,none,none,none,none,none,none,none,none,none,none],?_,?_⟩
  ·refine ⟨_,rfl,_,rfl,a,ns,5,rfl,e1.seq hS,by decide,_,rfl,t,_,_,.ref pn0,rfl,rfl,JT.of h1,rfl,pn0,_,rfl,.inl (Jo.of h2),JbP ns 5,ps.length,by rw [List.length_map]; rfl,by omega,by omega,fun ln nn H2 _ e2 hln hl2 hg2 hn2=>?_⟩;exact ⟨t,ln,nn,ps,zs,gs,rfl,G.same e2,hln,hl2,hn2,fun tt pn pl pg dn f ls kvs H3 e3 R k1 k2 k3 k4 k5 k6 k7 k8=>⟨tt,pn,pl,pg,dn,f,nn,ls,kvs,e2.trans e3,R,hg2,k1,k2,k3,k4,k5,k6,k7,k8,rfl⟩⟩
  rintro σ1 H2 ⟨tt,pn,pl,pg,dn,f,nn,ls,kvs,e2,R,gn,k1,k2,k3,k4,hls,k6,k7,hkv,rfl⟩;have e02:=e1.trans e2;refine ⟨_,rfl,a,ns,6,rfl,e02.seq hS,by decide,_,rfl,fun ci H3 c0 c1 e3=>?_⟩;refine ⟨_,rfl,a,ns,7,rfl,(e02.trans e3).seq hS,by decide,_,rfl,fun mt H4 m0 m1 e4=>?_⟩;obtain ⟨mo,rfl⟩:∃ j:Nat,mt=(j:Int):=⟨mt.toNat,by omega⟩
  obtain ⟨c,rfl⟩:∃ j:Nat,ci=(j:Int):=⟨ci.toNat,by omega⟩
  have e24:=e3.trans e4;have e04:=e02.trans e24;refine ⟨by show 0≤sizeLine; decide,fun lb nlb=>?_⟩;have s5:=Jg.upd (o:=.lst []) nlb;have hlb5:upd H4 lb (.lst []) lb=some (.lst []):=Jf;generalize upd H4 lb (.lst [])=H5 at s5 hlb5;refine ⟨_,rfl,_,rfl,by show 2≤sizeLine; decide,fun lg nlg=>⟨lg,rfl,⟨_,Jo.of Jf⟩,?_⟩⟩;have s6:=Jg.upd (o:=.lst [.ref t,.ref tt]) nlg;have hlg:upd H5 lg (.lst [.ref t,.ref tt]) lg=some (.lst [.ref t,.ref tt]):=Jf;have hlb6:=s6 _ _ hlb5;have lbg:lb≠lg:=Jr hlb5 nlg;generalize upd H5 lg (.lst [.ref t,.ref tt])=H6 at s6 hlg hlb6;refine Jan (xs:=[.ref t,.ref tt]) (fun i σ H7=>H7 lg=some (.lst [.ref t,.ref tt])∧Jg H4 H7∧(i=0→H7 lb=some (.lst []))∧(i=1→∃ q1,H7 lb=some (.lst [.ref q1])∧Jc9 T H7 q1 ps zs gs c mo)∧(i=2→∃ q1 q2,H7 lb=some (.lst [.ref q1,.ref q2])∧Jc9 T H7 q1 ps zs gs c mo∧Jc9 T H7 q2 (ps.map f) ls (gs.map f) c mo)∧∃ v6,σ=[some (.ref a),some (.ref t),some (.ref tt),some (.int (c:Int)),some (.int (mo:Int)),some (.ref lb),v6,none,none,none,none,none,none,none])
   ⟨hlg,s5.trans s6,fun _=>hlb6,(fun z=>nomatch z),(fun z=>nomatch z),_,rfl⟩ (fun i σ H7 _ z=>Jo.of z.1) ?_ ?_
  ·rintro i xv σ H7 hx ⟨hlg7,S7,i0,i1,i2,v6,rfl⟩
   match i,hx with
   | 0,hx =>
    cases Option.some.inj hx;have hlb:=i0 rfl;have G7:=G.same ((e2.trans e24).trans S7);refine ⟨_,rfl,.inl ⟨rfl,_,Jo.of hlb⟩,?_⟩;obtain ⟨pn,pl,pg,g1,g2,g3,g4,g5⟩:=(G7).at_;refine ⟨_,rfl,t,_,_,.ref pn,rfl,rfl,JT.of g1,rfl,pn,_,rfl,.inl (Jo.of g2),fun l1 n1=>?_⟩;have f2:=Jg.upd (o:=.lst (ps.map V.str)) n1;refine ⟨_,rfl,t,_,_,.ref pl,rfl,rfl,JT.of (f2 _ _ g1),rfl,pl,_,rfl,.inl (Jo.of (f2 _ _ g3)),fun l2 n2=>?_⟩;have f3:=f2.trans (Jg.upd (o:=.lst (zs.map (·.1))) n2);refine ⟨_,rfl,t,_,_,.ref pg,rfl,rfl,JT.of (f3 _ _ g1),rfl,pg,_,rfl,.inl (Jo.of (f3 _ _ g5)),fun l3 n3=>?_⟩;have f4:=f3.trans (Jg.upd (o:=.lst (gs.map V.str)) n3);refine fun b dx nx ndx hne=>JfK f4 (((Jg.upd n2).trans (Jg.upd n3)) _ _ Jf) ((Jg.upd n3) _ _ Jf) Jf (YL g4 f4) (G7).good nx ndx fun ps1 zs1 gs1 H8 e8 B pp ps3 zp zs3 gp gs3=>⟨rfl,?_⟩
    clear hne f4 f3 f2 g1 g2 g3 g4 g5 n1 n2 n3 nx ndx pn pl pg l1 l2 l3 dx;refine ⟨_,rfl,_,rfl,fun k dx nx ndx hne=>Jg5 B ⟨c0,c1⟩ ⟨m0,m1⟩ nx ndx fun H9 e9 Bk1=>⟨rfl,?_⟩⟩;clear hne nx ndx dx;rw [Int.toNat_natCast] at Bk1;have e79:=e8.trans e9;have hlb9:=e79 _ _ hlb;refine ⟨lb,_,_,rfl,rfl,hlb9,by show 0 < sizeLine; decide,?_⟩;have ks:∀ {x u},H4 x=some u→upd H9 lb (.lst ([] ++ [.ref k])) x=some u:=fun qq=>by rw [Jq (Jr qq nlb)]; exact (S7.trans e79) _ _ qq
    exact ⟨by rw [Jq (fun z=>lbg z.symm)]; exact e79 _ _ hlg7,fun x u qq=>ks qq,(fun z=>nomatch z),fun _=>⟨k,Jf,Jc9.put ⟨b,ps1,zs1,gs1,Bk1,pp,zp,zs3,gp⟩ hlb9 (.inl rfl)⟩,(fun z=>by simp at z),_,rfl⟩
   | 1,hx =>
    cases Option.some.inj hx;obtain ⟨q1,hlb,O1⟩:=i1 rfl;refine ⟨_,rfl,.inl ⟨rfl,_,Jo.of hlb⟩,?_⟩;have S27:=e24.trans S7;have g1:=S27 _ _ k1;have g2:=S27 _ _ k2;have g3:=S27 _ _ k3;have g4:=YL k4 S27;have g5:=S27 _ _ k6;refine ⟨_,rfl,tt,_,_,.ref pn,rfl,rfl,JT.of g1,rfl,pn,_,rfl,.inl (Jo.of g2),fun l1 n1=>?_⟩;have f2:=Jg.upd (o:=.lst ((ps.map f).map V.str)) n1;refine ⟨_,rfl,tt,_,_,.ref pl,rfl,rfl,JT.of (f2 _ _ g1),rfl,pl,_,rfl,.inl (Jo.of (f2 _ _ g3)),fun l2 n2=>?_⟩;have f3:=f2.trans (Jg.upd (o:=.lst (ls.map (·.1))) n2);refine ⟨_,rfl,tt,_,_,.ref pg,rfl,rfl,JT.of (f3 _ _ g1),rfl,pg,_,rfl,.inl (Jo.of (f3 _ _ g5)),fun l3 n3=>?_⟩;have f4:=f3.trans (Jg.upd (o:=.lst ((gs.map f).map V.str)) n3);refine fun b dx nx ndx hne=>JfK f4 (((Jg.upd n2).trans (Jg.upd n3)) _ _ Jf) ((Jg.upd n3) _ _ Jf) Jf (YL g4 f4) (Jml G.good R gn hls) nx ndx fun ps2 zs2 gs2 H8 e8 B pp ps3 zp zs3 gp gs3=>⟨rfl,?_⟩
    clear hne f4 f3 f2 n1 n2 n3 nx ndx l1 l2 l3 dx;refine ⟨_,rfl,_,rfl,fun k dx nx ndx hne=>Jg5 B ⟨c0,c1⟩ ⟨m0,m1⟩ nx ndx fun H9 e9 Bk1=>⟨rfl,?_⟩⟩;clear hne nx ndx dx;rw [Int.toNat_natCast] at Bk1;have e79:=e8.trans e9;have hlb9:=e79 _ _ hlb;refine ⟨lb,_,_,rfl,rfl,hlb9,by show 1 < sizeLine; decide,?_⟩;have O9:=O1.same e79;have oi:∃ g C' dx fs,[V.ref q1]=[.ref g]∧H9 g=some (.ins C' dx fs):=by
     obtain ⟨_,_,_,_,Bq,_⟩:=O9;obtain ⟨dx,l,hk⟩:=Bq.ins;exact ⟨q1,_,_,_,rfl,hk⟩
    exact ⟨by rw [Jq (fun z=>lbg z.symm)]; exact e79 _ _ hlg7,fun x u qq=>by rw [Jq (Jr qq nlb)]; exact (S7.trans e79) _ _ qq,(fun z=>nomatch z),(fun z=>by simp at z),fun _=>⟨q1,k,Jf,O9.put hlb9 (.inr oi),Jc9.put ⟨b,ps2,zs2,gs2,Bk1,pp,zp,zs3,gp⟩ hlb9 (.inr oi)⟩,_,rfl⟩
  rintro σ H7 ⟨_,S7,_,_,i2,v6,rfl⟩;obtain ⟨q1,q2,hlb,O1,O2⟩:=i2 rfl;obtain ⟨b1,ps1,zs1,gs1,Bk1,pp1,zp1,zo1,gp1⟩:=O1;obtain ⟨b2,ps2,zs2,gs2,Bk2,pp2,zp2,zo2,gp2⟩:=O2;have RN:=JoN G.good R hls pp1 zp1 zo1 gp1 zp2 zo2 gp2;have e07:=e04.trans S7;have k17:=(e24.trans S7) _ _ k1;have k77:=(e24.trans S7) _ _ k7;refine ⟨by show 2≤sizeLine; decide,fun lk nlk=>⟨lk,rfl,⟨_,Jo.of Jf⟩,?_⟩⟩;have s8:=Jg.upd (o:=.lst [.int 0,.int 1]) nlk;have hlk:upd H7 lk (.lst [.int 0,.int 1]) lk=some (.lst [.int 0,.int 1]):=Jf;generalize upd H7 lk (.lst [.int 0,.int 1])=H8 at s8 hlk;refine Jan (xs:=[.int 0,.int 1]) (fun i σ H9=>Jg H8 H9∧∃ v7 v8 v9 v10 v11 v12 v13,σ=[some (.ref a),some (.ref t),some (.ref tt),some (.int (c:Int)),some (.int (mo:Int)),some (.ref lb),v6,v7,v8,v9,v10,v11,v12,v13]) ⟨Jg.refl _,_,_,_,_,_,_,_,rfl⟩ (fun i σ H9 _ z=>Jo.of (z.1 _ _ hlk)) ?_ ?_
  ·rintro i xv σ H9 hx ⟨e9,v7,v8,v9,v10,v11,v12,v13,rfl⟩;obtain ⟨j,rfl,hj⟩:∃ j:Int,xv=.int j∧0≤j:=by
    match i,hx with
    | 0,hx=>exact ⟨0,(Option.some.inj hx).symm,by decide⟩
    | 1,hx=>exact ⟨1,(Option.some.inj hx).symm,by decide⟩
   have e79:=s8.trans e9;have e09:=e07.trans e79;refine ⟨_,rfl,_,rfl,_,rfl,_,_,rfl,rfl,a,ns,_,rfl,e09.seq hS,by omega,t,_,ps,zs,gs,rfl,G.same (((e2.trans e24).trans S7).trans e79),fun p H10 hp e10=>?_⟩;have e710:=e79.trans e10;have g:=Jat.k (k:=Sum.inr p) (e710 _ _ k77);rw [hkv p hp] at g;refine ⟨_,rfl,_,rfl,tt,_,_,.ref dn,rfl,rfl,JT.of (e710 _ _ k17),rfl,_,rfl,dn,_,rfl,g,by show 2≤sizeLine; decide,fun lp nlp=>?_⟩;have s11:=Jg.upd (o:=.lst [.str p,.str (f p)]) nlp;have hlp:upd H10 lp (.lst [.str p,.str (f p)]) lp=some (.lst [.str p,.str (f p)]):=Jf;generalize upd H10 lp (.lst [.str p,.str (f p)])=H11 at s11 hlp;have e711:=e710.trans s11;have hb:=Jii (x:=(mo:Int) + JbP ns (10 + j)) (n:=(mo:Int) + 1) (by omega);refine ⟨_,rfl,_,rfl,_,rfl,_,_,rfl,rfl,a,ns,_,rfl,(e07.trans e711).seq hS,by omega,_,_,rfl,rfl,_,rfl,_,_,rfl,rfl,_,_,rfl,rfl,(by show (0:Int) < (mo:Int) + 1; omega),?_⟩;obtain ⟨m,hm⟩:∃ m:Nat,((mo:Int) + JbP ns (10 + j)) % ((mo:Int) + 1)=(m:Int):=⟨_,(Int.toNat_of_nonneg hb.1).symm⟩
   have hm2:m≤mo:=by omega
   refine ⟨_,rfl,_,_,rfl,rfl,(c:Int) + 1,rfl,by omega,by omega,?_⟩;rw [show ((c:Int) + 1).toNat=c + 1 by omega];refine Zf (n:=c + 1) (fun i σ H12=>Jg H11 H12∧∃ v11 v12 v13,σ=[some (.ref a),some (.ref t),some (.ref tt),some (.int (c:Int)),some (.int (mo:Int)),some (.ref lb),v6,some (.int j),some (.str p),some (.ref lp),some (.int (m:Int)),v11,v12,v13]) ⟨Jg.refl _,_,_,_,by rw [← hm]; rfl⟩ ?_ ?_
   ·rintro ni σ H12 hni ⟨e12,v11,v12,v13,rfl⟩;refine ⟨by show 2≤sizeLine; decide,fun lr nlr=>⟨lr,rfl,⟨_,Jo.of Jf⟩,?_⟩⟩;have s13:=Jg.upd (o:=.lst [.str "north",.str "south"]) nlr;have hlr:upd H12 lr (.lst [.str "north",.str "south"]) lr=some (.lst [.str "north",.str "south"]):=Jf;generalize upd H12 lr (.lst [.str "north",.str "south"])=H13 at s13 hlr;have en:(0:Int) + (ni:Int)=(ni:Int):=by omega
    rw [en];refine Jan (xs:=[.str "north",.str "south"]) (fun i σ H14=>Jg H13 H14∧∃ v12 v13,σ=[some (.ref a),some (.ref t),some (.ref tt),some (.int (c:Int)),some (.int (mo:Int)),some (.ref lb),v6,some (.int j),some (.str p),some (.ref lp),some (.int (m:Int)),some (.int (ni:Int)),v12,v13]) ⟨Jg.refl _,_,_,rfl⟩ (fun i σ H14 _ z=>Jo.of (z.1 _ _ hlr)) ?_ ?_
    ·rintro i2 xv σ H14 hx ⟨e14,v12,v13,rfl⟩;obtain ⟨r,rfl⟩:=Jkd hx;have e1114:=(e12.trans s13).trans e14;have e714:=e711.trans e1114;have ho:0≤own (c:Int) (ni:Int) (!r):=by unfold own; cases r <;> simp <;> omega
     have pk:atI [V.int (ni:Int),V.int ((c:Int) - (ni:Int))] (if decide (V.str (hs r)=V.str "north")=true then 1 else 0)=some (.int (own (c:Int) (ni:Int) (!r))):=by
      cases r
      ·rw [if_neg (by decide +kernel)]; rfl
      ·rw [if_pos (by decide +kernel)]; rfl
     refine ⟨_,rfl,_,rfl,_,_,rfl,rfl,a,ns,_,rfl,(e07.trans e714).seq hS,by omega,_,rfl,_,rfl,_,rfl,_,_,rfl,rfl,by show 2≤sizeLine; decide,fun l5 n5=>?_⟩;have hbb:=Jii (x:=JbP ns (12 + j)) (n:=own (c:Int) (ni:Int) (!r) + 1) (by omega);refine ⟨_,rfl,rfl,.inr ⟨_,rfl,l5,_,_,.int (own (c:Int) (ni:Int) (!r)),rfl,rfl,Jo.of Jf,pk,_,_,rfl,rfl,_,_,rfl,rfl,(by show (0:Int) < own (c:Int) (ni:Int) (!r) + 1; omega),?_⟩⟩;have s15:=Jg.upd (o:=.lst [.int (ni:Int),.int ((c:Int) - (ni:Int))]) n5;generalize upd H14 l5 (.lst [.int (ni:Int),.int ((c:Int) - (ni:Int))])=H15 at s15;have e715:=e714.trans s15;exact ⟨_,rfl,_,rfl,_,rfl,_,rfl,_,rfl,_,rfl,_,rfl,tt,_,_,.ref dn,rfl,rfl,JT.of (e715 _ _ k17),rfl,lb,lp,dn,q1,q2,b1,b2,p,f,(c:Int),m,mo,(ni:Int),JbP ns (12 + j) % (own (c:Int) (ni:Int) (!r) + 1),r,kvs,ps1,zs1,gs1,ps2,zs2,gs2,rfl,e715 _ _ hlb,(e1114.trans s15) _ _ hlp,e715 _ _ k77,fun y hy=>hkv y (pp1.mem_iff.mp hy),Bk1.same e715,Bk2.same e715,pp1.mem_iff.mpr hp,pp2.mem_iff.mpr (List.mem_map.mpr ⟨p,hp,rfl⟩),hm2,⟨by omega,by omega⟩,⟨hbb.1,by omega⟩,RN,fun H16 e16=>⟨_,rfl,ZJ ⟨(e14.trans s15).trans e16,_,_,rfl⟩⟩⟩
    ·rintro σ H14 ⟨e14,v12,v13,rfl⟩;exact ⟨(e12.trans s13).trans e14,_,_,_,rfl⟩
   ·rintro σ H12 ⟨e12,v11,v12,v13,rfl⟩;exact ⟨((e9.trans e10).trans s11).trans e12,_,_,_,_,_,_,_,rfl⟩
  ·rintro σ H9 ⟨e9,_⟩;exact q H9
end
def Jj8 (K:PySem.W.Frag):Prop:=(JlP K,JlO K,JlM K,JlN K,JlK K,JlL K)=JhB
theorem Je {α:Type} {a b:α} (h:some a=some b):a=b:=Option.some.inj h
theorem Jos {w:World} {K:PySem.W.Frag} {h:Heap} {mg:Str→Option Value} {fa:Addr} {P:Program} (hS:Jj8 K) (X:K.In h) (G:h.Ns mainGlobals mg) (hfa:mg "law" = some (.ref fa)) :
  ∃ fd:FuncData,(∀ (s:Shared) (v:Value),BindsTo s fd ⟨[v],[]⟩ [("_law_script",v)])∧∀ base:Heap,K.In base→base.Ns mainGlobals mg→JM P w K mg base Y6 12 fa fd ["_law_script"] (Jjx K):=by
 have hB:JlP K=isB:=congrArg (fun x=>x.1) hS;have hF:JlO K=isF:=congrArg (fun x=>x.2.1) hS;have hN:JlM K=isN:=congrArg (fun x=>x.2.2.1) hS;have hK:JlN K=isK:=congrArg (fun x=>x.2.2.2.1) hS;have hV:JlK K=isV:=congrArg (fun x=>x.2.2.2.2.1) hS;have hT:JlL K=isT:=congrArg (fun x=>x.2.2.2.2.2) hS;obtain ⟨Jaa,Jba,Ja2⟩:=mgV X G (Je (at_ hV 0));obtain ⟨Z9,Jam,Jag⟩:=mgV X G (Je (at_ hV 1));obtain ⟨Jac,ZK,ZH⟩:=mgV X G (Je (at_ hV 2));obtain ⟨ZT,JaP,JaN⟩:=mgV X G (Je (at_ hV 3));obtain ⟨Jab,Jbb,Ja3⟩:=mgV X G (Je (at_ hV 4));have e:=hfa.symm.trans (PySem.W.mg_of X G (Jz (Option.some.inj (at_ hB 62))));cases e;let T:Txt K mg:={
  Jdn:=Ji K "good_name"
  JcW:=JU K (Ji K "good_name")
  Jdq:=⟨Jm (Je (at_ hF 0)),(Jm (Je (at_ hF 0))).binds (ps:=["text"]) (fun | _,_,_,_,_,_,[_],_=>rfl),PySem.W.mg_of X G (Jz (Je (at_ hB 0)))⟩
  JcZ:=Ji K "check_hand"
  Jb6:=JU K (Ji K "check_hand")
  Jas:=⟨Jm (Je (at_ hF 1)),(Jm (Je (at_ hF 1))).binds (ps:=["hand"]) (fun | _,_,_,_,_,_,[_],_=>rfl),PySem.W.mg_of X G (Jz (Je (at_ hB 1)))⟩
  JgF:=Ji K "other"
  Jfi:=JU K (Ji K "other")
  JeV:=⟨Jm (Je (at_ hF 2)),(Jm (Je (at_ hF 2))).binds (ps:=["hand"]) (fun | _,_,_,_,_,_,[_],_=>rfl),PySem.W.mg_of X G (Jz (Je (at_ hB 2)))⟩
  Jca:=Ji K "check_up_to"
  Jby:=JU K (Ji K "check_up_to")
  Za:=⟨Jm (Je (at_ hF 3)),(Jm (Je (at_ hF 3))).binds (ps:=["number", "most"]) (fun | _,_,_,_,_,_,[_,_],_=>rfl),PySem.W.mg_of X G (Jz (Je (at_ hB 3)))⟩
  Jcd:=Ji K "check_coins"
  JbB:=JU K (Ji K "check_coins")
  Jck:=⟨Jm (Je (at_ hF 4)),(Jm (Je (at_ hF 4))).binds (ps:=["north", "south"]) (fun | _,_,_,_,_,_,[_,_],_=>rfl),PySem.W.mg_of X G (Jz (Je (at_ hB 4)))⟩
  Jdo:=Ji K "check_bid"
  JcX:=JU K (Ji K "check_bid")
  JaM:=⟨Jm (Je (at_ hF 5)),(Jm (Je (at_ hF 5))).binds (ps:=["named", "coins"]) (fun | _,_,_,_,_,_,[_,_],_=>rfl),PySem.W.mg_of X G (Jz (Je (at_ hB 5)))⟩
  JgJ:=Ji K "ended"
  Jfm:=JU K (Ji K "ended")
  JcD:=⟨Jm (Je (at_ hF 6)),(Jm (Je (at_ hF 6))).binds (ps:=["board", "place", "turns"]) (fun | _,_,_,_,_,_,[_,_,_],_=>rfl),PySem.W.mg_of X G (Jz (Je (at_ hB 6)))⟩
  JdX:=Ji K "coins_of"
  Jdm:=JU K (Ji K "coins_of")
  JaA:=⟨Jm (Je (at_ hF 7)),(Jm (Je (at_ hF 7))).binds (ps:=["hand", "north", "south"]) (fun | _,_,_,_,_,_,[_,_,_],_=>rfl),PySem.W.mg_of X G (Jz (Je (at_ hB 7)))⟩
  JjZ:=Ji K "pay"
  Jiu:=JU K (Ji K "pay")
  Jf7:=⟨Jm (Je (at_ hF 8)),(Jm (Je (at_ hF 8))).binds (ps:=["hand", "price", "north", "south", "ribbon"]) (fun | _,_,_,_,_,_,[_,_,_,_,_],_=>rfl),PySem.W.mg_of X G (Jz (Je (at_ hB 8)))⟩
  Jfo:=Ji K "settle"
  Jeo:=JU K (Ji K "settle")
  Jfv:=⟨Jm (Je (at_ hF 9)),(Jm (Je (at_ hF 9))).binds (ps:=["north", "south", "ribbon", "bid", "answer"]) (fun | _,_,_,_,_,_,[_,_,_,_,_],_=>rfl),PySem.W.mg_of X G (Jz (Je (at_ hB 9)))⟩
  JaI:=Ji K "check_each_once"
  Jao:=JU K (Ji K "check_each_once")
  Zb:=⟨Jm (Je (at_ hF 22)),(Jm (Je (at_ hF 22))).binds (ps:=["things"]) (fun | _,_,_,_,_,_,[_],_=>rfl),PySem.W.mg_of X G (Jz (Je (at_ hB 34)))⟩
  Jce:=Ji K "check_among"
  JbC:=JU K (Ji K "check_among")
  Zv:=⟨Jm (Je (at_ hF 23)),(Jm (Je (at_ hF 23))).binds (ps:=["place", "places"]) (fun | _,_,_,_,_,_,[_,_],_=>rfl),PySem.W.mg_of X G (Jz (Je (at_ hB 35)))⟩
  JbF:=Ji K "check_places"
  Jbc:=JU K (Ji K "check_places")
  JbJ:=⟨Jm (Je (at_ hF 24)),(Jm (Je (at_ hF 24))).binds (ps:=["places"]) (fun | _,_,_,_,_,_,[_],_=>rfl),PySem.W.mg_of X G (Jz (Je (at_ hB 36)))⟩
  Jcb:=Ji K "check_lanes"
  Jbz:=JU K (Ji K "check_lanes")
  Jci:=⟨Jm (Je (at_ hF 25)),(Jm (Je (at_ hF 25))).binds (ps:=["lanes", "places"]) (fun | _,_,_,_,_,_,[_,_],_=>rfl),PySem.W.mg_of X G (Jz (Je (at_ hB 37)))⟩
  Jcc:=Ji K "check_goals"
  JbA:=JU K (Ji K "check_goals")
  Jcj:=⟨Jm (Je (at_ hF 26)),(Jm (Je (at_ hF 26))).binds (ps:=["goals", "places"]) (fun | _,_,_,_,_,_,[_,_],_=>rfl),PySem.W.mg_of X G (Jz (Je (at_ hB 38)))⟩
  Jmp:=Ji K "_law_at"
  JjW:=JU K (Ji K "_law_at")
  JbK:=⟨Jm (Je (at_ hF 31)),(Jm (Je (at_ hF 31))).binds (ps:=["_law_script", "_law_k"]) (fun | _,_,_,_,_,_,[_,_],_=>rfl),PySem.W.mg_of X G (Jz (Je (at_ hB 47)))⟩
  JjY:=Ji K "_law_row"
  Jit:=JU K (Ji K "_law_row")
  Jf6:=⟨Jm (Je (at_ hF 32)),(Jm (Je (at_ hF 32))).binds (ps:=["_law_cell", "_law_many", "_law_base"]) (fun | _,_,_,_,_,_,[_,_,_],_=>rfl),PySem.W.mg_of X G (Jz (Je (at_ hB 48)))⟩
  JgC:=Ji K "_law_whole"
  Jff:=JU K (Ji K "_law_whole")
  JgN:=⟨Jm (Je (at_ hF 33)),(Jm (Je (at_ hF 33))).binds (ps:=["_law_found"]) (fun | _,_,_,_,_,_,[_],_=>rfl),PySem.W.mg_of X G (Jz (Je (at_ hB 49)))⟩
  JgG:=Ji K "_law_names"
  Jfj:=JU K (Ji K "_law_names")
  JeW:=⟨Jm (Je (at_ hF 34)),(Jm (Je (at_ hF 34))).binds (ps:=["_law_cell", "_law_many"]) (fun | _,_,_,_,_,_,[_,_],_=>rfl),PySem.W.mg_of X G (Jz (Je (at_ hB 50)))⟩
  JgE:=Ji K "_law_pairs"
  Jfh:=JU K (Ji K "_law_pairs")
  JgP:=⟨Jm (Je (at_ hF 35)),(Jm (Je (at_ hF 35))).binds (ps:=["_law_cell", "_law_draw", "_law_size"]) (fun | _,_,_,_,_,_,[_,_,_],_=>rfl),PySem.W.mg_of X G (Jz (Je (at_ hB 51)))⟩
  JgI:=Ji K "_law_goals"
  Jfl:=JU K (Ji K "_law_goals")
  JgQ:=⟨Jm (Je (at_ hF 36)),(Jm (Je (at_ hF 36))).binds (ps:=["_law_cell", "_law_kind", "_law_size"]) (fun | _,_,_,_,_,_,[_,_,_],_=>rfl),PySem.W.mg_of X G (Jz (Je (at_ hB 52)))⟩
  Jfp:=Ji K "_law_ground"
  Jep:=JU K (Ji K "_law_ground")
  Jfw:=⟨Jm (Je (at_ hF 37)),(Jm (Je (at_ hF 37))).binds (ps:=["_law_script", "_law_at_here"]) (fun | _,_,_,_,_,_,[_,_],_=>rfl),PySem.W.mg_of X G (Jz (Je (at_ hB 53)))⟩
  JgD:=Ji K "_law_total"
  Jfg:=JU K (Ji K "_law_total")
  JgO:=⟨Jm (Je (at_ hF 38)),(Jm (Je (at_ hF 38))).binds (ps:=["_law_cell"]) (fun | _,_,_,_,_,_,[_],_=>rfl),PySem.W.mg_of X G (Jz (Je (at_ hB 54)))⟩
  Jiy:=Ji K "_law_left"
  JgB:=JU K (Ji K "_law_left")
  JiK:=⟨Jm (Je (at_ hF 39)),(Jm (Je (at_ hF 39))).binds (ps:=["_law_cell"]) (fun | _,_,_,_,_,_,[_],_=>rfl),PySem.W.mg_of X G (Jz (Je (at_ hB 55)))⟩
  Jiw:=Ji K "_law_ways"
  Jgz:=JU K (Ji K "_law_ways")
  JiI:=⟨Jm (Je (at_ hF 40)),(Jm (Je (at_ hF 40))).binds (ps:=["_law_ground_here", "_law_place"]) (fun | _,_,_,_,_,_,[_,_],_=>rfl),PySem.W.mg_of X G (Jz (Je (at_ hB 56)))⟩
  JjX:=Ji K "_law_won"
  Jis:=JU K (Ji K "_law_won")
  Jkb:=⟨Jm (Je (at_ hF 41)),(Jm (Je (at_ hF 41))).binds (ps:=["_law_ground_here", "_law_place", "_law_left_here"]) (fun | _,_,_,_,_,_,[_,_,_],_=>rfl),PySem.W.mg_of X G (Jz (Je (at_ hB 57)))⟩
  JgH:=Ji K "_law_holds"
  Jfk:=JU K (Ji K "_law_holds")
  JdG:=⟨Jm (Je (at_ hF 42)),(Jm (Je (at_ hF 42))).binds (ps:=["_law_found", "_law_due"]) (fun | _,_,_,_,_,_,[_,_],_=>rfl),PySem.W.mg_of X G (Jz (Je (at_ hB 58)))⟩
  Jix:=Ji K "_law_open"
  JgA:=JU K (Ji K "_law_open")
  JiJ:=⟨Jm (Je (at_ hF 43)),(Jm (Je (at_ hF 43))).binds (ps:=["_law_ground_here", "_law_cell"]) (fun | _,_,_,_,_,_,[_,_],_=>rfl),PySem.W.mg_of X G (Jz (Je (at_ hB 59)))⟩
  Jeq:=Ji K "_law_renamed"
  JdW:=JU K (Ji K "_law_renamed")
  Jez:=⟨Jm (Je (at_ hF 44)),(Jm (Je (at_ hF 44))).binds (ps:=["_law_ground_here", "_law_names_here"]) (fun | _,_,_,_,_,_,[_,_],_=>rfl),PySem.W.mg_of X G (Jz (Je (at_ hB 60)))⟩
  JgK:=Ji K "_law_alike"
  Jfn:=JU K (Ji K "_law_alike")
  JgR:=⟨Jm (Je (at_ hF 45)),(Jm (Je (at_ hF 45))).binds (ps:=["_law_books", "_law_places", "_law_left_here", "_law_north", "_law_ribbon", "_law_bid", "_law_new"]) (fun | _,_,_,_,_,_,[_,_,_,_,_,_,_],_=>rfl),PySem.W.mg_of X G (Jz (Je (at_ hB 61)))⟩
  Jj0:=Ji K "law"
  Jiv:=JU K (Ji K "law")
  JmU:=⟨Jm (Je (at_ hF 46)),(Jm (Je (at_ hF 46))).binds (ps:=["_law_script"]) (fun | _,_,_,_,_,_,[_],_=>rfl),PySem.W.mg_of X G (Jz (Je (at_ hB 62)))⟩
  JdD:=Ji K "HANDS"
  Jgy:=PySem.W.mg_of X G (Jz (Je (at_ hB 63)))
  JeE:=fun H=>Job (xs:=[.inr "north",.inr "south"]) (Je (at_ hT 0)) H
  Jaa:=Jaa
  Jba:=Jba
  Ja2:=Ja2
  Z9:=Z9
  Jam:=Jam
  Jag:=Jag
  Jac:=Jac
  ZK:=ZK
  ZH:=ZH
  ZT:=ZT
  JaP:=JaP
  JaN:=JaN
  Jab:=Jab
  Jbb:=Jbb
  Ja3:=Ja3
  JmN:=PySem.W.mg_none_of X G (Je (at_ hN 0))
  ZQ:=PySem.W.mg_none_of X G (Je (at_ hN 1))
  Zu:=PySem.W.mg_none_of X G (Je (at_ hN 2))
  JjN:=PySem.W.mg_none_of X G (Je (at_ hN 3))
  JdS:=PySem.W.mg_none_of X G (Je (at_ hN 4))
  JmM:=PySem.W.mg_none_of X G (Je (at_ hN 5))
  Jdz:=PySem.W.mg_none_of X G (Je (at_ hN 6))
  JaT:=PySem.W.mg_none_of X G (Je (at_ hN 7))
  Jaj:=PySem.W.mg_none_of X G (Je (at_ hN 8))
  JjO:=PySem.W.mg_none_of X G (Je (at_ hN 9))
  JkJ:=PySem.W.mg_none_of X G (Je (at_ hN 10))
  JjM:=PySem.W.mg_none_of X G (Je (at_ hN 11))
  JfJ:=PySem.W.mg_none_of X G (Je (at_ hN 12))
  Jdc:=Ji K "BidmoverError"
  JfZ:=PySem.W.mg_of X G (Jz (Je (at_ hB 64)))
  Jek:=Ji K "BadName"
  Jlf:=PySem.W.mg_of X G (Jz (Je (at_ hB 65)))
  YS:=Ji K "BadHand"
  Jhi:=PySem.W.mg_of X G (Jz (Je (at_ hB 66)))
  JY:=Ji K "OutOfRange"
  Jc4:=PySem.W.mg_of X G (Jz (Je (at_ hB 67)))
  Jgx:=Ji K "Twice"
  Jnw:=PySem.W.mg_of X G (Jz (Je (at_ hB 68)))
  Yv:=Ji K "NoPlace"
  Jhh:=PySem.W.mg_of X G (Jz (Je (at_ hB 69)))
  Jbx:=Ji K "BadBid"
  JiB:=PySem.W.mg_of X G (Jz (Je (at_ hB 70)))
  JA:=Ji K "Book"
  Jle:=PySem.W.mg_of X G (Jz (Je (at_ hB 71)))
  JE:=⟨(Je (at_ hB 73)),(Je (at_ hB 74)),(Je (at_ hB 75)),(Je (at_ hN 13))⟩
  JbO:=JK K "Book" "__init__"
  JcY:=JU K (JK K "Book" "__init__")
  Jdr:=⟨Jm (Je (at_ hF 10)),(Jm (Je (at_ hF 10))).binds (ps:=["self", "board", "coins", "turns"]) (fun | _,_,_,_,_,_,[_,_,_,_],_=>rfl),⟨J7 (Je (at_ hB 10)),(Je (at_ hB 11)),YQ (Je (at_ hF 10))⟩⟩
  JaJ:=JK K "Book" "needs_with"
  Jap:=JU K (JK K "Book" "needs_with")
  ZG:=⟨Jm (Je (at_ hF 11)),(Jm (Je (at_ hF 11))).binds (ps:=["self", "turns"]) (fun | _,_,_,_,_,_,[_,_],_=>rfl),⟨J7 (Je (at_ hB 12)),(Je (at_ hB 13)),YQ (Je (at_ hF 11))⟩⟩
  JbH:=JK K "Book" "need_at"
  Jbe:=JU K (JK K "Book" "need_at")
  JaB:=⟨Jm (Je (at_ hF 12)),(Jm (Je (at_ hF 12))).binds (ps:=["self", "place", "turns", "ribbon"]) (fun | _,_,_,_,_,_,[_,_,_,_],_=>rfl),⟨J7 (Je (at_ hB 14)),(Je (at_ hB 15)),YQ (Je (at_ hF 12))⟩⟩
  YW:=JK K "Book" "need_where_north_leads"
  YN:=JU K (JK K "Book" "need_where_north_leads")
  J0:=⟨Jm (Je (at_ hF 13)),(Jm (Je (at_ hF 13))).binds (ps:=["self", "place", "turns"]) (fun | _,_,_,_,_,_,[_,_,_],_=>rfl),⟨J7 (Je (at_ hB 16)),(Je (at_ hB 17)),YQ (Je (at_ hF 13))⟩⟩
  YV:=JK K "Book" "need_where_south_leads"
  YM:=JU K (JK K "Book" "need_where_south_leads")
  JZ:=⟨Jm (Je (at_ hF 14)),(Jm (Je (at_ hF 14))).binds (ps:=["self", "place", "turns"]) (fun | _,_,_,_,_,_,[_,_,_],_=>rfl),⟨J7 (Je (at_ hB 18)),(Je (at_ hB 19)),YQ (Je (at_ hF 14))⟩⟩
  Jaq:=JK K "Book" "check_share"
  ZY:=JU K (JK K "Book" "check_share")
  J1:=⟨Jm (Je (at_ hF 15)),(Jm (Je (at_ hF 15))).binds (ps:=["self", "place", "turns", "north", "ribbon"]) (fun | _,_,_,_,_,_,[_,_,_,_,_],_=>rfl),⟨J7 (Je (at_ hB 20)),(Je (at_ hB 21)),YQ (Je (at_ hF 15))⟩⟩
  Jcf:=JK K "Book" "winner"
  JbD:=JU K (JK K "Book" "winner")
  YT:=⟨Jm (Je (at_ hF 16)),(Jm (Je (at_ hF 16))).binds (ps:=["self", "place", "turns", "north", "ribbon"]) (fun | _,_,_,_,_,_,[_,_,_,_,_],_=>rfl),⟨J7 (Je (at_ hB 22)),(Je (at_ hB 23)),YQ (Je (at_ hF 16))⟩⟩
  Jc0:=JK K "Book" "least"
  Jb7:=JU K (JK K "Book" "least")
  Jbm:=⟨Jm (Je (at_ hF 17)),(Jm (Je (at_ hF 17))).binds (ps:=["self", "place", "turns", "ribbon"]) (fun | _,_,_,_,_,_,[_,_,_,_],_=>rfl),⟨J7 (Je (at_ hB 24)),(Je (at_ hB 25)),YQ (Je (at_ hF 17))⟩⟩
  Jcg:=JK K "Book" "bid_of"
  JbE:=JU K (JK K "Book" "bid_of")
  JaR:=⟨Jm (Je (at_ hF 18)),(Jm (Je (at_ hF 18))).binds (ps:=["self", "place", "turns", "north", "ribbon"]) (fun | _,_,_,_,_,_,[_,_,_,_,_],_=>rfl),⟨J7 (Je (at_ hB 26)),(Je (at_ hB 27)),YQ (Je (at_ hF 18))⟩⟩
  JaV:=JK K "Book" "answer_of"
  JaH:=JU K (JK K "Book" "answer_of")
  ZS:=⟨Jm (Je (at_ hF 19)),(Jm (Je (at_ hF 19))).binds (ps:=["self", "place", "turns", "north", "ribbon", "bid"]) (fun | _,_,_,_,_,_,[_,_,_,_,_,_],_=>rfl),⟨J7 (Je (at_ hB 28)),(Je (at_ hB 29)),YQ (Je (at_ hF 19))⟩⟩
  Jar:=JK K "Book" "answer_wins"
  ZZ:=JU K (JK K "Book" "answer_wins")
  ZF:=⟨Jm (Je (at_ hF 20)),(Jm (Je (at_ hF 20))).binds (ps:=["self", "place", "turns", "settled", "holder"]) (fun | _,_,_,_,_,_,[_,_,_,_,_],_=>rfl),⟨J7 (Je (at_ hB 30)),(Je (at_ hB 31)),YQ (Je (at_ hF 20))⟩⟩
  JbG:=JK K "Book" "step_of"
  Jbd:=JU K (JK K "Book" "step_of")
  YI:=⟨Jm (Je (at_ hF 21)),(Jm (Je (at_ hF 21))).binds (ps:=["self", "place", "turns", "north", "ribbon", "hand"]) (fun | _,_,_,_,_,_,[_,_,_,_,_,_],_=>rfl),⟨J7 (Je (at_ hB 32)),(Je (at_ hB 33)),YQ (Je (at_ hF 21))⟩⟩
  Ji6:=⟨(Je (at_ hB 76)),J7 (Je (at_ hB 10)),(Je (at_ hB 11)),(Je (at_ hB 77))⟩
  Yh:=(Je (at_ hN 14))
  Y8:=(Je (at_ hN 15))
  Jb5:=(Je (at_ hN 16))
  Y7:=(Je (at_ hN 17))
  JD:=Ji K "Board"
  Jjk:=PySem.W.mg_of X G (Jz (Je (at_ hB 72)))
  Yo:=⟨(Je (at_ hB 78)),(Je (at_ hB 79)),(Je (at_ hB 80)),(Je (at_ hN 18))⟩
  Jbg:=JK K "Board" "__init__"
  Jb9:=JU K (JK K "Board" "__init__")
  Jc8:=⟨Jm (Je (at_ hF 27)),(Jm (Je (at_ hF 27))).binds (ps:=["self", "places", "lanes", "goals"]) (fun | _,_,_,_,_,_,[_,_,_,_],_=>rfl),⟨J7 (Je (at_ hB 39)),(Je (at_ hB 40)),YQ (Je (at_ hF 27))⟩⟩
  Z0:=JK K "Board" "check_place"
  ZR:=JU K (JK K "Board" "check_place")
  JW:=⟨Jm (Je (at_ hF 28)),(Jm (Je (at_ hF 28))).binds (ps:=["self", "place"]) (fun | _,_,_,_,_,_,[_,_],_=>rfl),⟨J7 (Je (at_ hB 41)),(Je (at_ hB 42)),YQ (Je (at_ hF 28))⟩⟩
  Jc1:=JK K "Board" "ways"
  Jb8:=JU K (JK K "Board" "ways")
  Yy:=⟨Jm (Je (at_ hF 29)),(Jm (Je (at_ hF 29))).binds (ps:=["self", "place"]) (fun | _,_,_,_,_,_,[_,_],_=>rfl),⟨J7 (Je (at_ hB 43)),(Je (at_ hB 44)),YQ (Je (at_ hF 29))⟩⟩
  Jbf:=JK K "Board" "is_goal"
  JaU:=JU K (JK K "Board" "is_goal")
  Z8:=⟨Jm (Je (at_ hF 30)),(Jm (Je (at_ hF 30))).binds (ps:=["self", "place"]) (fun | _,_,_,_,_,_,[_,_],_=>rfl),⟨J7 (Je (at_ hB 45)),(Je (at_ hB 46)),YQ (Je (at_ hF 30))⟩⟩
  Jij:=⟨(Je (at_ hB 81)),J7 (Je (at_ hB 39)),(Je (at_ hB 40)),(Je (at_ hB 82))⟩
  Z6:=(Je (at_ hN 19))
  Jbv:=(Je (at_ hN 20))
  Jbw:=(Je (at_ hN 21))
  Jf3:=⟨(Je (at_ hB 83)),(Je (at_ hN 23)),(Je (at_ hN 24)),(Je (at_ hN 25)),(Je (at_ hN 22)),(Je (at_ hK 0)),(Je (at_ hK 1)),(Je (at_ hK 2)),(Je (at_ hB 84))⟩
  Jch:=⟨(Je (at_ hB 85)),(Je (at_ hN 26)),(Je (at_ hN 27)),(Je (at_ hN 28)),(Je (at_ hN 22)),(Je (at_ hK 0)),(Je (at_ hK 3)),(Je (at_ hK 4)),(Je (at_ hB 86))⟩
  Jhn:=⟨(Je (at_ hB 87)),(Je (at_ hN 29)),(Je (at_ hN 30)),(Je (at_ hN 31)),(Je (at_ hN 22)),(Je (at_ hK 0)),(Je (at_ hK 5)),(Je (at_ hK 6)),(Je (at_ hB 88))⟩
  Jmy:=⟨(Je (at_ hB 89)),(Je (at_ hN 32)),(Je (at_ hN 33)),(Je (at_ hN 34)),(Je (at_ hN 22)),(Je (at_ hK 0)),(Je (at_ hK 7)),(Je (at_ hK 8)),(Je (at_ hB 90))⟩
  Jf2:=⟨(Je (at_ hB 91)),(Je (at_ hN 35)),(Je (at_ hN 36)),(Je (at_ hN 37)),(Je (at_ hN 22)),(Je (at_ hK 0)),(Je (at_ hK 9)),(Je (at_ hK 10)),(Je (at_ hB 92))⟩
  Jj7:=⟨(Je (at_ hB 93)),(Je (at_ hN 38)),(Je (at_ hN 39)),(Je (at_ hN 40)),(Je (at_ hN 22)),(Je (at_ hK 0)),(Je (at_ hK 11)),(Je (at_ hK 12)),(Je (at_ hB 94))⟩ }
 obtain ⟨oc,od,kV,doc,pm,an,cdv,ct,osl,z1,z2,z3,z4⟩:=JkE (Option.some.inj (at_ hF 46));exact ⟨_,fun s v=>by show BindsTo s (JU K (Ji K "law")) _ _; rw [z1]; exact .of_eq rfl,fun base _ _=>Joa T⟩
def Jop:DefRec:=⟨"law",JcC JdM,JaX JdM,Jl JdM,Jon JdM⟩
theorem Jpi:PySem.W.WalkO qv lo0 (PySem.W.XL qv []) (fun _ h=>∃ K:PySem.W.Frag,K.In h∧Jj8 K) PySem.Challenge.rw_bidmover_k21_other_names.row.toRowW Jop [] (fun f vs=>PySem.call f vs) :=
 L2.Jlq (l:=PySem.Challenge.rw_bidmover_k21_other_names) (n:=63) (k:=12) (x := "_law_script") (CX:=Y6) (sp:=Jjx) (C:=Jj8) rfl (by decide) rfl ⟨rfl,by decide,by decide⟩ (fun _ _ y=>y) (fun w K mg fa h hS X G hfa=>Jos hS X G hfa) (fun _ _ a ns hl _ hS=>⟨a,ns,rfl,hS,hl,fun _=>rfl⟩) fun _ _ _ _ z=>z
end Pf
open PySem PySem.W PyProof.Rows
set_option maxRecDepth 100000 in
set_option maxHeartbeats 0 in
theorem PySem.Challenge.cw_bidmover_k21_other_names_holds : PySem.Challenge.rw_bidmover_k21_other_names.Holds := by
 refine holds_law Pf.JlV fun JlV=>?_
 refine holds_open (q:=Pf.qv) (loose:=Pf.lo0) (Xt:=Pf.xt) (XP:=XL Pf.qv []) (Yf:=Pf.see) (Ya:=fun _=>Pf.JhB) (YP:=fun _ h=>∃ K:Frag,K.In h∧Pf.Jj8 K) (d:=Pf.Jop) (kwd:=[]) Pf.left (fun w s e=>⟨_,L2.JkY _,e⟩) (fun w h h' y hk=>y.elim fun K z=>⟨K,z.1.keeps hk,z.2⟩) (fun s e=>xl_of s (Bool.and_eq_true_iff.mp e).1) XL.keeps ?h1 ?h2 ?h3 (fun s e=>recFacts_of (Bool.and_eq_true_iff.mp e).2) ?h4 JlV ?h5 ⟨rfl,rfl,rfl,rfl,rfl,by decide +kernel⟩ ?hw Pf.Jpi
 case h1=>kernel_rfl
 case h2=>kernel_rfl
 case h3=>kernel_rfl
 case h4=>kernel_rfl
 case h5=>kernel_rfl
 case hw=>w_witness2
