import PyProof.Rows.All
import Wide.All
import OpenK.AllK
import Wide.FinOn
import Lean
import PyProof.EqAt
import PyProof.EqKinds
import PyProof.TupleCall
import PyProof.ExcAttrAll.ValueError
import PyProof.FString4
import PyProof.FString5
import PyProof.StrLawsRepr
import PyProof.Rows.SetFrom
import KE.KSortTup
import PyProof.NeKinds
import PyProof.Rows.MinMaxN
import KE.KDictSum
import PySem.Challenge.RW_bidmover_k42_whole_taken_back
set_option Elab.async false
set_option linter.all false
set_option maxRecDepth 100000
def tqb:List (Lean.Name×Lean.Name×String):=[(`Xa,`pv,"_.__rirr"),(`Xb,`Jj,"_______________..m..rdrr"),(`Xc,`Ja,"_____..r"),(`Xd,`Js,"__.____.ro.ri"),(`Xe,`JF,"_________.r...ddrr"),(`Xf,`Jw,"_______...f"),(`Xg,`J9,"____________________....m....rrr"),(`Xh,`Jd,"_____.."),(`Xi,`Jm,"________..."),(`Xj,`Je,"____"),(`Xk,`JT,"__._.roi"),(`Xl,`JI,"________..."),(`Xm,`Jz,"_____.r"),(`Xn,`Jg,"___."),(`Xo,`Jy,"________...."),(`Xp,`Zh,"_________________....m...r"),(`Xq,`Jo,"____."),(`Xr,`JK,"____.r"),(`Xs,`Jae,"____________......rrrrr"),(`Xu,`Jcv,"_________________..mr.....drr"),(`Xv,`Jb,"_"),(`Xw,`Z1,"_________.r...ddrr"),(`Xx,`JG,"____"),(`Xy,`Ze,"________.r...."),(`Xz,`Zv,"________..r"),(`XA,`J7,"_____."),(`XB,`Yh,"_____..r"),(`XD,`ZR,"____r.d"),(`XF,`Jbu,"_________....rrdr"),(`XG,`Je6,"____r..dd"),(`XH,`Jad,"_______.."),(`XI,`Ja6,"_____r..d"),(`XJ,`Zi,"______r..r"),(`XM,`ZW,"______.."),(`XN,`Y0,"____."),(`XO,`Jr,"_"),(`XQ,`YC,"___.."),(`XR,`ZN,"____"),(`XS,`Yc,"___."),(`XT,`Jb7,"______.."),(`XU,`Jht,"_________.....rr"),(`XV,`ZP,"____."),(`XW,`Zq,"___"),(`XX,`Y6,"____."),(`XY,`JaY,"_____."),(`XZ,`JN,"_"),(`X0,`Jck,"________..."),(`X2,`JeC,"______...f"),(`X3,`PW.pt,"___."),(`X4,`Jhr,"______..rrr"),(`X5,`Jgr,"______r.rr"),(`X6,`JeB,"______.r"),(`X7,`JS,"_"),(`X8,`JV,"_"),(`X9,`Jcw,"_____."),(`Xaa,`Jcj,"__________...."),(`Xab,`Yl,"_"),(`Xac,`JP,"_")]
local macro_rules | `($f:ident $xs*) => do
  let n := f.getId
  unless n.toString.startsWith "X" do Lean.Macro.throwUnsupported
  match tqb.lookup n with
  | none => Lean.Macro.throwUnsupported
  | some (g, p) =>
    let mut ys : Array (Lean.TSyntax `term) := #[]
    let mut j := 0
    for c in p.toList do
      match c with
      | '_' => ys := ys.push (← `(_))
      | 'r' => ys := ys.push (← `(rfl))
      | 'd' => ys := ys.push (← `((by decide)))
      | 'i' => ys := ys.push (← `((.inl rfl)))
      | 'o' => ys := ys.push (← `((Or.inl rfl)))
      | 'm' => ys := ys.push (← `(($(Lean.mkIdent `hr.mono) (by decide))))
      | 'f' => ys := ys.push (← `((fun _ _ => rfl)))
      | _ =>
        ys := ys.push ⟨xs[j]!.raw⟩
        j := j + 1
    `(@$(Lean.mkIdent g):ident $ys*)
namespace L2
open PySem PySem.W
def Yo (s:Stmt) (j:Nat):Stmt:=match s with
 | .ClassDef _ _ _ body _ _ _ _ _ _ _=>body.getD j (.Pass ⟨0,0,0,0⟩)
 | _=>.Pass ⟨0,0,0,0⟩
def JeH (s:Stmt):Arguments:=match s with
 | .FunctionDef _ a _ _ _ _ _ _ _ _=>a
 | _=>{ posonlyargs:=[],args:=[],vararg:=none,kwonlyargs:=[],kw_defaults:=[],kwarg:=none,defaults:=[] }
def JcC (s:Stmt):List Stmt:=match s with
 | .FunctionDef _ _ b _ _ _ _ _ _ _=>b
 | _=>[]
def Jn (s:Stmt):Scope:=match s with
 | .FunctionDef _ _ _ _ _ _ sc _ _ _=>sc
 | _=>{ kind:=.function,names:=[],isGenerator:=false,isCoroutine:=false }
def JuS (s:Stmt):Pos:=match s with
 | .FunctionDef _ _ _ _ _ _ _ _ _ p=>p
 | _=>⟨0,0,0,0⟩
def JqG (h:Heap):Frag:=h.objs.toList.zipIdx.filterMap fun x=>(alive x.1).map fun o=>(x.2,o)
theorem JqF (h:Heap):(JqG h).In h:=by
 intro a o e;have key:∀ (l:List Obj) (k:Nat),((l.zipIdx k).filterMap fun x=>(alive x.1).map fun o=>(x.2,o)).lookup a=some o→k≤a∧∃ u,l[a - k]?=some u∧alive u=some o:=by
  intro l
  induction l with
  | nil=>intro k e; cases e
  | cons b l ih =>
   intro k e;rw [List.zipIdx_cons,List.filterMap_cons] at e;have next:((l.zipIdx (k + 1)).filterMap fun x=>(alive x.1).map fun o=>(x.2,o)).lookup a=some o→k≤a∧∃ u,(b :: l)[a - k]?=some u∧alive u=some o:=fun e=>by
    obtain ⟨h1,u,h2,h3⟩:=ih (k + 1) e;refine ⟨by omega,u,?_,h3⟩;have e:a - k=(a - (k + 1)) + 1:=(Nat.succ_pred_eq_of_pos (Nat.sub_pos_of_lt h1)).symm;rw [e,List.getElem?_cons_succ];exact h2
   cases hb:alive b with
   | none =>
    have e:((l.zipIdx (k + 1)).filterMap fun x=>(alive x.1).map fun o=>(x.2,o)).lookup a=some o:=by
     simp only [hb,Option.map_none] at e;exact e
    exact next e
   | some u =>
    have e:List.lookup a ((k,u) :: ((l.zipIdx (k + 1)).filterMap fun x=>(alive x.1).map fun o=>(x.2,o)))=some o:=by
     simp only [hb,Option.map_some] at e;exact e
    rw [List.lookup_cons] at e;cases hab:a == k with
    | true =>
     rw [hab] at e;have ak:=beq_iff_eq.mp hab;subst ak;refine ⟨Nat.le_refl _,b,by rw [Nat.sub_self]; rfl,?_⟩;rw [hb]; exact e
    | false=>rw [hab] at e; exact next e
 obtain ⟨_,u,h2,h3⟩:=key _ 0 e;rw [Nat.sub_zero,Array.getElem?_toList] at h2;unfold Heap.get?;rw [h2];obtain ⟨c,d,dt,sl⟩:=u;cases dt <;> exact h3
def Ji (K:Frag) (n:Str):Addr:=match nsIn K mainGlobals n with
 | some (some (.ref k))=>k
 | _=>0
def JO (K:Frag) (n:Str):Bool:=match nsIn K mainGlobals n with
 | some (some (.ref _))=>true
 | _=>false
theorem Ju {K:Frag} {n:Str} (h:JO K n=true):nsIn K mainGlobals n=some (some (.ref (Ji K n))):=by
 unfold JO at h;unfold Ji;split at h
 ·rename_i k e; rw [e]
 ·cases h
def JE (K:Frag) (n m:Str):Addr:=match findIn K (.ref (Ji K n)) m with
 | some (some (.ref k))=>k
 | _=>0
def Ys (K:Frag) (n m:Str):Bool:=match findIn K (.ref (Ji K n)) m with
 | some (some (.ref _))=>true
 | _=>false
theorem JW {K:Frag} {n m:Str} (h:Ys K n m=true):findIn K (.ref (Ji K n)) m=some (some (.ref (JE K n m))):=by
 unfold Ys at h;unfold JE;split at h
 ·rename_i k e; rw [e]
 ·cases h
def JQ (K:Frag) (f:Addr):FuncData:=match K.lookup f with
 | some ⟨_,_,.func fd,_⟩=>fd
 | _=>default
def JpC (fd:FuncData):FuncData:={ fd with kwdefaults:=.none,doc:=.none,pyModule:=.none,annotations:=none,code:=.none,closureTuple:=.none }
def J6 (K:Frag) (f:Addr) (q:Str):Option (FuncData×Bool):=match K.lookup f with
 | some ⟨_,_,.func fd,_⟩=>some (JpC fd,codeIn K fd.code q && keepIn K (.ref f))
 | _=>none
abbrev J8 (x q:Str) (st:Stmt):Option (FuncData×Bool):=some (fnOf x q (JeH st) (JcC st) (Jn st) .none .none .none .none none .none .none,true)
theorem Jqj {K:Frag} {f:Addr} {x q:Str} {st:Stmt} (h:J6 K f q=J8 x q st):∃ (oc:Value) (od:Option Addr) (kV doc pm:Value) (an:Option Addr) (cdv ct:Value) (osl:Array (Option Value)),
  JQ K f=fnOf x q (JeH st) (JcC st) (Jn st) .none kV doc pm an cdv ct∧K.lookup f=some ⟨oc,od,.func (JQ K f),osl⟩∧codeIn K cdv q=true∧keepIn K (.ref f)=true:=by
 unfold J6 at h;unfold JQ;split at h
 ·rename_i oc od fd sl e;rw [e];have h:=Option.some.inj h;have h1:=congrArg Prod.fst h;have h2:(codeIn K fd.code q && keepIn K (.ref f))=true:=congrArg Prod.snd h;rw [Bool.and_eq_true] at h2;obtain ⟨n,qn,ps,b,sc,gl,cl,df,kd,dc,pm,an,cd,ct,bu⟩:=fd;have h1:JpC ⟨n,qn,ps,b,sc,gl,cl,df,kd,dc,pm,an,cd,ct,bu⟩=fnOf x q (JeH st) (JcC st) (Jn st) .none .none .none .none none .none .none:=h1;unfold JpC fnOf at h1;simp only [FuncData.mk.injEq] at h1;obtain ⟨rfl,rfl,rfl,rfl,rfl,rfl,rfl,rfl,_,_,_,_,_,_,rfl⟩:=h1;exact ⟨oc,od,kd,dc,pm,an,cd,ct,sl,rfl,rfl,h2.1,h2.2⟩
 ·cases h
def JgV:Value→Option (Sum Int Str)
 | .int i _=>some (.inl i)
 | .str x _=>some (.inr x)
 | _=>none
def obV (K:Frag) (n:Str):Option (Sum Int Str):=match nsIn K mainGlobals n with
 | some (some v)=>JgV v
 | _=>none
theorem JtJ {K:Frag} {n:Str} {i:Int} (h:obV K n=some (.inl i)):∃ t,nsIn K mainGlobals n=some (some (.int i t)):=by
 unfold obV at h;split at h
 ·rename_i v e;unfold JgV at h;split at h
  ·cases h; exact ⟨_,e⟩
  ·cases h
  ·cases h
 ·cases h
def obT (K:Frag) (n:Str):Option (Bool×List (Option (Sum Int Str))):=match K.lookup (Ji K n) with
 | some ⟨.type "tuple",_,.seq its _,_⟩=>some (decide (its.size≤1000),its.toList.map JgV)
 | _=>none
theorem at_ {α:Type} {l l':List α} (h:l=l') (i:Nat):l[i]?=l'[i]?:=by rw [h]
def Jgk (okf:Thread→Bool) (stf:SharedT→Thread→Option (SharedT×Thread)):Nat→SharedT→Thread→Option SharedT
 | 0,_,_=>none
 | n + 1,s,t=>match through t with
  | true=>some s
  | false=>match okf t with
   | false=>none
   | true=>match stf s t with
    | some (s',t')=>Jgk okf stf n s' t'
    | none=>none
theorem Jjv {tb:String→Option Builtin} {p:Program} {w:World} {n₀:Nat} {ann:Option Value}:∀ {n:Nat} {s s':SharedT} {t:Thread},Jgk (stepOk n₀ ann) (stepT (denote tb) p w) n s t=some s'→topRun tb p w n₀ ann n s.abs t=some s'.abs
 | 0,_,_,_,h=>nomatch h
 | n + 1,s,s',t,h=>by
  unfold Jgk at h;unfold topRun;split at h
  ·rename_i e; rw [e]; cases h; rfl
  ·rename_i e; rw [e];split at h
   ·cases h
   ·rename_i e2; rw [e2];split at h
    ·rename_i s2 t2 e3;rw [stepT_spec e3];exact Jjv h
    ·cases h
noncomputable def Jkl (p:Program) (w:World) (N:Nat) (s:SharedT):Option SharedT :=
 Jgk (Fast.tw6613529449190102663 ((boot_heap w.params).objs.size) ((boot_heap w.params).nsMap mainGlobals "__annotations__")) (Fast.tw10156331382660048174 (Fast.tw11892475500146522536 Fast.tw14364793385576792824) p w) N s (topStub p)
theorem JoH {p:Program} {w:World} {N:Nat} {s:SharedT}:Jkl p w N s=Jgk (stepOk ((boot_heap w.params).objs.size) ((boot_heap w.params).nsMap mainGlobals "__annotations__")) (stepT (denote treeTable) p w) N s (topStub p):=by
 rw [Fast.te6613529449190102663,Fast.te10156331382660048174,Fast.te11892475500146522536,Fast.te14364793385576792824];rfl
noncomputable def Jjl (P:Params):BT:=(boot_heap P).objs.toList.zipIdx.foldl (fun t x=>t.ins x.2 x.1) .nil
noncomputable def JpB (P:Params) (os:OsState):SharedT:=⟨Jjl P,(boot_heap P).objs.size,(boot_heap P).life,Array.mk [],boot_drawn,boot_toks,os⟩
theorem JqZ (P:Params) (os:OsState):(JpB P os).abs=⟨boot_heap P,Array.mk [],boot_drawn,boot_toks,os⟩:=by
 show (⟨absHeap (Jjl P) (boot_heap P).objs.size (boot_heap P).life,_,_,_,_⟩:Shared)=_;have e:absHeap (Jjl P) (boot_heap P).objs.size (boot_heap P).life=boot_heap P:=by kernel_rfl
 rw [e]; rfl
noncomputable def JoT {α:Type} (p q:Program) (loose:List Str) (Xt:Shared→Bool) (Yf:Shared→α) (P:Params) (s:Shared) :=
 (staticsOk (importedModules p.main.body) (boot_heap P) s.heap && namesBound p s.heap && gensDone s && laidKept (boot_heap P) s.heap,Fast.tw4187177175401517315 q loose (importedModules p.main.body) Xt true s,Yf s)
theorem JtR {p q:Program} {loose:List Str} {Xt:Shared→Bool} {α:Type} {Yf:Shared→α} {Ya:World→α} {N:Nat} (e:opening p=plainProg p.main.scope.names) (hN:Nat.ble 600 N=true) (f:∀ s,fenceModules? p s=some s)
  (h:∀ (w:World) (os:OsState),(Jkl p w N (JpB w.params os)).map (fun s=>JoT p q loose Xt Yf w.params s.abs)=some (true,openGood q loose,Ya w))
  (hb:∀ P:Params,((boot_heap P).isNs mainGlobals && (Array.mk ([]:List GenState)).size == 0)=true):LeftO p q loose Xt Yf Ya N:=by
 intro w;have o:=boot_open e hN f w;obtain ⟨s0,e0,e1⟩:=Option.map_eq_some_iff.mp o;obtain ⟨h0,g0,d0,k0,os⟩:=s0;obtain ⟨rfl,rfl,rfl,rfl⟩:h0=boot_heap w.params∧g0=Array.mk []∧d0=boot_drawn∧k0=boot_toks:=by simpa using e1
 obtain ⟨s1,r1,l1⟩:=Option.map_eq_some_iff.mp (h w os);rw [JoH] at r1;have r:=Jjv r1;rw [JqZ] at r;have l:(staticsOk (importedModules p.main.body) (boot_heap w.params) s1.abs.heap && namesBound p s1.abs.heap && gensDone s1.abs && laidKept (boot_heap w.params) s1.abs.heap)=true∧openSeen q loose (importedModules p.main.body) Xt true s1.abs=openGood q loose∧Yf s1.abs=Ya w:=by
  have z:=l1;unfold JoT at z;rw [← Fast.te4187177175401517315] at z;exact ⟨congrArg Prod.fst z,congrArg (fun x=>x.2.1) z,congrArg (fun x=>x.2.2) z⟩
 have t:topFrom treeTable p w N ⟨boot_heap w.params,Array.mk [],boot_drawn,boot_toks,os⟩=some s1.abs:=by
  unfold topFrom;dsimp only;rw [hb w.params,r];show (match staticsOk (importedModules p.main.body) (boot_heap w.params) s1.abs.heap && namesBound p s1.abs.heap && gensDone s1.abs && laidKept (boot_heap w.params) s1.abs.heap with | true=>_ | false=>_)=_;rw [l.1]
 unfold openEnds;rw [e0];show (topFrom treeTable p w N _).map _=_;rw [t];exact congrArg some (Prod.ext l.2.1 l.2.2)
end L2
namespace Pf
open PySem PySem.W L2
abbrev pg:Program:=PySem.Challenge.pw_bidmover_k42_whole_taken_back
def Yb (i:Nat):Stmt:=pg.main.body.getD i (.Pass ⟨0,0,0,0⟩)
def qv:Program:={ pg with main:={ pg.main with body:=[Yb 82] } }
def lo0:List Str:=(["_wall", "good_name", "check_hand", "other", "check_up_to", "check_coins", "check_bid", "check_standing", "ended", "coins_of", "pay", "settle", "turn_begin", "told_by", "check_each_once", "check_among", "check_places", "check_lanes", "check_goals", "_law_at", "_law_row", "_law_whole", "_law_names", "_law_pairs", "_law_goals", "_law_ground", "_law_total", "_law_left", "_law_ways", "_law_foe", "_law_hand", "_law_won", "_law_turned", "_law_which", "_law_holds", "_law_flat", "_law_deeds", "_law_due", "_law_next", "_law_bid_pick", "_law_reply_pick", "_law_pick", "_law_opening", "_law_shows", "_law_does", "_law_open", "_law_long", "_law_try", "_law_told", "_law_as", "_law_forth", "_law_back", "BidmoverError", "BadName", "BadHand", "OutOfRange", "Twice", "NoPlace", "BadBid", "NoLane", "NotDue", "NothingDone", "Taken", "Full", "Missing", "Book", "Moment", "Game", "Board", "HANDS", "MOST_SIGNS", "MOST_TURNS", "MOST_COINS", "MOST_PLACES", "MOST_LANES"]:List String).map Str.ofString
abbrev Job:Stmt:=Yb 0
abbrev Jdw:Stmt:=Yb 18
abbrev JeX:Stmt:=Yb 19
abbrev Jkz:Stmt:=Yb 20
abbrev JdN:Stmt:=Yb 24
abbrev JdQ:Stmt:=Yb 25
abbrev JfY:Stmt:=Yb 26
abbrev Jcg:Stmt:=Yb 27
abbrev JkC:Stmt:=Yb 28
abbrev JgL:Stmt:=Yb 29
abbrev JoZ:Stmt:=Yb 30
abbrev JiT:Stmt:=Yb 31
abbrev Jf4:Stmt:=Yo (Yb 33) 0
abbrev JbQ:Stmt:=Yo (Yb 33) 1
abbrev Jc8:Stmt:=Yo (Yb 33) 2
abbrev Y4:Stmt:=Yo (Yb 33) 3
abbrev Y3:Stmt:=Yo (Yb 33) 4
abbrev Jbs:Stmt:=Yo (Yb 33) 5
abbrev JdV:Stmt:=Yo (Yb 33) 6
abbrev Jho:Stmt:=Yo (Yb 33) 7
abbrev JdW:Stmt:=Yo (Yb 33) 8
abbrev Jci:Stmt:=Yo (Yb 33) 9
abbrev Jbt:Stmt:=Yo (Yb 33) 10
abbrev Jc7:Stmt:=Yo (Yb 33) 11
abbrev JdS:Stmt:=Yo (Yb 35) 0
abbrev JeU:Stmt:=Yb 36
abbrev Jhm:Stmt:=Yb 37
abbrev Jf2:Stmt:=Yo (Yb 38) 0
abbrev JcG:Stmt:=Yo (Yb 38) 1
abbrev JgN:Stmt:=Yo (Yb 38) 2
abbrev JeY:Stmt:=Yo (Yb 38) 3
abbrev Je0:Stmt:=Yo (Yb 38) 4
abbrev Jf1:Stmt:=Yo (Yb 38) 5
abbrev JdT:Stmt:=Yo (Yb 38) 6
abbrev JfZ:Stmt:=Yo (Yb 38) 7
abbrev Jch:Stmt:=Yo (Yb 38) 8
abbrev JeZ:Stmt:=Yo (Yb 38) 9
abbrev JgO:Stmt:=Yo (Yb 38) 10
abbrev JdU:Stmt:=Yo (Yb 38) 11
abbrev Jf0:Stmt:=Yo (Yb 38) 12
abbrev Jf3:Stmt:=Yo (Yb 38) 13
abbrev JbP:Stmt:=Yb 42
abbrev JdR:Stmt:=Yb 43
abbrev Jc6:Stmt:=Yb 44
abbrev JdO:Stmt:=Yb 45
abbrev JdP:Stmt:=Yb 46
abbrev Je1:Stmt:=Yo (Yb 47) 0
abbrev Jba:Stmt:=Yo (Yb 47) 1
abbrev JcH:Stmt:=Yo (Yb 47) 2
abbrev JcI:Stmt:=Yo (Yb 47) 3
abbrev JrN:Stmt:=Yb 49
abbrev JoY:Stmt:=Yb 50
abbrev Jkv:Stmt:=Yb 51
abbrev Jie:Stmt:=Yb 52
abbrev Jky:Stmt:=Yb 53
abbrev Jif:Stmt:=Yb 54
abbrev JeW:Stmt:=Yb 55
abbrev Jkw:Stmt:=Yb 56
abbrev JmG:Stmt:=Yb 57
abbrev JjC:Stmt:=Yb 58
abbrev Jo0:Stmt:=Yb 59
abbrev JmH:Stmt:=Yb 60
abbrev JoW:Stmt:=Yb 61
abbrev JiS:Stmt:=Yb 62
abbrev Jid:Stmt:=Yb 63
abbrev JkA:Stmt:=Yb 64
abbrev JmI:Stmt:=Yb 65
abbrev JkD:Stmt:=Yb 66
abbrev Jo1:Stmt:=Yb 67
abbrev JmE:Stmt:=Yb 68
abbrev JgM:Stmt:=Yb 69
abbrev JeV:Stmt:=Yb 70
abbrev JmC:Stmt:=Yb 71
abbrev Jhn:Stmt:=Yb 72
abbrev Jkx:Stmt:=Yb 73
abbrev JmJ:Stmt:=Yb 74
abbrev JmD:Stmt:=Yb 75
abbrev JmF:Stmt:=Yb 76
abbrev JoX:Stmt:=Yb 77
abbrev JmB:Stmt:=Yb 78
abbrev JrO:Stmt:=Yb 79
abbrev JkB:Stmt:=Yb 80
abbrev JmK:Stmt:=Yb 81
abbrev JgK:Stmt:=Yb 82
def JrG (K:Frag):List (Bool):=[JO K "_wall",
 JO K "good_name",
 JO K "check_hand",
 JO K "other",
 JO K "check_up_to",
 JO K "check_coins",
 JO K "check_bid",
 JO K "check_standing",
 JO K "ended",
 JO K "coins_of",
 JO K "pay",
 JO K "settle",
 Ys K "Book" "__init__",
 PySem.W.isFn K (.ref (JE K "Book" "__init__")),
 Ys K "Book" "needs_with",
 PySem.W.isFn K (.ref (JE K "Book" "needs_with")),
 Ys K "Book" "need_at",
 PySem.W.isFn K (.ref (JE K "Book" "need_at")),
 Ys K "Book" "need_where_north_leads",
 PySem.W.isFn K (.ref (JE K "Book" "need_where_north_leads")),
 Ys K "Book" "need_where_south_leads",
 PySem.W.isFn K (.ref (JE K "Book" "need_where_south_leads")),
 Ys K "Book" "check_share",
 PySem.W.isFn K (.ref (JE K "Book" "check_share")),
 Ys K "Book" "winner",
 PySem.W.isFn K (.ref (JE K "Book" "winner")),
 Ys K "Book" "least",
 PySem.W.isFn K (.ref (JE K "Book" "least")),
 Ys K "Book" "bid_of",
 PySem.W.isFn K (.ref (JE K "Book" "bid_of")),
 Ys K "Book" "answer_of",
 PySem.W.isFn K (.ref (JE K "Book" "answer_of")),
 Ys K "Book" "answer_wins",
 PySem.W.isFn K (.ref (JE K "Book" "answer_wins")),
 Ys K "Book" "step_of",
 PySem.W.isFn K (.ref (JE K "Book" "step_of")),
 Ys K "Moment" "__init__",
 PySem.W.isFn K (.ref (JE K "Moment" "__init__")),
 JO K "turn_begin",
 JO K "told_by",
 Ys K "Game" "__init__",
 PySem.W.isFn K (.ref (JE K "Game" "__init__")),
 Ys K "Game" "standing",
 PySem.W.isFn K (.ref (JE K "Game" "standing")),
 Ys K "Game" "due",
 PySem.W.isFn K (.ref (JE K "Game" "due")),
 Ys K "Game" "named",
 PySem.W.isFn K (.ref (JE K "Game" "named")),
 Ys K "Game" "deeds",
 PySem.W.isFn K (.ref (JE K "Game" "deeds")),
 Ys K "Game" "over",
 PySem.W.isFn K (.ref (JE K "Game" "over")),
 Ys K "Game" "winner",
 PySem.W.isFn K (.ref (JE K "Game" "winner")),
 Ys K "Game" "told",
 PySem.W.isFn K (.ref (JE K "Game" "told")),
 Ys K "Game" "check_due",
 PySem.W.isFn K (.ref (JE K "Game" "check_due")),
 Ys K "Game" "go_on",
 PySem.W.isFn K (.ref (JE K "Game" "go_on")),
 Ys K "Game" "bid",
 PySem.W.isFn K (.ref (JE K "Game" "bid")),
 Ys K "Game" "answer",
 PySem.W.isFn K (.ref (JE K "Game" "answer")),
 Ys K "Game" "step",
 PySem.W.isFn K (.ref (JE K "Game" "step")),
 Ys K "Game" "back",
 PySem.W.isFn K (.ref (JE K "Game" "back")),
 JO K "check_each_once",
 JO K "check_among",
 JO K "check_places",
 JO K "check_lanes",
 JO K "check_goals",
 Ys K "Board" "__init__",
 PySem.W.isFn K (.ref (JE K "Board" "__init__")),
 Ys K "Board" "check_place",
 PySem.W.isFn K (.ref (JE K "Board" "check_place")),
 Ys K "Board" "ways",
 PySem.W.isFn K (.ref (JE K "Board" "ways")),
 Ys K "Board" "is_goal",
 PySem.W.isFn K (.ref (JE K "Board" "is_goal")),
 JO K "_law_at",
 JO K "_law_row",
 JO K "_law_whole",
 JO K "_law_names",
 JO K "_law_pairs",
 JO K "_law_goals",
 JO K "_law_ground",
 JO K "_law_total",
 JO K "_law_left",
 JO K "_law_ways",
 JO K "_law_foe",
 JO K "_law_hand",
 JO K "_law_won",
 JO K "_law_turned",
 JO K "_law_which",
 JO K "_law_holds",
 JO K "_law_flat",
 JO K "_law_deeds",
 JO K "_law_due",
 JO K "_law_next",
 JO K "_law_bid_pick",
 JO K "_law_reply_pick",
 JO K "_law_pick",
 JO K "_law_opening",
 JO K "_law_shows",
 JO K "_law_does",
 JO K "_law_open",
 JO K "_law_long",
 JO K "_law_try",
 JO K "_law_told",
 JO K "_law_as",
 JO K "_law_forth",
 JO K "_law_back",
 JO K "law",
 JO K "HANDS",
 JO K "BidmoverError",
 JO K "BadName",
 JO K "BadHand",
 JO K "OutOfRange",
 JO K "Twice",
 JO K "NoPlace",
 JO K "BadBid",
 JO K "NoLane",
 JO K "NotDue",
 JO K "NothingDone",
 JO K "Taken",
 JO K "Full",
 JO K "Missing",
 JO K "Book",
 JO K "Moment",
 JO K "Game",
 JO K "Board",
 PySem.W.plainGet K (Ji K "Book") Str.empty,
 PySem.W.hasDictIn K (Ji K "Book"),
 PySem.W.plainOver K (Ji K "Book"),
 PySem.W.makesIn K (Ji K "Book"),
 PySem.W.keepIn K (.ref (Ji K "Book")),
 PySem.W.plainGet K (Ji K "Moment") Str.empty,
 PySem.W.hasDictIn K (Ji K "Moment"),
 PySem.W.plainOver K (Ji K "Moment"),
 PySem.W.makesIn K (Ji K "Moment"),
 PySem.W.keepIn K (.ref (Ji K "Moment")),
 PySem.W.plainGet K (Ji K "Game") Str.empty,
 PySem.W.hasDictIn K (Ji K "Game"),
 PySem.W.plainOver K (Ji K "Game"),
 PySem.W.makesIn K (Ji K "Game"),
 PySem.W.keepIn K (.ref (Ji K "Game")),
 PySem.W.plainGet K (Ji K "Board") Str.empty,
 PySem.W.hasDictIn K (Ji K "Board"),
 PySem.W.plainOver K (Ji K "Board"),
 PySem.W.makesIn K (Ji K "Board"),
 PySem.W.keepIn K (.ref (Ji K "Board")),
 PySem.W.excIn K (Ji K "BadHand") [.type "ValueError",.type "Exception",.type "BaseException",.type "object"] "ValueError.__new__",
 (PySem.W.clsIn K (Ji K "BadHand")).isSome,
 PySem.W.excIn K (Ji K "OutOfRange") [.type "ValueError",.type "Exception",.type "BaseException",.type "object"] "ValueError.__new__",
 (PySem.W.clsIn K (Ji K "OutOfRange")).isSome,
 PySem.W.excIn K (Ji K "BadBid") [.type "ValueError",.type "Exception",.type "BaseException",.type "object"] "ValueError.__new__",
 (PySem.W.clsIn K (Ji K "BadBid")).isSome,
 PySem.W.excIn K (Ji K "NotDue") [.type "ValueError",.type "Exception",.type "BaseException",.type "object"] "ValueError.__new__",
 (PySem.W.clsIn K (Ji K "NotDue")).isSome,
 PySem.W.excIn K (Ji K "NoLane") [.type "ValueError",.type "Exception",.type "BaseException",.type "object"] "ValueError.__new__",
 (PySem.W.clsIn K (Ji K "NoLane")).isSome,
 PySem.W.excIn K (Ji K "NothingDone") [.type "ValueError",.type "Exception",.type "BaseException",.type "object"] "ValueError.__new__",
 (PySem.W.clsIn K (Ji K "NothingDone")).isSome,
 PySem.W.excIn K (Ji K "Twice") [.type "ValueError",.type "Exception",.type "BaseException",.type "object"] "ValueError.__new__",
 (PySem.W.clsIn K (Ji K "Twice")).isSome,
 PySem.W.excIn K (Ji K "NoPlace") [.type "ValueError",.type "Exception",.type "BaseException",.type "object"] "ValueError.__new__",
 (PySem.W.clsIn K (Ji K "NoPlace")).isSome,
 PySem.W.excIn K (Ji K "BadName") [.type "ValueError",.type "Exception",.type "BaseException",.type "object"] "ValueError.__new__",
 (PySem.W.clsIn K (Ji K "BadName")).isSome]
def isB:List (Bool):=List.replicate 171 true
def JrF (K:Frag):List (Option (FuncData×Bool)):=[J6 K (Ji K "_wall") "_wall",
 J6 K (Ji K "good_name") "good_name",
 J6 K (Ji K "check_hand") "check_hand",
 J6 K (Ji K "other") "other",
 J6 K (Ji K "check_up_to") "check_up_to",
 J6 K (Ji K "check_coins") "check_coins",
 J6 K (Ji K "check_bid") "check_bid",
 J6 K (Ji K "check_standing") "check_standing",
 J6 K (Ji K "ended") "ended",
 J6 K (Ji K "coins_of") "coins_of",
 J6 K (Ji K "pay") "pay",
 J6 K (Ji K "settle") "settle",
 J6 K (JE K "Book" "__init__") "Book.__init__",
 J6 K (JE K "Book" "needs_with") "Book.needs_with",
 J6 K (JE K "Book" "need_at") "Book.need_at",
 J6 K (JE K "Book" "need_where_north_leads") "Book.need_where_north_leads",
 J6 K (JE K "Book" "need_where_south_leads") "Book.need_where_south_leads",
 J6 K (JE K "Book" "check_share") "Book.check_share",
 J6 K (JE K "Book" "winner") "Book.winner",
 J6 K (JE K "Book" "least") "Book.least",
 J6 K (JE K "Book" "bid_of") "Book.bid_of",
 J6 K (JE K "Book" "answer_of") "Book.answer_of",
 J6 K (JE K "Book" "answer_wins") "Book.answer_wins",
 J6 K (JE K "Book" "step_of") "Book.step_of",
 J6 K (JE K "Moment" "__init__") "Moment.__init__",
 J6 K (Ji K "turn_begin") "turn_begin",
 J6 K (Ji K "told_by") "told_by",
 J6 K (JE K "Game" "__init__") "Game.__init__",
 J6 K (JE K "Game" "standing") "Game.standing",
 J6 K (JE K "Game" "due") "Game.due",
 J6 K (JE K "Game" "named") "Game.named",
 J6 K (JE K "Game" "deeds") "Game.deeds",
 J6 K (JE K "Game" "over") "Game.over",
 J6 K (JE K "Game" "winner") "Game.winner",
 J6 K (JE K "Game" "told") "Game.told",
 J6 K (JE K "Game" "check_due") "Game.check_due",
 J6 K (JE K "Game" "go_on") "Game.go_on",
 J6 K (JE K "Game" "bid") "Game.bid",
 J6 K (JE K "Game" "answer") "Game.answer",
 J6 K (JE K "Game" "step") "Game.step",
 J6 K (JE K "Game" "back") "Game.back",
 J6 K (Ji K "check_each_once") "check_each_once",
 J6 K (Ji K "check_among") "check_among",
 J6 K (Ji K "check_places") "check_places",
 J6 K (Ji K "check_lanes") "check_lanes",
 J6 K (Ji K "check_goals") "check_goals",
 J6 K (JE K "Board" "__init__") "Board.__init__",
 J6 K (JE K "Board" "check_place") "Board.check_place",
 J6 K (JE K "Board" "ways") "Board.ways",
 J6 K (JE K "Board" "is_goal") "Board.is_goal",
 J6 K (Ji K "_law_at") "_law_at",
 J6 K (Ji K "_law_row") "_law_row",
 J6 K (Ji K "_law_whole") "_law_whole",
 J6 K (Ji K "_law_names") "_law_names",
 J6 K (Ji K "_law_pairs") "_law_pairs",
 J6 K (Ji K "_law_goals") "_law_goals",
 J6 K (Ji K "_law_ground") "_law_ground",
 J6 K (Ji K "_law_total") "_law_total",
 J6 K (Ji K "_law_left") "_law_left",
 J6 K (Ji K "_law_ways") "_law_ways",
 J6 K (Ji K "_law_foe") "_law_foe",
 J6 K (Ji K "_law_hand") "_law_hand",
 J6 K (Ji K "_law_won") "_law_won",
 J6 K (Ji K "_law_turned") "_law_turned",
 J6 K (Ji K "_law_which") "_law_which",
 J6 K (Ji K "_law_holds") "_law_holds",
 J6 K (Ji K "_law_flat") "_law_flat",
 J6 K (Ji K "_law_deeds") "_law_deeds",
 J6 K (Ji K "_law_due") "_law_due",
 J6 K (Ji K "_law_next") "_law_next",
 J6 K (Ji K "_law_bid_pick") "_law_bid_pick",
 J6 K (Ji K "_law_reply_pick") "_law_reply_pick",
 J6 K (Ji K "_law_pick") "_law_pick",
 J6 K (Ji K "_law_opening") "_law_opening",
 J6 K (Ji K "_law_shows") "_law_shows",
 J6 K (Ji K "_law_does") "_law_does",
 J6 K (Ji K "_law_open") "_law_open",
 J6 K (Ji K "_law_long") "_law_long",
 J6 K (Ji K "_law_try") "_law_try",
 J6 K (Ji K "_law_told") "_law_told",
 J6 K (Ji K "_law_as") "_law_as",
 J6 K (Ji K "_law_forth") "_law_forth",
 J6 K (Ji K "_law_back") "_law_back",
 J6 K (Ji K "law") "law"]
def isF:List (Option (FuncData×Bool)):=[J8 "_wall" "_wall" Job,
 J8 "good_name" "good_name" Jdw,
 J8 "check_hand" "check_hand" JeX,
 J8 "other" "other" Jkz,
 J8 "check_up_to" "check_up_to" JdN,
 J8 "check_coins" "check_coins" JdQ,
 J8 "check_bid" "check_bid" JfY,
 J8 "check_standing" "check_standing" Jcg,
 J8 "ended" "ended" JkC,
 J8 "coins_of" "coins_of" JgL,
 J8 "pay" "pay" JoZ,
 J8 "settle" "settle" JiT,
 J8 "__init__" "Book.__init__" Jf4,
 J8 "needs_with" "Book.needs_with" JbQ,
 J8 "need_at" "Book.need_at" Jc8,
 J8 "need_where_north_leads" "Book.need_where_north_leads" Y4,
 J8 "need_where_south_leads" "Book.need_where_south_leads" Y3,
 J8 "check_share" "Book.check_share" Jbs,
 J8 "winner" "Book.winner" JdV,
 J8 "least" "Book.least" Jho,
 J8 "bid_of" "Book.bid_of" JdW,
 J8 "answer_of" "Book.answer_of" Jci,
 J8 "answer_wins" "Book.answer_wins" Jbt,
 J8 "step_of" "Book.step_of" Jc7,
 J8 "__init__" "Moment.__init__" JdS,
 J8 "turn_begin" "turn_begin" JeU,
 J8 "told_by" "told_by" Jhm,
 J8 "__init__" "Game.__init__" Jf2,
 J8 "standing" "Game.standing" JcG,
 J8 "due" "Game.due" JgN,
 J8 "named" "Game.named" JeY,
 J8 "deeds" "Game.deeds" Je0,
 J8 "over" "Game.over" Jf1,
 J8 "winner" "Game.winner" JdT,
 J8 "told" "Game.told" JfZ,
 J8 "check_due" "Game.check_due" Jch,
 J8 "go_on" "Game.go_on" JeZ,
 J8 "bid" "Game.bid" JgO,
 J8 "answer" "Game.answer" JdU,
 J8 "step" "Game.step" Jf0,
 J8 "back" "Game.back" Jf3,
 J8 "check_each_once" "check_each_once" JbP,
 J8 "check_among" "check_among" JdR,
 J8 "check_places" "check_places" Jc6,
 J8 "check_lanes" "check_lanes" JdO,
 J8 "check_goals" "check_goals" JdP,
 J8 "__init__" "Board.__init__" Je1,
 J8 "check_place" "Board.check_place" Jba,
 J8 "ways" "Board.ways" JcH,
 J8 "is_goal" "Board.is_goal" JcI,
 J8 "_law_at" "_law_at" JrN,
 J8 "_law_row" "_law_row" JoY,
 J8 "_law_whole" "_law_whole" Jkv,
 J8 "_law_names" "_law_names" Jie,
 J8 "_law_pairs" "_law_pairs" Jky,
 J8 "_law_goals" "_law_goals" Jif,
 J8 "_law_ground" "_law_ground" JeW,
 J8 "_law_total" "_law_total" Jkw,
 J8 "_law_left" "_law_left" JmG,
 J8 "_law_ways" "_law_ways" JjC,
 J8 "_law_foe" "_law_foe" Jo0,
 J8 "_law_hand" "_law_hand" JmH,
 J8 "_law_won" "_law_won" JoW,
 J8 "_law_turned" "_law_turned" JiS,
 J8 "_law_which" "_law_which" Jid,
 J8 "_law_holds" "_law_holds" JkA,
 J8 "_law_flat" "_law_flat" JmI,
 J8 "_law_deeds" "_law_deeds" JkD,
 J8 "_law_due" "_law_due" Jo1,
 J8 "_law_next" "_law_next" JmE,
 J8 "_law_bid_pick" "_law_bid_pick" JgM,
 J8 "_law_reply_pick" "_law_reply_pick" JeV,
 J8 "_law_pick" "_law_pick" JmC,
 J8 "_law_opening" "_law_opening" Jhn,
 J8 "_law_shows" "_law_shows" Jkx,
 J8 "_law_does" "_law_does" JmJ,
 J8 "_law_open" "_law_open" JmD,
 J8 "_law_long" "_law_long" JmF,
 J8 "_law_try" "_law_try" JoX,
 J8 "_law_told" "_law_told" JmB,
 J8 "_law_as" "_law_as" JrO,
 J8 "_law_forth" "_law_forth" JkB,
 J8 "_law_back" "_law_back" JmK,
 J8 "law" "law" JgK]
def JrD (K:Frag):List (Option (Option Value)):=[PySem.W.nsIn K mainGlobals "all",
 PySem.W.nsIn K mainGlobals "len",
 PySem.W.nsIn K mainGlobals "range",
 PySem.W.nsIn K mainGlobals "min",
 PySem.W.nsIn K mainGlobals "max",
 PySem.W.nsIn K mainGlobals "tuple",
 PySem.W.nsIn K mainGlobals "set",
 PySem.W.nsIn K mainGlobals "sorted",
 PySem.W.nsIn K mainGlobals "isinstance",
 PySem.W.nsIn K mainGlobals "int",
 PySem.W.nsIn K mainGlobals "bool",
 PySem.W.nsIn K mainGlobals "str",
 PySem.W.nsIn K mainGlobals "ValueError",
 PySem.W.nsIn K mainGlobals "list",
 PySem.W.findIn K (.ref (Ji K "Book")) "__setattr__",
 PySem.W.findIn K (.ref (Ji K "Book")) "board",
 PySem.W.findIn K (.ref (Ji K "Book")) "coins",
 PySem.W.findIn K (.ref (Ji K "Book")) "turns",
 PySem.W.findIn K (.ref (Ji K "Book")) "needs",
 PySem.W.findIn K (.ref (Ji K "Moment")) "__setattr__",
 PySem.W.findIn K (.ref (Ji K "Moment")) "place",
 PySem.W.findIn K (.ref (Ji K "Moment")) "turns",
 PySem.W.findIn K (.ref (Ji K "Moment")) "north",
 PySem.W.findIn K (.ref (Ji K "Moment")) "south",
 PySem.W.findIn K (.ref (Ji K "Moment")) "ribbon",
 PySem.W.findIn K (.ref (Ji K "Moment")) "hand",
 PySem.W.findIn K (.ref (Ji K "Moment")) "word",
 PySem.W.findIn K (.ref (Ji K "Moment")) "heard",
 PySem.W.findIn K (.ref (Ji K "Game")) "__setattr__",
 PySem.W.findIn K (.ref (Ji K "Game")) "board",
 PySem.W.findIn K (.ref (Ji K "Game")) "book",
 PySem.W.findIn K (.ref (Ji K "Game")) "done",
 PySem.W.findIn K (.ref (Ji K "Game")) "moments",
 PySem.W.findIn K (.ref (Ji K "Board")) "__setattr__",
 PySem.W.findIn K (.ref (Ji K "Board")) "places",
 PySem.W.findIn K (.ref (Ji K "Board")) "lanes",
 PySem.W.findIn K (.ref (Ji K "Board")) "goals",
 PySem.W.specialIn K (.builtin "object.__class__") "__get__",
 PySem.W.findIn K (.ref (Ji K "BadHand")) "__getattribute__",
 PySem.W.findIn K (.ref (Ji K "BadHand")) "__getattr__",
 PySem.W.findIn K (.ref (Ji K "BadHand")) "__class__",
 PySem.W.findIn K (.ref (Ji K "OutOfRange")) "__getattribute__",
 PySem.W.findIn K (.ref (Ji K "OutOfRange")) "__getattr__",
 PySem.W.findIn K (.ref (Ji K "OutOfRange")) "__class__",
 PySem.W.findIn K (.ref (Ji K "BadBid")) "__getattribute__",
 PySem.W.findIn K (.ref (Ji K "BadBid")) "__getattr__",
 PySem.W.findIn K (.ref (Ji K "BadBid")) "__class__",
 PySem.W.findIn K (.ref (Ji K "NotDue")) "__getattribute__",
 PySem.W.findIn K (.ref (Ji K "NotDue")) "__getattr__",
 PySem.W.findIn K (.ref (Ji K "NotDue")) "__class__",
 PySem.W.findIn K (.ref (Ji K "NoLane")) "__getattribute__",
 PySem.W.findIn K (.ref (Ji K "NoLane")) "__getattr__",
 PySem.W.findIn K (.ref (Ji K "NoLane")) "__class__",
 PySem.W.findIn K (.ref (Ji K "NothingDone")) "__getattribute__",
 PySem.W.findIn K (.ref (Ji K "NothingDone")) "__getattr__",
 PySem.W.findIn K (.ref (Ji K "NothingDone")) "__class__",
 PySem.W.findIn K (.ref (Ji K "Twice")) "__getattribute__",
 PySem.W.findIn K (.ref (Ji K "Twice")) "__getattr__",
 PySem.W.findIn K (.ref (Ji K "Twice")) "__class__",
 PySem.W.findIn K (.ref (Ji K "NoPlace")) "__getattribute__",
 PySem.W.findIn K (.ref (Ji K "NoPlace")) "__getattr__",
 PySem.W.findIn K (.ref (Ji K "NoPlace")) "__class__",
 PySem.W.findIn K (.ref (Ji K "BadName")) "__getattribute__",
 PySem.W.findIn K (.ref (Ji K "BadName")) "__getattr__",
 PySem.W.findIn K (.ref (Ji K "BadName")) "__class__"]
def isN:List (Option (Option Value)):=[some none,
 some none,
 some none,
 some none,
 some none,
 some none,
 some none,
 some none,
 some none,
 some none,
 some none,
 some none,
 some none,
 some none,
 some (some (.builtin "object.__setattr__")),
 some none,
 some none,
 some none,
 some none,
 some (some (.builtin "object.__setattr__")),
 some none,
 some none,
 some none,
 some none,
 some none,
 some none,
 some none,
 some none,
 some (some (.builtin "object.__setattr__")),
 some none,
 some none,
 some none,
 some none,
 some (some (.builtin "object.__setattr__")),
 some none,
 some none,
 some none,
 some (some (.builtin "getset_descriptor.__get__")),
 some (some (.builtin "BaseException.__getattribute__")),
 some none,
 some (some (.builtin "object.__class__")),
 some (some (.builtin "BaseException.__getattribute__")),
 some none,
 some (some (.builtin "object.__class__")),
 some (some (.builtin "BaseException.__getattribute__")),
 some none,
 some (some (.builtin "object.__class__")),
 some (some (.builtin "BaseException.__getattribute__")),
 some none,
 some (some (.builtin "object.__class__")),
 some (some (.builtin "BaseException.__getattribute__")),
 some none,
 some (some (.builtin "object.__class__")),
 some (some (.builtin "BaseException.__getattribute__")),
 some none,
 some (some (.builtin "object.__class__")),
 some (some (.builtin "BaseException.__getattribute__")),
 some none,
 some (some (.builtin "object.__class__")),
 some (some (.builtin "BaseException.__getattribute__")),
 some none,
 some (some (.builtin "object.__class__")),
 some (some (.builtin "BaseException.__getattribute__")),
 some none,
 some (some (.builtin "object.__class__"))]
def JrE (K:Frag):List (Option Bool):=[PySem.W.takesIn K (.builtin "object.__class__"),
 PySem.W.mroIn K (Ji K "BadHand") (.type "object"),
 PySem.W.mroIn K (Ji K "BadHand") (.type "BaseException"),
 PySem.W.mroIn K (Ji K "OutOfRange") (.type "object"),
 PySem.W.mroIn K (Ji K "OutOfRange") (.type "BaseException"),
 PySem.W.mroIn K (Ji K "BadBid") (.type "object"),
 PySem.W.mroIn K (Ji K "BadBid") (.type "BaseException"),
 PySem.W.mroIn K (Ji K "NotDue") (.type "object"),
 PySem.W.mroIn K (Ji K "NotDue") (.type "BaseException"),
 PySem.W.mroIn K (Ji K "NoLane") (.type "object"),
 PySem.W.mroIn K (Ji K "NoLane") (.type "BaseException"),
 PySem.W.mroIn K (Ji K "NothingDone") (.type "object"),
 PySem.W.mroIn K (Ji K "NothingDone") (.type "BaseException"),
 PySem.W.exmOne K (.ref (Ji K "NothingDone")) (.ref (Ji K "BidmoverError")),
 PySem.W.kitOne K (.ref (Ji K "NothingDone")) (.type "ValueError"),
 PySem.W.kitOne K (.ref (Ji K "NothingDone")) (.ref (Ji K "BadName")),
 PySem.W.kitOne K (.ref (Ji K "NothingDone")) (.ref (Ji K "BadHand")),
 PySem.W.kitOne K (.ref (Ji K "NothingDone")) (.ref (Ji K "OutOfRange")),
 PySem.W.kitOne K (.ref (Ji K "NothingDone")) (.ref (Ji K "Twice")),
 PySem.W.kitOne K (.ref (Ji K "NothingDone")) (.ref (Ji K "NoPlace")),
 PySem.W.kitOne K (.ref (Ji K "NothingDone")) (.ref (Ji K "BadBid")),
 PySem.W.kitOne K (.ref (Ji K "NothingDone")) (.ref (Ji K "NoLane")),
 PySem.W.kitOne K (.ref (Ji K "NothingDone")) (.ref (Ji K "NotDue")),
 PySem.W.kitOne K (.ref (Ji K "NothingDone")) (.ref (Ji K "NothingDone")),
 PySem.W.kitOne K (.ref (Ji K "NothingDone")) (.ref (Ji K "Taken")),
 PySem.W.kitOne K (.ref (Ji K "NothingDone")) (.ref (Ji K "Full")),
 PySem.W.kitOne K (.ref (Ji K "NothingDone")) (.ref (Ji K "Missing")),
 PySem.W.mroIn K (Ji K "Twice") (.type "object"),
 PySem.W.mroIn K (Ji K "Twice") (.type "BaseException"),
 PySem.W.mroIn K (Ji K "NoPlace") (.type "object"),
 PySem.W.mroIn K (Ji K "NoPlace") (.type "BaseException"),
 PySem.W.mroIn K (Ji K "BadName") (.type "object"),
 PySem.W.mroIn K (Ji K "BadName") (.type "BaseException")]
def isK:List (Option Bool):=[some true,
 some true,
 some true,
 some true,
 some true,
 some true,
 some true,
 some true,
 some true,
 some true,
 some true,
 some true,
 some true,
 some true,
 some true,
 some false,
 some false,
 some false,
 some false,
 some false,
 some false,
 some false,
 some false,
 some true,
 some false,
 some false,
 some false,
 some true,
 some true,
 some true,
 some true,
 some true,
 some true]
def JrB (K:Frag):List (Option (Sum Int Str)):=[obV K "MOST_SIGNS",
 obV K "MOST_TURNS",
 obV K "MOST_COINS",
 obV K "MOST_PLACES",
 obV K "MOST_LANES"]
def isV:List (Option (Sum Int Str)):=[some (.inl 6),
 some (.inl 30),
 some (.inl 20),
 some (.inl 12),
 some (.inl 40)]
def JrC (K:Frag):List (Option (Bool×List (Option (Sum Int Str)))):=[obT K "HANDS"]
def isT:List (Option (Bool×List (Option (Sum Int Str)))):=[some (true,([.inr "north",.inr "south"]:List (Sum Int Str)).map some)]
def see (s:Shared):=(fun K=>(JrG K,JrF K,JrD K,JrE K,JrB K,JrC K)) (JqG s.heap)
def Jmd:=(isB,isF,isN,isK,isV,isT)
def xt (s:Shared):Bool:=xlAt qv [] s && recOk [] s
theorem JrM:PySem.W.OpenLaw.wellSaid PySem.Challenge.rw_bidmover_k42_whole_taken_back=true:=by
 rw [PySem.W.Fast.te9446332074065402090]
 kernel_rfl
set_option maxHeartbeats 0 in
theorem Jun (w:World) (os:OsState):(Jkl pg w 12824 (JpB w.params os)).map (fun s=>JoT pg qv lo0 xt see w.params s.abs)=some (true,openGood qv lo0,Jmd):=by
 kernel_rfl
theorem JtX (P:Params):((boot_heap P).isNs mainGlobals && (Array.mk ([]:List GenState)).size == 0)=true:=by kernel_rfl
theorem left:LeftO pg qv lo0 xt see (fun _=>Jmd) 12824:=JtR (by kernel_rfl) (by decide) (fun s=>by kernel_rfl) Jun JtX
end Pf
namespace L2
open PySem PySem.Spec PyProof.Rows
abbrev J5:=Sum Int Str
def Jij:J5→Value→Bool
 | .inl k,v=>Value.isInt k v
 | .inr x,v=>Value.isStrOf x v
def Jv7 (w:World):J5→Int
 | .inl k=>hashInt k
 | .inr x=>hashStr w x
theorem ZO:∀ {k:J5} {v:Value},Jij k v=true→(∃ i t,k=Sum.inl i∧v=Value.int i t)∨(∃ x t,k=Sum.inr x∧v=Value.str x t)
 | .inl i,v,h=>by
  obtain ⟨t,e⟩:=Value.isInt_shape (k:=i) (v:=v) h;exact .inl ⟨i,t,rfl,e⟩
 | .inr x,v,h=>by
  obtain ⟨t,e⟩:=Value.isStrOf_shape (x:=x) (v:=v) h;exact .inr ⟨x,t,rfl,e⟩
theorem Jqx (i:Int) (t:Tok):Jij (.inl i) (.int i t)=true:=by simp [Jij,Value.isInt]
theorem Jqw (x:Str) (t:Tok):Jij (.inr x) (.str x t)=true:=by simp [Jij,Value.isStrOf]
theorem JuP (a b:Int):decide ((Sum.inl a:J5)=Sum.inl b)=(a == b):=by
 by_cases e:a=b
 ·subst e; simp
 ·have h:¬ (Sum.inl a:J5)=Sum.inl b:=fun q=>e (Sum.inl.inj q)
  rw [decide_eq_false h];exact (beq_eq_false_iff_ne.mpr e).symm
theorem Jqv (a b:Str):decide ((Sum.inr a:J5)=Sum.inr b)=decide (a=b):=by
 by_cases e:a=b
 ·subst e; simp
 ·have h:¬ (Sum.inr a:J5)=Sum.inr b:=fun q=>e (Sum.inr.inj q)
  rw [decide_eq_false h,decide_eq_false e]
theorem JuO (a:Int) (b:Str):decide ((Sum.inl a:J5)=Sum.inr b)=false:=decide_eq_false (fun q=>nomatch q)
theorem JuN (a:Str) (b:Int):decide ((Sum.inr a:J5)=Sum.inl b)=false:=decide_eq_false (fun q=>nomatch q)
def YF (prog:Program) (w:World):PySem.KeyKind prog w J5 where
 is:=Jij
 hash:=Jv7 w
 inj:=fun v a b ha hb=>by
  rcases ZO ha with ⟨i,t,rfl,rfl⟩ | ⟨x,t,rfl,rfl⟩
  ·rcases ZO hb with ⟨j,u,rfl,e⟩ | ⟨y,u,rfl,e⟩
   ·injection e with e1 _; rw [e1]
   ·exact nomatch e
  ·rcases ZO hb with ⟨j,u,rfl,e⟩ | ⟨y,u,rfl,e⟩
   ·exact nomatch e
   ·injection e with e1 _; rw [e1]
 byValue:=fun k v h=>by
  rcases ZO h with ⟨i,t,rfl,rfl⟩ | ⟨x,t,rfl,rfl⟩ <;> rfl
 pyHash:=fun hv h=>by
  rcases ZO hv with ⟨i,t,rfl,rfl⟩ | ⟨x,t,rfl,rfl⟩
  ·exact wpAny_pyHash_int h
  ·exact wpAny_pyHash_str h
 eqBool:=fun hu hv h=>by
  rcases ZO hu with ⟨i,t,rfl,rfl⟩ | ⟨x,t,rfl,rfl⟩
  ·rcases ZO hv with ⟨j,u,rfl,rfl⟩ | ⟨y,u,rfl,rfl⟩
   ·rw [JuP] at h; exact wpAny_eqBool_int h
   ·rw [JuO] at h; exact SeqAt.EqAt.int_str i t y u _ _ _ _ h
  ·rcases ZO hv with ⟨j,u,rfl,rfl⟩ | ⟨y,u,rfl,rfl⟩
   ·rw [JuN] at h; exact SeqAt.EqAt.str_int x t j u _ _ _ _ h
   ·rw [Jqv] at h; exact wpAny_eqBool_str h
 «strs»:=fun k x t v h=>by
  rcases ZO h with ⟨i,u,rfl,e⟩ | ⟨y,u,rfl,e⟩
  ·exact nomatch e
  ·injection e with e1 _;subst e1;cases v <;> rfl
theorem Jn0 (prog:Program) (w:World) (i:Int) (t:Tok):(YF prog w).is (.inl i) (.int i t)=true:=Jqx i t
theorem JbZ (prog:Program) (w:World) (x:Str) (t:Tok):(YF prog w).is (.inr x) (.str x t)=true:=Jqw x t
end L2
namespace L2
open PySem PySem.Spec PyProof.Rows
inductive V where
 | non | bl (b:Bool) | int (i:Int) | str (x:Str) | byt (b:Array UInt8) | flt (b:UInt64) | ref (a:Addr) | ty (n:String)
 deriving DecidableEq
def JY:V→Value→Prop
 | .non,u=>u=Value.none
 | .bl b,u=>u=Value.bool b
 | .int i,u=>∃ t,u=Value.int i t
 | .str x,u=>∃ t,u=Value.str x t
 | .byt b,u=>∃ t,u=Value.bytes b t
 | .flt b,u=>∃ t,u=Value.float b t
 | .ref a,u=>u=Value.ref a
 | .ty n,u=>u=Value.type n
abbrev JL:List V→List Value→Prop:=Paired JY
theorem JL.length {xs:List V} {us:List Value} (r:JL xs us):xs.length=us.length:=Paired.length r
theorem JL.get:∀ {xs:List V} {us:List Value} {i:Nat} {x:V},JL xs us→xs[i]?=some x→∃ u,us[i]?=some u∧JY x u
 | _,_,_,_,.nil,e=>by simp at e
 | _,_,0,_,.cons r _,e=>by simp at e; subst e; exact ⟨_,rfl,r⟩
 | _,_,i + 1,x,.cons _ t,e=>by
  obtain ⟨u,h1,h2⟩:=JL.get (i:=i) (x:=x) t (by simpa using e);exact ⟨u,by simpa using h1,h2⟩
theorem JL.set {x:V} {u:Value} (r:JY x u):∀ {xs:List V} {us:List Value} (i:Nat),JL xs us→JL (xs.set i x) (us.set i u)
 | _,_,_,.nil=>.nil
 | _,_,0,.cons _ t=>.cons r t
 | _,_,i + 1,.cons q t=>.cons q (JL.set r i t)
theorem JL.append:∀ {xs ys:List V} {us ws:List Value},JL xs us→JL ys ws→JL (xs ++ ys) (us ++ ws)
 | _,_,_,_,.nil,s=>s
 | _,_,_,_,.cons r t,s=>.cons r (JL.append t s)
theorem JL.take:∀ {xs:List V} {us:List Value} (n:Nat),JL xs us→JL (xs.take n) (us.take n)
 | _,_,0,_=>.nil
 | _,_,_ + 1,.nil=>.nil
 | _,_,n + 1,.cons r t=>.cons r (JL.take n t)
theorem JL.drop:∀ {xs:List V} {us:List Value} (n:Nat),JL xs us→JL (xs.drop n) (us.drop n)
 | _,_,0,r=>r
 | _,_,_ + 1,.nil=>.nil
 | _,_,n + 1,.cons _ t=>JL.drop n t
theorem JL.none_of:∀ {xs:List V} {us:List Value} {i:Nat},JL xs us→xs[i]?=none→us[i]?=none:=fun {xs us i} r e=>by
 have h1:=r.length;have h2:xs.length≤i:=List.getElem?_eq_none_iff.mp e;exact List.getElem?_eq_none_iff.mpr (by omega)
def Jbg:Option V→Option Value→Prop
 | some v,some u=>JY v u
 | none,none=>True
 | _,_=>False
def KV {κ:Type}:List (κ×V)→List (κ×Value)→Prop:=Paired fun (p:κ×V) (q:κ×Value)=>p.1=q.1∧JY p.2 q.2
def kV:J5→V
 | .inl i=>.int i
 | .inr x=>.str x
inductive HO where
 | lst (xs:List V)
 | tup (xs:List V)
 | dK (kvs:List (J5×V)) | dT (kvs:List (List J5×V))
 | set (S:Int→Bool) (n:Nat)
 | ins (C dx:Addr) (fs:List (Str×V))
 | own (x:Addr)
 | xd (fs:List (Str×V))
 | met (f x:Addr)
 | rng (lo hi:Int)
 | frz (o:Obj) (u:HO)
 | tbl (ps:Array Value)
 | ext (φ:Heap→Prop)
abbrev Hp:=Addr→Option HO
def upd (H:Hp) (a:Addr) (o:HO):Hp:=fun b=>if b=a then some o else H b
theorem Jh {H:Hp} {a:Addr} {o:HO}:upd H a o a=some o:=by unfold upd; rw [if_pos rfl]
theorem JD {H:Hp} {a b:Addr} {o:HO} (h:b≠a):upd H a o b=H b:=by unfold upd; rw [if_neg h]
theorem Jct {H:Hp} {a:Addr} {o u:HO}:upd (upd H a o) a u=upd H a u:=by
 funext b; unfold upd; split <;> rfl
theorem Jax {H:Hp} {a b:Addr} {o u:HO} (h:H a=some o) (h':H b=some u) (d:o≠u):a≠b:=by
 intro e; subst e; rw [h] at h'; exact d (Option.some.inj h')
theorem JC {H:Hp} {a b:Addr} {o:HO} (h:H a=some o) (h':H b=none):a≠b:=by
 intro e; subst e; rw [h] at h'; cases h'
section
variable (P:Program) (w:World)
def YO (H:Hp) (h:Heap) (a:Addr):HO→Prop
 | .lst xs=>xs.length≤sizeLine∧∃ (its:List Value) (n:Nat),JL xs its∧h.get? a=some { cls:=.type "list",data:=.seq its.toArray n }
 | .tup xs=>xs.length≤sizeLine∧∃ its:List Value,JL xs its∧IsTup h a its.toArray
 | .dK kvs=>kvs.length≤sizeLine∧(a == sysModules)=false∧∃ vs,KV kvs vs∧h.DictOf (YF P w) a vs
 | .dT kvs=>kvs.length≤sizeLine∧(a == sysModules)=false∧∃ xs:List (List J5×Addr×Value),
   Paired (fun (p:List J5×V) (q:List J5×Addr×Value)=>p.1=q.1∧H q.2.1=some (.tup (p.1.map kV))∧JY p.2 q.2.2) kvs xs ∧
   ∃ o es ep,h.get? a=some o∧o.ExactDict∧o.data=.dict es ep∧es.toList=xs.map (entryOfKey (tupleKind (YF P w)))∧(xs.map (·.1)).Nodup
 | .set S n=>h.SetOf (intKind P w) a S n
 | .ins C dx fs=>H dx=some (.own a)∧fs.length≤1000∧dx≠a∧h.get? a=some (PySem.W.instObj C dx) ∧
   ∃ mA,h.Ns1 dx mA∧(∀ f,Jbg (fs.lookup f) (mA f))∧PySem.Within mA (fs.map (·.1))
 | .own _=>∃ o,h.get? a=some o
 | .xd fs=>∃ mA,h.Ns1 a mA∧∀ f,Jbg (fs.lookup f) (mA f)
 | .rng lo hi=>∃ t u v,h.get? a=some { cls:=.type "range",data:=.fields #[.int lo t,.int hi u,.int 1 v] }
 | .frz o u=>h.get? a=some o∧YO H h a u
 | .tbl ps=>h.get? a=some { cls:=.none,data:=.fields ps }
 | .met f x=>h.get? a=some (PySem.W.methodObj (.ref f) (.ref x))
 | .ext φ=>φ h∧(∃ o,h.get? a=some o)∧∀ h1 h2:Heap,φ h1→(∀ o,h1.get? a=some o→h2.get? a=some o)→φ h2
def Z2 (H:Hp) (h:Heap):Prop:=∀ a o,H a=some o→YO P w H h a o
end
section
variable {P:Program} {w:World} {H H':Hp} {h h':Heap} {a:Addr} {o:HO}
theorem YO.lt (x:YO P w H h a o):a < h.objs.size:=by
 cases o with
 | lst xs=>obtain ⟨_,_,_,_,e⟩:=x; exact Heap.lt_size e
 | tup xs=>obtain ⟨_,_,_,p⟩:=x; exact p.lt
 | dK kvs=>obtain ⟨_,_,_,_,o,_,_,e,_⟩:=x; exact Heap.lt_size e
 | dT kvs=>obtain ⟨_,_,_,_,o,_,_,e,_⟩:=x; exact Heap.lt_size e
 | set S n=>obtain ⟨o,_,_,_,e,_⟩:=x; exact Heap.lt_size e
 | ins C dx fs=>obtain ⟨_,_,_,e,_⟩:=x; exact Heap.lt_size e
 | own y=>obtain ⟨_,e⟩:=x; exact Heap.lt_size e
 | xd fs=>obtain ⟨_,⟨_,_,_,e,_⟩,_⟩:=x; exact Heap.lt_size e
 | rng lo hi=>obtain ⟨_,_,_,e⟩:=x; exact Heap.lt_size e
 | frz ob u=>obtain ⟨e,_⟩:=x; exact Heap.lt_size e
 | tbl ps=>exact Heap.lt_size (show h.get? a=some _ from x)
 | met f y=>exact Heap.lt_size (show h.get? a=some _ from x)
 | ext φ=>obtain ⟨_,⟨_,e⟩,_⟩:=x; exact Heap.lt_size e
theorem Paired.mapP {α β:Type} {F G:α→β→Prop}:∀ {l₁:List α} {l₂:List β},Paired F l₁ l₂→(∀ a b,F a b→G a b)→Paired G l₁ l₂
 | _,_,.nil,_=>.nil
 | _,_,.cons r t,f=>.cons (f _ _ r) (Paired.mapP t f)
theorem YO.stay (x:YO P w H h a o) (k:∀ b u,(b=a∨H b=some (.own a))→h.get? b=some u→h'.get? b=some u)
  (ho:∀ b,H b=some (.own a)→H' b=some (.own a)) (ht:∀ b xs,H b=some (.tup xs)→H' b=some (.tup xs)):YO P w H' h' a o:=by
 induction o with
 | lst xs=>obtain ⟨z,its,n,r,e⟩:=x; exact ⟨z,its,n,r,k _ _ (.inl rfl) e⟩
 | tup xs=>obtain ⟨z,its,r,ob,e,c⟩:=x; exact ⟨z,its,r,ob,k _ _ (.inl rfl) e,c⟩
 | dK kvs=>obtain ⟨z,y,vs,r,ob,es,ep,e,c⟩:=x; exact ⟨z,y,vs,r,ob,es,ep,k _ _ (.inl rfl) e,c⟩
 | dT kvs =>
  obtain ⟨z,y,xs,r,ob,es,ep,e,c⟩:=x;exact ⟨z,y,xs,Paired.mapP r fun p q z=>⟨z.1,ht _ _ z.2.1,z.2.2⟩,ob,es,ep,k _ _ (.inl rfl) e,c⟩
 | set S n=>obtain ⟨ob,es,ep,t,e,c⟩:=x; exact ⟨ob,es,ep,t,k _ _ (.inl rfl) e,c⟩
 | ins C dx fs =>
  obtain ⟨d,z,ne,e,mA,⟨od,es,ep,e2,c⟩,r⟩:=x;exact ⟨ho _ d,z,ne,k _ _ (.inl rfl) e,mA,⟨od,es,ep,k _ _ (.inr d) e2,c⟩,r⟩
 | own y=>obtain ⟨ob,e⟩:=x; exact ⟨ob,k _ _ (.inl rfl) e⟩
 | xd fs=>obtain ⟨mA,⟨od,es,ep,e,c⟩,r⟩:=x; exact ⟨mA,⟨od,es,ep,k _ _ (.inl rfl) e,c⟩,r⟩
 | rng lo hi=>obtain ⟨t,u,v,e⟩:=x; exact ⟨t,u,v,k _ _ (.inl rfl) e⟩
 | frz ob u ih=>obtain ⟨e,q⟩:=x; exact ⟨k _ _ (.inl rfl) e,ih q⟩
 | tbl ps =>
  have e:h.get? a=some { cls:=.none,data:=.fields ps }:=x;show h'.get? a=some { cls:=.none,data:=.fields ps };exact k a _ (.inl rfl) e
 | met f y =>
  have e:h.get? a=some (PySem.W.methodObj (.ref f) (.ref y)):=x;show h'.get? a=some (PySem.W.methodObj (.ref f) (.ref y));exact k a _ (.inl rfl) e
 | ext φ=>obtain ⟨p,⟨o,e⟩,st⟩:=x; exact ⟨st _ _ p fun o q=>k _ _ (.inl rfl) q,⟨o,k _ _ (.inl rfl) e⟩,st⟩
theorem Z2.lt (x:Z2 P w H h) (e:H a=some o):a < h.objs.size:=(x a o e).lt
theorem Z2.fresh (x:Z2 P w H h) (e:h.objs.size≤a):H a=none:=by
 cases q:H a with
 | none=>rfl
 | some u=>exact absurd (Nat.lt_of_lt_of_le (x.lt q) e) (Nat.lt_irrefl _)
theorem Z2.kept (x:Z2 P w H h) (k:∀ b u,h.get? b=some u→h'.get? b=some u):Z2 P w H h':=fun a o e =>
 (x a o e).stay (fun b u _ q=>k b u q) (fun _ q=>q) fun _ _ q=>q
theorem Z2.laid (x:Z2 P w H h) (k:∀ b u,h.get? b=some u→h'.get? b=some u) (hp:h.objs.size≤a) (new:YO P w (upd H a o) h' a o):Z2 P w (upd H a o) h':=fun b u e=>by
 have hn:=x.fresh hp;by_cases hb:b=a
 ·subst hb; rw [Jh] at e; cases e; exact new
 ·rw [JD hb] at e;exact (x b u e).stay (fun c v _ q=>k c v q) (fun c q=>by rw [JD (JC q hn)]; exact q) fun c xs q=>by rw [JD (JC q hn)]; exact q
end
def Rd (H:Hp) (a:Addr) (u:HO):Prop:=H a=some u∨∃ o,H a=some (.frz o u)
theorem Rd.of {H:Hp} {a:Addr} {u:HO} (h:H a=some u):Rd H a u:=.inl h
theorem Rd.ok {P:Program} {w:World} {H:Hp} {h:Heap} {a:Addr} {u:HO} (r:Rd H a u) (x:Z2 P w H h):YO P w H h a u:=by
 rcases r with r | ⟨o,r⟩
 ·exact x a u r
 ·obtain ⟨_,q⟩:=x a _ r;exact q
def Mut:Option HO→Prop
 | some (.lst _)=>True
 | some (.dK _)=>True
 | some (.dT _)=>True
 | some (.set _ _)=>True
 | some (.ins _ _ _)=>True
 | some (.ext _)=>True
 | _=>False
section
variable {P:Program} {w:World} {H:Hp} {h h':Heap} {x e:Addr} {o':HO}
theorem Z2.write (ok:Z2 P w H h) (mu:Mut (H x)) (he:e=x∨H e=some (.own x)) (k:∀ b u,b≠e→h.get? b=some u→h'.get? b=some u) (heo:∃ u,h'.get? e=some u)
  (new:YO P w (upd H x o') h' x o'):Z2 P w (upd H x o') h':=fun b u q=>by
 have nown:∀ c y,H c=some (.own y)→c≠x:=fun c y r z=>by subst z; rw [r] at mu; exact mu
 have ntup:∀ c xs,H c=some (.tup xs)→c≠x:=fun c xs r z=>by subst z; rw [r] at mu; exact mu
 by_cases hb:b=x
 ·subst hb; rw [Jh] at q; cases q; exact new
 ·rw [JD hb] at q;by_cases hbe:b=e
  ·have q':H b=some (.own x):=by
    rcases he with z | z
    ·exact absurd (hbe.trans z) hb
    ·rw [hbe]; exact z
   rw [q] at q'; cases q';obtain ⟨v,hv⟩:=heo;exact ⟨v,by rw [hbe]; exact hv⟩
  ·refine (ok b u q).stay (fun c v hc r=>k c v ?_ r) (fun c r=>by rw [JD (nown c b r)]; exact r) fun c xs r=>by rw [JD (ntup c xs r)]; exact r
   rcases hc with rfl | hc
   ·exact hbe
   ·rintro rfl;rcases he with z | z
    ·exact nown c b hc z
    ·rw [hc] at z; cases z; exact hb rfl
end
structure Un (fs ex:List Addr) (H H':Hp) (h h':Heap):Prop where
 keep:∀ b o,h.get? b=some o→H b=none→b∉fs→b∉ex→h'.get? b=some o
 slot:∀ b o,h.get? b=some o→H b=none→b∈fs→b∉ex→∃ sl,h'.get? b=some { o with slots:=sl }
 free:∀ b o,h.get? b=some o→H b=none→b∉ex→H' b=none
 there:∀ b o,h.get? b=some o→b∉ex→∃ o',h'.get? b=some o'
 tups:∀ b xs,H b=some (.tup xs)→H' b=some (.tup xs)
 frzs:∀ b o u,H b=some (.frz o u)→H' b=some (.frz o u)
 tbls:∀ b ps,H b=some (.tbl ps)→∃ more,H' b=some (.tbl (ps ++ more))
section
variable {fs fs' ex ex':List Addr} {H H1 H2:Hp} {h h1 h2 h':Heap} {a x e:Addr} {o:HO}
theorem Un.any (u:Un fs ex H H1 h h1) {b:Addr} {ob:Obj} (q:h.get? b=some ob) (n:H b=none) (hx:b∉ex):∃ sl,h1.get? b=some { ob with slots:=sl }:=by
 by_cases hb:b∈fs
 ·exact u.slot b ob q n hb hx
 ·exact ⟨ob.slots,u.keep b ob q n hb hx⟩
theorem Un.trans (a:Un fs ex H H1 h h1) (b:Un fs ex H1 H2 h1 h2):Un fs ex H H2 h h2 where
 keep:=fun c ob q n hc hx=>b.keep c ob (a.keep c ob q n hc hx) (a.free c ob q n hx) hc hx
 slot:=fun c ob q n hc hx=>by
  obtain ⟨sl,e1⟩:=a.slot c ob q n hc hx;obtain ⟨sl',e2⟩:=b.slot c _ e1 (a.free c ob q n hx) hc hx;exact ⟨sl',e2⟩
 free:=fun c ob q n hx=>by
  obtain ⟨o',e1⟩:=a.there c ob q hx;exact b.free c o' e1 (a.free c ob q n hx) hx
 there:=fun c ob q hx=>by
  obtain ⟨o',e1⟩:=a.there c ob q hx;exact b.there c o' e1 hx
 tups:=fun c xs q=>b.tups c xs (a.tups c xs q)
 frzs:=fun c ob xs q=>b.frzs c ob xs (a.frzs c ob xs q)
 tbls:=fun c ps q=>by
  obtain ⟨m1,e1⟩:=a.tbls c ps q;obtain ⟨m2,e2⟩:=b.tbls c _ e1;exact ⟨m1 ++ m2,by rw [e2,Array.append_assoc]⟩
theorem Un.kept (k:∀ b u,h.get? b=some u→h'.get? b=some u):Un fs ex H H h h' :=
 ⟨fun b ob q _ _ _=>k b ob q,fun b ob q _ _ _=>⟨ob.slots,k b ob q⟩,fun _ _ _ n _=>n,fun b ob q _=>⟨ob,k b ob q⟩,fun _ _ q=>q,fun _ _ _ q=>q,fun _ ps q=>⟨#[],by rw [q]; simp⟩⟩
theorem Un.refl:Un fs ex H H h h:=Un.kept fun _ _ q=>q
theorem Un.laid (k:∀ b u,h.get? b=some u→h'.get? b=some u) (hp:h.objs.size≤a) (hn:H a=none):Un fs ex H (upd H a o) h h' where
 keep:=fun b u q _ _ _=>k b u q
 slot:=fun b u q _ _ _=>⟨u.slots,k b u q⟩
 free:=fun b u q n _=>by rw [JD (Nat.ne_of_lt (Nat.lt_of_lt_of_le (Heap.lt_size q) hp))]; exact n
 there:=fun b u q _=>⟨u,k b u q⟩
 tups:=fun b xs q=>by rw [JD (JC q hn)]; exact q
 frzs:=fun b u xs q=>by rw [JD (JC q hn)]; exact q
 tbls:=fun b ps q=>⟨#[],by rw [JD (JC q hn),q]; simp⟩
theorem Un.write (mu:Mut (H x)) (he:e=x∨H e=some (.own x)) (k:∀ b u,b≠e→h.get? b=some u→h'.get? b=some u) (heo:∃ u,h'.get? e=some u):Un fs ex H (upd H x o) h h':=by
 have hx:∀ b,H b=none→b≠x:=fun b n z=>by subst z; rw [n] at mu; exact mu
 have hb:∀ b,H b=none→b≠e:=fun b n z=>by
  subst z;rcases he with r | r
  ·exact hx b n r
  ·rw [n] at r; cases r
 have hm:∀ b u,H b=some u→¬ Mut (some u)→b≠x:=fun b u q nm z=>by subst z; rw [q] at mu; exact nm mu
 refine ⟨fun b u q n _ _=>k b u (hb b n) q,fun b u q n _ _=>⟨u.slots,k b u (hb b n) q⟩,fun b u q n _=>by rw [JD (hx b n)]; exact n,fun b u q _=>?_,
  fun b xs q=>by rw [JD (hm b _ q fun z=>z)]; exact q,fun b u xs q=>by rw [JD (hm b _ q fun z=>z)]; exact q,fun b ps q=>⟨#[],by rw [JD (hm b _ q fun z=>z),q]; simp⟩⟩
 by_cases hbe:b=e
 ·subst hbe; exact heo
 ·exact ⟨u,k b u hbe q⟩
theorem Un.mono (u:Un fs ex H H1 h h1) (hs:∀ b∈fs,b∈fs') (hx:∀ b∈ex,b∈ex'):Un fs' ex' H H1 h h1 :=
 ⟨fun b ob q n hb he=>u.keep b ob q n (fun z=>hb (hs b z)) fun z=>he (hx b z),fun _ _ q n _ he=>u.any q n fun z=>he (hx _ z),fun b ob q n he=>u.free b ob q n fun z=>he (hx b z),fun b ob q he=>u.there b ob q fun z=>he (hx b z),u.tups,u.frzs,u.tbls⟩
end
def trk (h:Heap) (H:Hp):List Addr:=(List.range h.objs.size).filter fun a=>(H a).isSome
def JgU (h:Heap) (H:Hp):Heap:=PySem.W.hideAll h (trk h H)
theorem JqD (h:Heap) (H:Hp):(JgU h H).objs.size=h.objs.size:=PySem.W.hideAll_size _ _
theorem Jsb {h:Heap} {H:Hp} {b:Addr} {o:Obj} (e:h.get? b=some o) (n:H b=none):(JgU h H).get? b=some o :=
 PySem.W.hideAll_get _ e fun hm=>by
  have q:(H b).isSome=true:=(List.mem_filter.mp hm).2;rw [n] at q; simp at q
theorem JtI {h:Heap} {H:Hp} {b:Addr} {o:Obj} (e:(JgU h H).get? b=some o):h.get? b=some o∧H b=none:=by
 have e':h.get? b=some o:=PySem.W.of_hideAll (trk h H) e;refine ⟨e',?_⟩;cases q:H b with
 | none=>rfl
 | some x =>
  have hm:b∈trk h H:=List.mem_filter.mpr ⟨List.mem_range.mpr (Heap.lt_size e'),by simp [q]⟩;have z:(JgU h H).get? b=none:=PySem.W.hideAll_none (trk h H) hm;rw [z] at e; cases e
def JtZ (g h:Heap) (L:Addr):List (Addr×Obj):=(List.range h.objs.size).filterMap fun a=>if a=L∨(g.get? a).isSome=true then none else (h.get? a).map fun o=>(a,o)
def rest (g h:Heap) (L d:Addr):List (Addr×Obj):=(JtZ g h L).filter fun p=>decide (p.1≠d)
end L2
namespace L2
open PySem PySem.Spec PyProof.Rows
structure Mod (K:PySem.W.Frag) (mg:Str→Option Value) (base:Heap):Prop where
 kin:K.In base
 glob:base.Ns mainGlobals mg
 blt:∃ mb,base.Ns builtinsNs mb∧∀ x:Str,x ≠ "__name__"→mb x=bootBuiltins x
 nolimit:base.NoLimit
structure Cx where
 prog:Program
 w:World
 K:PySem.W.Frag
 mg:Str→Option Value
 base:Heap
 A:Around
 N:List Str
 s₀:Shared
 H₀:Hp
 env:Env
 outer:List Env
 stack:List Env
 ex:List Addr
 fn:Str→Bool
 calm:Bool
 pn:List (Addr×Obj)
 xe:Value→Shared→Prop
def frs (l:List Env):List Addr:=l.filterMap (·.frame)
abbrev Cx.fs (X:Cx):List Addr:=frs X.outer
def Vis (sc:Scope) (x:Str):Prop:=sc.names.lookup x=some .local∨sc.names.lookup x=some .cell∨sc.names.lookup x=some .free
def Loc (sc:Scope) (x:Str):Prop:=sc.names.lookup x=some .local∨sc.names.lookup x=some .cell
def Jwc (env:Env) (h:Heap) (m:Str→Option Value) (x:Str) (u:Value):Prop :=
 (env.kindOf x=some .local∧m x=some u)∨((env.kindOf x=some .cell∨env.kindOf x=some .free)∧∃ c,env.cells.lookup x=some c∧h.IsCell c (some u))
structure Cx.Ok (X:Cx):Prop where
 mod:Mod X.K X.mg X.base
 kind:X.env.scope.kind=.function
 glob:X.env.globals=mainGlobals
 blt:X.env.builtins=builtinsNs
 above:X.s₀.heap.objs.size≤X.env.locals
 inj:∀ x y c,X.env.cells.lookup x=some c→X.env.cells.lookup y=some c→x=y
 has:∀ x,(X.env.kindOf x=some .cell∨X.env.kindOf x=some .free)→∃ c,X.env.cells.lookup x=some c
 cab:∀ x c,X.fn x=true→X.env.cells.lookup x=some c→X.s₀.heap.objs.size≤c
 hd:X.calm=true→X.A.handled=none
 frames:X.A.frames=some X.stack
 stk:X.stack=X.outer∨(X.stack=X.env :: X.outer∧X.env.frame=some X.env.locals)
 exf:∀ b∈X.ex,b≠X.env.locals∧∀ x c,X.env.cells.lookup x=some c→c≠b
 bs:∀ b o,X.base.get? b=some o→X.s₀.heap.get? b=some o∧X.H₀ b=none
 bsz:X.base.objs.size≤X.s₀.heap.objs.size
 noex:∀ b o,X.base.get? b=some o→b∉X.ex
 exfs:∀ b∈X.ex,b∉X.fs
 funs:X.s₀.heap.FunFrames X.base X.outer
 frf:∀ b∈X.fs,X.H₀ b=none
structure Jq (X:Cx) (pins:List (Addr×Obj)) (σ:List (Option V)) (H:Hp) (s:Shared):Prop where
 ok:X.Ok
 os:s.os=X.s₀.os
 bare:AllBare s.gens
 base:Un X.fs X.ex X.H₀ H X.s₀.heap s.heap
 loc:∃ m,s.heap.Ns X.env.locals m∧∀ (i:Nat) (x:Str) (v:V),X.N[i]?=some x→σ[i]?=some (some v)→Vis X.env.scope x→∃ u,JY v u∧Jwc X.env s.heap m x u
 cell:∀ x c,X.env.cells.lookup x=some c→∃ v,s.heap.IsCell c v
 free:H X.env.locals=none
 freeC:∀ x c,X.env.cells.lookup x=some c→H c=none
 pin:∀ p∈X.pn ++ pins,s.heap.get? p.1=some p.2∧H p.1=none∧p.1≠X.env.locals∧p.1∉X.fs∧∀ v,p.2.data≠.cell v
 hok:Z2 X.prog X.w H s.heap
 len:σ.length=X.N.length
section
variable {X:Cx} {pins:List (Addr×Obj)} {σ:List (Option V)} {H H':Hp} {s:Shared} {h':Heap}
theorem Cx.Ok.nofr (ok:X.Ok) {b:Addr} {o:Obj} (e:X.base.get? b=some o):b∉X.fs:=fun hb=>by
 have:=(ok.funs.mem hb).1;rw [e] at this; cases this
theorem Jq.bs (I:Jq X pins σ H s):∀ b o,X.base.get? b=some o→s.heap.get? b=some o∧H b=none:=fun b o e =>
 ⟨I.base.keep b o (I.ok.bs b o e).1 (I.ok.bs b o e).2 (I.ok.nofr e) (I.ok.noex b o e),I.base.free b o (I.ok.bs b o e).1 (I.ok.bs b o e).2 (I.ok.noex b o e)⟩
theorem Jq.bk (I:Jq X pins σ H s):∀ b o,X.base.get? b=some o→s.heap.get? b=some o:=fun b o e=>(I.bs b o e).1
theorem Jq.mod (I:Jq X pins σ H s):Mod X.K X.mg X.base:=I.ok.mod
theorem Jq.kIn (I:Jq X pins σ H s):X.K.In s.heap:=I.ok.mod.kin.keeps I.bk
theorem Jq.nolimit (I:Jq X pins σ H s):s.heap.NoLimit:=I.ok.mod.nolimit.keeps I.bk
theorem Jq.fr (I:Jq X pins σ H s):∃ m,Fr X.base X.env.locals s.heap m :=
 let ⟨m,hn,_⟩:=I.loc
 ⟨m,hn,I.bk,Nat.le_trans I.ok.bsz I.ok.above⟩
theorem Jq.lt (I:Jq X pins σ H s):X.env.locals < s.heap.objs.size:=let ⟨_,hn,_⟩:=I.loc; hn.lt
theorem Jq.sz (I:Jq X pins σ H s):X.s₀.heap.objs.size≤s.heap.objs.size:=Nat.le_trans I.ok.above (Nat.le_of_lt I.lt)
theorem Jq.nofs (I:Jq X pins σ H s) {a:Addr} (h:s.heap.objs.size≤a):a∉X.fs:=fun hb=>by
 obtain ⟨_,o,ho,_⟩:=I.ok.funs.mem hb;exact absurd (Nat.lt_of_lt_of_le (Heap.lt_size ho) (Nat.le_trans I.sz h)) (Nat.lt_irrefl _)
theorem Jq.cne (I:Jq X pins σ H s):∀ x c,X.env.cells.lookup x=some c→c≠X.env.locals:=fun x c e z=>by
 obtain ⟨v,o,ho,hd⟩:=I.cell x c e;obtain ⟨m,⟨o',es,ep,ho',hd',_⟩,_⟩:=I.loc;rw [z,ho'] at ho; cases ho; rw [hd'] at hd; cases hd
theorem Jq.funs (I:Jq X pins σ H s):s.heap.FunFrames X.base X.outer:=by
 have all:∀ (l:List Env),(∀ b∈frs l,b∈X.fs)→X.s₀.heap.FunFrames X.base l→s.heap.FunFrames X.base l:=by
  intro l
  induction l with
  | nil=>intro _ _; trivial
  | cons env r ih =>
   intro hs hl;obtain ⟨hk,⟨L,o,hf,hn,ho,hd⟩,hr⟩:=hl;have hL:L∈X.fs:=hs L (by unfold frs; rw [List.filterMap_cons,hf]; exact List.mem_cons_self);obtain ⟨sl,e⟩:=I.base.slot L o ho (I.ok.frf L hL) hL fun z=>I.ok.exfs L z hL
   exact ⟨hk,⟨L,_,hf,hn,e,hd⟩,ih (fun b hb=>hs b (by unfold frs; rw [List.filterMap_cons,hf]; exact List.mem_cons_of_mem _ hb)) hr⟩
 exact all X.outer (fun _ hb=>hb) I.ok.funs
theorem Jq.stack (I:Jq X pins σ H s):s.heap.FunFrames X.base X.stack:=by
 rcases I.ok.stk with e | ⟨e,hf⟩
 ·rw [e]; exact I.funs
 ·rw [e];obtain ⟨m,hn,_⟩:=I.loc;refine .cons (by rw [I.ok.kind]; decide) hf hn ?_ I.funs;exact Heap.get?_none_of_le (Nat.le_trans I.ok.bsz I.ok.above)
theorem Jq.stkSub (I:Jq X pins σ H s):∀ b∈frs X.stack,b∈X.env.locals :: X.fs:=fun b hb=>by
 rcases I.ok.stk with e | ⟨e,hf⟩
 ·rw [e] at hb; exact List.mem_cons_of_mem _ hb
 ·rw [e] at hb;unfold frs at hb;rw [List.filterMap_cons,hf] at hb;exact hb
theorem Jq.stkFree (I:Jq X pins σ H s):∀ b∈frs X.stack,H b=none:=fun b hb=>by
 rcases List.mem_cons.mp (I.stkSub b hb) with e | hb
 ·rw [e]; exact I.free
 ·obtain ⟨_,o,ho,_⟩:=I.ok.funs.mem hb;exact I.base.free b o ho (I.ok.frf b hb) fun z=>I.ok.exfs b z hb
theorem Jq.step {g':Array GenState} {t':Nat} {d':Drawn} {ch:List Addr} (I:Jq X pins σ H s)
  (hch:∀ b∈ch,(b∈X.ex∨X.s₀.heap.objs.size≤b)∧b≠X.env.locals∧(∀ x c,X.env.cells.lookup x=some c→c≠b)∧∀ p∈X.pn ++ pins,p.1≠b)
  (keep:∀ b o,b≠X.env.locals→b∉X.fs→b∉ch→s.heap.get? b=some o→H b=none→h'.get? b=some o)
  (slot:∀ b o,b≠X.env.locals→b∈X.fs→b∉ch→s.heap.get? b=some o→H b=none→∃ sl,h'.get? b=some { o with slots:=sl }) (free:∀ b o,b∉ch→s.heap.get? b=some o→H b=none→H' b=none)
  (there:∀ b o,b∉ch→s.heap.get? b=some o→∃ o',h'.get? b=some o')
  (tups:∀ b xs,H b=some (.tup xs)→H' b=some (.tup xs)) (frzs:∀ b o u,H b=some (.frz o u)→H' b=some (.frz o u)) (tbls:∀ b ps,H b=some (.tbl ps)→∃ more,H' b=some (.tbl (ps ++ more)))
  (ns:∀ m,s.heap.Ns X.env.locals m→h'.Ns X.env.locals m) (hok:Z2 X.prog X.w H' h') (hg:AllBare g') :
  Jq X pins σ H' { s with heap:=h',gens:=g',drawn:=d',toks:=t' }:=by
 have neL:∀ b o,X.s₀.heap.get? b=some o→b≠X.env.locals:=fun b o e=>Nat.ne_of_lt (Nat.lt_of_lt_of_le (Heap.lt_size e) I.ok.above)
 have neC:∀ b o,X.s₀.heap.get? b=some o→b∉X.ex→b∉ch:=fun b o e hx hb=>by
  rcases (hch b hb).1 with z | z
  ·exact hx z
  ·exact absurd (Nat.lt_of_lt_of_le (Heap.lt_size e) z) (Nat.lt_irrefl _)
 have cellK:∀ x c,X.env.cells.lookup x=some c→∀ v,s.heap.IsCell c v→h'.IsCell c v:=fun x c e v ⟨o,ho,hd⟩=>by
  have nch:c∉ch:=fun z=>(hch c z).2.2.1 x c e rfl
  by_cases hc:c∈X.fs
  ·obtain ⟨sl,q⟩:=slot c o (I.cne x c e) hc nch ho (I.freeC x c e);exact ⟨_,q,hd⟩
  ·exact ⟨o,keep c o (I.cne x c e) hc nch ho (I.freeC x c e),hd⟩
 refine ⟨I.ok,I.os,hg,⟨fun b o e n hb hx=>?_,fun b o e n hb hx=>?_,fun b o e n hx=>?_,fun b o e hx=>?_,fun b xs e=>tups b xs (I.base.tups b xs e),fun b o xs e=>frzs b o xs (I.base.frzs b o xs e),fun b ps e=>?_⟩,?_,fun x c e=>?_,?_,fun x c e=>?_,fun p hp=>?_,hok,I.len⟩
 ·exact keep b o (neL b o e) hb (neC b o e hx) (I.base.keep b o e n hb hx) (I.base.free b o e n hx)
 ·obtain ⟨sl,e1⟩:=I.base.slot b o e n hb hx;obtain ⟨sl',e2⟩:=slot b _ (neL b o e) hb (neC b o e hx) e1 (I.base.free b o e n hx);exact ⟨sl',e2⟩
 ·obtain ⟨o',e1⟩:=I.base.there b o e hx;exact free b o' (neC b o e hx) e1 (I.base.free b o e n hx)
 ·obtain ⟨o',e1⟩:=I.base.there b o e hx;exact there b o' (neC b o e hx) e1
 ·obtain ⟨m1,e1⟩:=I.base.tbls b ps e;obtain ⟨m2,e2⟩:=tbls b _ e1;exact ⟨m1 ++ m2,by rw [e2,Array.append_assoc]⟩
 ·obtain ⟨m,hn,hl⟩:=I.loc;refine ⟨m,ns m hn,fun i x v e1 e2 e3=>?_⟩;obtain ⟨u,r,l⟩:=hl i x v e1 e2 e3;refine ⟨u,r,?_⟩;rcases l with l | ⟨k,c,e,z⟩
  ·exact .inl l
  ·exact .inr ⟨k,c,e,cellK x c e _ z⟩
 ·obtain ⟨v,z⟩:=I.cell x c e;exact ⟨v,cellK x c e v z⟩
 ·obtain ⟨m,⟨o,_,_,ho,_⟩,_⟩:=I.loc;exact free _ o (fun z=>(hch _ z).2.1 rfl) ho I.free
 ·obtain ⟨v,o,ho,hd⟩:=I.cell x c e;exact free c o (fun z=>(hch c z).2.2.1 x c e rfl) ho (I.freeC x c e)
 ·obtain ⟨e,n,ne,nf,d⟩:=I.pin p hp;have nch:p.1∉ch:=fun z=>(hch p.1 z).2.2.2 p hp rfl
  exact ⟨keep p.1 p.2 ne nf nch e n,free p.1 p.2 nch e n,ne,nf,d⟩
theorem Jq.un {t':Nat} (I:Jq X pins σ H s) (u:Un X.fs [] H H' s.heap h') (hok:Z2 X.prog X.w H' h'):Jq X pins σ H' { s with heap:=h',toks:=t' }:=by
 obtain ⟨m,⟨o,es,ep,ho,r⟩,_⟩:=id I.loc;obtain ⟨sl,hL⟩:=u.any ho I.free (by simp);exact I.step (g':=s.gens) (d':=s.drawn) (ch:=[]) (fun _ z=>nomatch z) (fun b o _ hb _ e n=>u.keep b o e n hb (by simp)) (fun b o _ hb _ e n=>u.slot b o e n hb (by simp)) (fun b o _ e n=>u.free b o e n (by simp)) (fun b o _ e=>u.there b o e (by simp)) u.tups u.frzs u.tbls (fun m' hm=>by
  obtain ⟨o',es',ep',ho',r'⟩:=hm;rw [ho] at ho'; cases ho';exact ⟨_,es',ep',hL,r'⟩) hok I.bare
theorem Jq.call {g':Array GenState} {t':Nat} {d':Drawn} {ch:List Addr} (I:Jq X pins σ H s) (u:Un (frs X.stack) ch H H' s.heap h') (hok:Z2 X.prog X.w H' h') (hg:AllBare g')
  (hch:∀ b∈ch,(b∈X.ex∨X.s₀.heap.objs.size≤b)∧b≠X.env.locals∧(∀ x c,X.env.cells.lookup x=some c→c≠b)∧∀ p∈X.pn ++ pins,p.1≠b) :
  Jq X pins σ H' { s with heap:=h',gens:=g',drawn:=d',toks:=t' }:=by
 obtain ⟨m,⟨o,es,ep,ho,r⟩,_⟩:=id I.loc;obtain ⟨sl,hL⟩:=u.any ho I.free fun z=>(hch _ z).2.1 rfl
 exact I.step (ch:=ch) hch (fun b o hL hb hc e n=>u.keep b o e n (fun z=>(List.mem_cons.mp (I.stkSub b z)).elim hL hb) hc) (fun b o _ _ hc e n=>u.any e n hc) (fun b o hc e n=>u.free b o e n hc) (fun b o hc e=>u.there b o e hc) u.tups u.frzs u.tbls (fun m' hm=>by
  obtain ⟨o',es',ep',ho',r'⟩:=hm;rw [ho] at ho'; cases ho';exact ⟨_,es',ep',hL,r'⟩) hok hg
theorem Jq.turned {t':Nat} {it:Addr} (I:Jq X pins σ H s) (k:∀ b o,b≠it→s.heap.get? b=some o→h'.get? b=some o) (hn:H it=none) (hL:it≠X.env.locals)
  (h1:it∈X.ex∨X.s₀.heap.objs.size≤it) (h2:∀ x c,X.env.cells.lookup x=some c→c≠it) (h3:∀ p∈X.pn ++ pins,p.1≠it):Jq X pins σ H { s with heap:=h',toks:=t' }:=by
 have nit:∀ b u,H b=some u→b≠it:=fun b u e z=>by rw [z,hn] at e; cases e
 refine I.step (g':=s.gens) (d':=s.drawn) (ch:=[it]) (fun b hb=>?_) (fun b o _ _ hc e _=>k b o (fun z=>hc (by simp [z])) e) (fun b o _ _ hc e _=>⟨o.slots,k b o (fun z=>hc (by simp [z])) e⟩) (fun _ _ _ _ n=>n)
  (fun b o hc e=>⟨o,k b o (fun z=>hc (by simp [z])) e⟩) (fun _ _ e=>e) (fun _ _ _ e=>e) (fun b ps e=>⟨#[],by rw [e]; simp⟩) (fun m hm=>?_) (fun b u e=>?_) I.bare
 ·have e:b=it:=by simpa using hb
  subst e;exact ⟨h1,hL,h2,h3⟩
 ·obtain ⟨o,es,ep,ho,r⟩:=hm;exact ⟨o,es,ep,k _ o (Ne.symm hL) ho,r⟩
 ·refine (I.hok b u e).stay (fun c v hc q=>k c v ?_ q) (fun _ q=>q) fun _ _ q=>q
  rcases hc with z | z
  ·rw [z]; exact nit b u e
  ·exact nit c _ z
theorem Jq.tok (I:Jq X pins σ H s) (t:Nat):Jq X pins σ H { s with toks:=t }:=I.un (h':=s.heap) (t':=t) Un.refl I.hok
theorem Jq.kept {t':Nat} (I:Jq X pins σ H s) (k:∀ b u,s.heap.get? b=some u→h'.get? b=some u):Jq X pins σ H { s with heap:=h',toks:=t' }:=I.un (Un.kept k) (I.hok.kept k)
theorem Jq.laid {a:Addr} {o:HO} {t':Nat} (I:Jq X pins σ H s) (k:∀ b u,s.heap.get? b=some u→h'.get? b=some u) (hp:s.heap.objs.size≤a) (new:YO X.prog X.w (upd H a o) h' a o) :
  Jq X pins σ (upd H a o) { s with heap:=h',toks:=t' }:=I.un (Un.laid k hp (I.hok.fresh hp)) (I.hok.laid k hp new)
theorem Jq.write {x e:Addr} {o:HO} {t':Nat} (I:Jq X pins σ H s) (mu:Mut (H x)) (he:e=x∨H e=some (.own x)) (k:∀ b u,b≠e→s.heap.get? b=some u→h'.get? b=some u) (heo:∃ u,h'.get? e=some u)
  (new:YO X.prog X.w (upd H x o) h' x o):Jq X pins σ (upd H x o) { s with heap:=h',toks:=t' }:=I.un (Un.write mu he k heo) (I.hok.write mu he k heo new)
theorem Jq.weak {σ':List (Option V)} (I:Jq X pins σ H s) (hl:σ'.length=σ.length) (w:∀ (i:Nat) v,σ'[i]?=some (some v)→σ[i]?=some (some v)):Jq X pins σ' H s :=
 ⟨I.ok,I.os,I.bare,I.base,let ⟨m,hn,hl'⟩:=I.loc; ⟨m,hn,fun i x v e1 e2 e3=>hl' i x v e1 (w i v e2) e3⟩,I.cell,I.free,I.freeC,I.pin,I.hok,hl.trans I.len⟩
theorem Jq.pins_of {pins':List (Addr×Obj)} (I:Jq X pins σ H s) (h:∀ p∈pins',s.heap.get? p.1=some p.2∧H p.1=none∧p.1≠X.env.locals∧p.1∉X.fs∧∀ v,p.2.data≠.cell v):Jq X pins' σ H s :=
 ⟨I.ok,I.os,I.bare,I.base,I.loc,I.cell,I.free,I.freeC,fun p hp=>(List.mem_append.mp hp).elim (fun z=>I.pin p (List.mem_append_left _ z)) (h p),I.hok,I.len⟩
theorem JiZ {N:List Str} (hN:N.Nodup) {i j:Nat} {x:Str} (a:N[i]?=some x) (b:N[j]?=some x):i=j:=by
 obtain ⟨h1,e1⟩:=List.getElem?_eq_some_iff.mp a;obtain ⟨h2,e2⟩:=List.getElem?_eq_some_iff.mp b;exact (List.getElem_inj hN).mp (e1.trans e2.symm)
theorem Jlq {M:Model} {A:Around} {E:Value→Shared→Prop} {i:Nat} {x:Str} {v:V} {u:Value} {Q:Unit→Shared→Prop} (I:Jq X pins σ H s) (hN:X.N.Nodup) (hi:X.N[i]?=some x) (hx:Loc X.env.scope x) (r:JY v u)
  (h:∀ s',Jq X pins (σ.set i (some v)) H s'→(∃ a,Heap.SameBut a s.heap s'.heap∧(a=X.env.locals∨X.env.cells.lookup x=some a))→Q () s') (hf:X.fn x=true∨X.env.scope.names.lookup x=some .local:=by first | exact .inl rfl | exact .inr rfl | assumption):wpAny M A (storeName X.env x u) Q E s:=by
 obtain ⟨m,hn,hl⟩:=id I.loc;have hcls:(X.env.scope.kind == .class || (X.env.scope.kind == .module && X.env.locals != X.env.globals))=false:=by rw [I.ok.kind]; rfl
 have hiσ:i < σ.length:=by rw [I.len]; exact (List.getElem?_eq_some_iff.mp hi).1
 have cne:=I.cne;have tracked:∀ {a:Addr} {h':Heap},(∃ o,s.heap.get? a=some o∧H a=none)→Heap.SameBut a s.heap h'→Z2 X.prog X.w H h':=fun {a h'} ha hs b ob e=>by
  obtain ⟨_,_,hfree⟩:=ha;refine (I.hok b ob e).stay (fun c w' hc q=>(hs.2 c ?_).trans q) (fun _ q=>q) fun _ _ q=>q
  rintro rfl;rcases hc with rfl | hc
  ·rw [hfree] at e; cases e
  ·rw [hfree] at hc; cases hc
 rcases hx with hk | hk
 ·refine wpAny_storeName_local hk hn (fun h' hn' hs=>?_) hcls;obtain ⟨oL,_,_,hoL,_⟩:=id hn;refine h _ ⟨I.ok,I.os,I.bare,⟨fun b o e n hb hx=>?_,fun b o e n hb hx=>?_,I.base.free,fun b o e hx=>?_,I.base.tups,I.base.frzs,I.base.tbls⟩,⟨_,hn',fun j y v' e1 e2 e3=>?_⟩,fun y c e=>?_,I.free,I.freeC,fun p hp=>?_,tracked ⟨oL,hoL,I.free⟩ hs,by simpa using I.len⟩ ⟨_,hs,.inl rfl⟩
  ·exact (hs.2 b (Nat.ne_of_lt (Nat.lt_of_lt_of_le (Heap.lt_size e) I.ok.above))).trans (I.base.keep b o e n hb hx)
  ·obtain ⟨sl,e1⟩:=I.base.slot b o e n hb hx;exact ⟨sl,(hs.2 b (Nat.ne_of_lt (Nat.lt_of_lt_of_le (Heap.lt_size e) I.ok.above))).trans e1⟩
  ·obtain ⟨o',e1⟩:=I.base.there b o e hx;exact ⟨o',(hs.2 b (Nat.ne_of_lt (Nat.lt_of_lt_of_le (Heap.lt_size e) I.ok.above))).trans e1⟩
  ·by_cases hj:j=i
   ·subst hj;rw [hi] at e1; cases e1;rw [List.getElem?_set_self hiσ] at e2;cases e2;exact ⟨u,r,.inl ⟨hk,by simp⟩⟩
   ·rw [List.getElem?_set_ne (Ne.symm hj)] at e2;obtain ⟨u',r',q⟩:=hl j y v' e1 e2 e3;refine ⟨u',r',?_⟩;rcases q with ⟨k,e⟩ | ⟨k,c,e,z⟩
    ·refine .inl ⟨k,?_⟩;have:y≠x:=fun e=>hj (JiZ hN e1 (e ▸ hi))
     simp [this,e]
    ·exact .inr ⟨k,c,e,z.sameBut hs (cne y c e)⟩
  ·obtain ⟨w',z⟩:=I.cell y c e;exact ⟨w',z.sameBut hs (cne y c e)⟩
  ·obtain ⟨e,n,ne,nf,d⟩:=I.pin p hp;exact ⟨(hs.2 p.1 ne).trans e,n,ne,nf,d⟩
 ·have hfn:X.fn x=true:=by
   rcases hf with z | z
   ·exact z
   ·rw [z] at hk; cases hk
  obtain ⟨c,hc⟩:=I.ok.has x (.inl hk);obtain ⟨w',z⟩:=I.cell x c hc;refine wpAny_storeName_cell I.ok.kind hk hc z (fun h' hc' hs=>?_);obtain ⟨oc,hoc,hocd⟩:=id z;refine h { s with heap:=h' } ⟨I.ok,I.os,I.bare,⟨fun b o e n hb hx=>?_,fun b o e n hb hx=>?_,I.base.free,fun b o e hx=>?_,I.base.tups,I.base.frzs,I.base.tbls⟩,⟨m,hn.sameBut hs (Ne.symm (cne x c hc)),fun j y v' e1 e2 e3=>?_⟩,fun y c' e=>?_,I.free,I.freeC,fun p hp=>?_,tracked ⟨oc,hoc,I.freeC x c hc⟩ hs,by simpa using I.len⟩ ⟨c,hs,.inr hc⟩
  ·exact (hs.2 b (Nat.ne_of_lt (Nat.lt_of_lt_of_le (Heap.lt_size e) (I.ok.cab x c hfn hc)))).trans (I.base.keep b o e n hb hx)
  ·obtain ⟨sl,e1⟩:=I.base.slot b o e n hb hx;exact ⟨sl,(hs.2 b (Nat.ne_of_lt (Nat.lt_of_lt_of_le (Heap.lt_size e) (I.ok.cab x c hfn hc)))).trans e1⟩
  ·obtain ⟨o',e1⟩:=I.base.there b o e hx;exact ⟨o',(hs.2 b (Nat.ne_of_lt (Nat.lt_of_lt_of_le (Heap.lt_size e) (I.ok.cab x c hfn hc)))).trans e1⟩
  ·by_cases hj:j=i
   ·subst hj;rw [hi] at e1; cases e1;rw [List.getElem?_set_self hiσ] at e2;cases e2;exact ⟨u,r,.inr ⟨.inl hk,c,hc,hc'⟩⟩
   ·rw [List.getElem?_set_ne (Ne.symm hj)] at e2;obtain ⟨u',r',q⟩:=hl j y v' e1 e2 e3;refine ⟨u',r',?_⟩;rcases q with q | ⟨k,c',e,z'⟩
    ·exact .inl q
    ·refine .inr ⟨k,c',e,z'.sameBut hs ?_⟩;rintro rfl;exact hj (JiZ hN e1 (I.ok.inj _ _ _ e hc ▸ hi))
  ·by_cases hcc:c'=c
   ·subst hcc; exact ⟨_,hc'⟩
   ·obtain ⟨w2,z2⟩:=I.cell y c' e;exact ⟨w2,z2.sameBut hs hcc⟩
  ·obtain ⟨e,n,ne,nf,d⟩:=I.pin p hp;refine ⟨(hs.2 p.1 ?_).trans e,n,ne,nf,d⟩;intro q;rw [q,hoc] at e;have q':oc=p.2:=Option.some.inj e;exact d w' (by rw [← q']; exact hocd)
theorem JiM {M:Model} {A:Around} {E:Value→Shared→Prop} {i:Nat} {x:Str} {v:V} {u:Value} {Q:Unit→Shared→Prop} (I:Jq X pins σ H s) (hN:X.N.Nodup) (hi:X.N[i]?=some x) (hx:Loc X.env.scope x) (r:JY v u)
  (h:∀ s',Jq X pins (σ.set i (some v)) H s'→Q () s') (hf:X.fn x=true∨X.env.scope.names.lookup x=some .local:=by first | exact .inl rfl | exact .inr rfl | assumption):wpAny M A (storeName X.env x u) Q E s :=
 Jlq I hN hi hx r (fun s' I' _=>h s' I') hf
theorem Jq.call' {s':Shared} {ch:List Addr} (I:Jq X pins σ H s) (ho:s'.os=s.os) (u:Un (frs X.stack) ch H H' s.heap s'.heap) (hok:Z2 X.prog X.w H' s'.heap) (hg:AllBare s'.gens)
  (hch:∀ b∈ch,(b∈X.ex∨X.s₀.heap.objs.size≤b)∧b≠X.env.locals∧(∀ x c,X.env.cells.lookup x=some c→c≠b)∧∀ p∈X.pn ++ pins,p.1≠b):Jq X pins σ H' s':=by
 obtain ⟨h',g',d',t',o'⟩:=s';have e:o'=s.os:=ho;subst e;exact I.call (g':=g') (t':=t') (d':=d') u hok hg hch
end
abbrev XK:=Value→Option Addr→Hp→Prop
abbrev St:=List (Option V)
abbrev VK:=V→Hp→Prop
abbrev TE:=St→Hp→VK→Prop
abbrev TT:=St→Hp→(Bool→Hp→Prop)→Prop
abbrev TA:=St→Hp→(List V→Hp→Prop)→Prop
structure Jh7 where
 nx:St→Hp→Prop
 rt:VK
 bk:St→Hp→Prop:=fun _ _=>False
 ct:St→Hp→Prop:=fun _ _=>False
abbrev TS:=Jh7→St→Hp→Prop
def EP (X:Cx) (pins:List (Addr×Obj)) (σ:St) (Q:VK) (u:Value) (s':Shared):Prop:=∃ v H',Jq X pins σ H' s'∧JY v u∧Q v H'
def TP (X:Cx) (pins:List (Addr×Obj)) (σ:St) (Q:Bool→Hp→Prop) (b:Bool) (s':Shared):Prop:=∃ H',Jq X pins σ H' s'∧Q b H'
def AP (X:Cx) (pins:List (Addr×Obj)) (σ:St) (Q:List V→Hp→Prop) (us:List Value) (s':Shared):Prop:=∃ vs H',Jq X pins σ H' s'∧JL vs us∧Q vs H'
def SP (X:Cx) (pins:List (Addr×Obj)) (D:Jh7) (f:Flow) (s':Shared):Prop :=
 match f with
 | .next=>∃ σ' H',Jq X pins σ' H' s'∧D.nx σ' H'
 | .brk=>∃ σ' H',Jq X pins σ' H' s'∧D.bk σ' H'
 | .cont=>∃ σ' H',Jq X pins σ' H' s'∧D.ct σ' H'
 | .ret u=>∃ v σ' H',Jq X pins σ' H' s'∧JY v u∧D.rt v H'
def PE (X:Cx) (e:Expr) (t:TE):Prop :=
 ∀ (pins:List (Addr×Obj)) (s:Shared) (σ:St) (H:Hp) (Q:VK),Jq X pins σ H s→t σ H Q→wpAny (model X.prog X.w) X.A (eval e X.env) (EP X pins σ Q) X.xe s
def PT (X:Cx) (e:Expr) (t:TT):Prop :=
 ∀ (pins:List (Addr×Obj)) (s:Shared) (σ:St) (H:Hp) (Q:Bool→Hp→Prop),Jq X pins σ H s→t σ H Q→wpAny (model X.prog X.w) X.A (isTrue e X.env (eval e X.env)) (TP X pins σ Q) X.xe s
def PW (X:Cx) (e:Expr) (t:TT):Prop :=
 ∀ (whole:Sem Value) (pins:List (Addr×Obj)) (s:Shared) (σ:St) (H:Hp) (Q:Bool→Hp→Prop),Jq X pins σ H s→t σ H Q→wpAny (model X.prog X.w) X.A (isTrue e X.env whole) (TP X pins σ Q) X.xe s
theorem PW.pt {X:Cx} {e:Expr} {t:TT} (h:PW X e t):PT X e t:=h _
def PA (X:Cx) (es:List Expr) (t:TA):Prop :=
 ∀ (pos:Pos) (pins:List (Addr×Obj)) (s:Shared) (σ:St) (H:Hp) (Q:List V→Hp→Prop),Jq X pins σ H s→t σ H Q→wpAny (model X.prog X.w) X.A (spliced (backTo pos (starEach es X.env))) (AP X pins σ Q) X.xe s
def PS (X:Cx) (st:Stmt) (t:TS):Prop :=
 ∀ (pins:List (Addr×Obj)) (s:Shared) (σ:St) (H:Hp) (D:Jh7),Jq X pins σ H s→t D σ H→wpAny (model X.prog X.w) X.A (exec st X.env) (SP X pins D) X.xe s
def PSs (X:Cx) (st:List Stmt) (t:TS):Prop :=
 ∀ (pins:List (Addr×Obj)) (s:Shared) (σ:St) (H:Hp) (D:Jh7),Jq X pins σ H s→t D σ H→wpAny (model X.prog X.w) X.A (execs st X.env) (SP X pins D) X.xe s
theorem J2 {α:Type} {t:Sem α} {Q Q':α→Shared→Prop} {M:Model} {A:Around} {E:Value→Shared→Prop} {s:Shared} (h:wpAny M A t Q E s) (hQ:∀ a s,Q a s→Q' a s):wpAny M A t Q' E s:=wpAny_mono h hQ fun _ _ x=>x
end L2
namespace L2
open PySem PySem.Spec PyProof.Rows
section
variable {X:Cx}
def JoJ (i:Nat):TE:=fun σ H Q=>∃ v,σ[i]?=some (some v)∧Q v H
def tC (v:V):TE:=fun _ H Q=>Q v H
theorem JmT {i:Nat} {x:Str} {pos:Pos} (hN:X.N[i]?=some x) (hv:Vis X.env.scope x) (hd:(x == ("__debug__" : Str))=false:=by decide) (hcd:(x == ("__classdict__" : Str))=false:=by decide):PE X (.Name x pos) (JoJ i):=by
 intro pins s σ H Q I h;obtain ⟨v,e,h⟩:=h;obtain ⟨m,hn,hl⟩:=I.loc;obtain ⟨u,r,l⟩:=hl i x v hN e hv;have fin:EP X pins σ Q u s:=⟨v,H,I,r,h⟩
 rcases l with ⟨hk,hm⟩ | ⟨hk,c,hc,hcell⟩
 ·exact wpAny_Name (wpAny_loadName_local I.ok.kind hk hn hm fin) hd
 ·rcases hk with hk | hk
  ·exact wpAny_Name (wpAny_loadName_cell I.ok.kind hk hc hcell fin) hd
  ·exact wpAny_Name (wpAny_loadName_free I.ok.kind hk hc hcell fin hcd) hd
theorem Je {i j pos}:PE X (.Constant (.int i) j pos) (tC (.int i)):=fun _ _ _ H _ I h=>wpAny_Constant_int ⟨.int i,H,I.tok _,⟨_,rfl⟩,h⟩
theorem ZN {b j pos}:PE X (.Constant (.bool b) j pos) (tC (.bl b)):=fun _ _ _ H _ I h=>Constant_bool ⟨.bl b,H,I,rfl,h⟩
theorem Zq {j pos}:PE X (.Constant .none j pos) (tC .non):=fun _ _ _ H _ I h=>Constant_none ⟨.non,H,I,rfl,h⟩
theorem JG {x j pos}:PE X (.Constant (.str x) j pos) (tC (.str x)):=fun _ _ _ H _ I h=>Calls.Constant_str ⟨.str x,H,I.tok _,⟨_,rfl⟩,h⟩
def Gl (X:Cx) (x:Str):Prop:=X.env.kindOf x=some .globalImplicit
theorem Jgz {E:Value→Shared→Prop} {pins:List (Addr×Obj)} {s:Shared} {σ:St} {H:Hp} {x:Str} {u:Value} {pos:Pos} {Q:Value→Shared→Prop} (I:Jq X pins σ H s) (hg:Gl X x) (hm:X.mg x=some u) (h:Q u s)
  (hd:(x == ("__debug__" : Str))=false:=by decide):wpAny (model X.prog X.w) X.A (eval (.Name x pos) X.env) Q E s :=
 Calls.Name_function_global I.ok.kind hg (Calls.loadGlobal_global (by rw [I.ok.glob]; exact I.mod.glob.keeps I.bk) hm h) hd
theorem JhK {E:Value→Shared→Prop} {pins:List (Addr×Obj)} {s:Shared} {σ:St} {H:Hp} {x:Str} {u:Value} {pos:Pos} {Q:Value→Shared→Prop} (I:Jq X pins σ H s) (hg:Gl X x) (hm:X.mg x=none) (hv:bootBuiltins x=some u) (h:Q u s)
  (hn:x ≠ "__name__":=by decide) (hd:(x == ("__debug__" : Str))=false:=by decide):wpAny (model X.prog X.w) X.A (eval (.Name x pos) X.env) Q E s:=by
 obtain ⟨mb,h1,h2⟩:=I.mod.blt;exact Calls.Name_function_global I.ok.kind hg (Calls.loadGlobal_builtin (by rw [I.ok.glob]; exact I.mod.glob.keeps I.bk) hm (by rw [I.ok.blt]; exact h1.keeps I.bk) ((h2 x hn).trans hv) h) hd
theorem Ja6 {x:Str} {v:V} {u:Value} {pos:Pos} (hg:Gl X x) (hm:X.mg x=some u) (r:JY v u) (hd:(x == ("__debug__" : Str))=false:=by decide):PE X (.Name x pos) (tC v) :=
 fun _ _ _ H _ I h=>Jgz I hg hm ⟨v,H,I,r,h⟩ hd
theorem Jtz {x:Str} {v:V} {u:Value} {pos:Pos} (hg:Gl X x) (hm:X.mg x=none) (hv:bootBuiltins x=some u) (r:JY v u) (hn:x ≠ "__name__":=by decide) (hd:(x == ("__debug__" : Str))=false:=by decide):PE X (.Name x pos) (tC v) :=
 fun _ _ _ H _ I h=>JhK I hg hm hv ⟨v,H,I,r,h⟩ hn hd
variable {a b:Expr} {ta tb:TE} {pos:Pos}
def PC (X:Cx) (op:CmpOp) (a b:Expr) (t:TE):Prop :=
 ∀ (pins:List (Addr×Obj)) (s:Shared) (σ:St) (H:Hp) (Q:VK),Jq X pins σ H s→t σ H Q →
  wpAny (model X.prog X.w) X.A (eval a X.env) (fun v s₁=>wpAny (model X.prog X.w) X.A (eval b X.env) (fun u s₂=>wpAny (model X.prog X.w) X.A (compareOp op v u) (EP X pins σ Q) X.xe s₂) X.xe s₁) X.xe s
theorem YA (b:Expr) {op:CmpOp} (h:op≠.In) (h2:op≠.NotIn):behindInMarks op b=false:=by
 have e1:(op == CmpOp.In)=false:=by cases op <;> first | rfl | exact absurd rfl h
 have e2:(op == CmpOp.NotIn)=false:=by cases op <;> first | rfl | exact absurd rfl h2
 cases b <;> simp [behindInMarks,e1,e2]
def JvV (ta:TE):TE:=fun σ H Q=>ta σ H fun x H1=>Q (.bl (decide (x=.non))) H1
def Ju7 (ta:TE):TE:=fun σ H Q=>ta σ H fun x H1=>Q (.bl (!decide (x=.non))) H1
theorem JY.none_iff {x:V} {v:Value} (r:JY x v):(v == Value.none)=decide (x=.non):=by
 cases x with
 | non=>cases r; rfl
 | bl _=>cases r; rfl
 | int _=>obtain ⟨t,rfl⟩:=r; rfl
 | str _=>obtain ⟨t,rfl⟩:=r; rfl
 | byt _=>obtain ⟨t,rfl⟩:=r; rfl
 | flt _=>obtain ⟨t,rfl⟩:=r; rfl
 | ref _=>cases r; rfl
 | ty _=>cases r; rfl
theorem JaY {j pos'} (ha:PE X a ta):PC X .Is a (.Constant .none j pos') (JvV ta):=by
 intro pins s σ H Q I h;refine J2 (ha pins s σ H _ I h) fun v s1 ⟨x,H1,I1,r1,q1⟩=>?_
 exact Constant_none (is_none_gen ⟨.bl _,H1,I1,by rw [r1.none_iff]; rfl,q1⟩)
theorem Jcw {j pos'} (ha:PE X a ta):PC X .IsNot a (.Constant .none j pos') (Ju7 ta):=by
 intro pins s σ H Q I h;refine J2 (ha pins s σ H _ I h) fun v s1 ⟨x,H1,I1,r1,q1⟩=>?_
 exact Constant_none (isnot_none_gen ⟨.bl _,H1,I1,by rw [r1.none_iff]; rfl,q1⟩)
def tB (t:TE):TT:=fun σ H Q=>t σ H fun x H1=>∃ c,x=.bl c∧Q c H1
theorem JjH {op:CmpOp} {t:TE} (h:PC X op a b t) (h1:behindInMarks op b=false:=by first | exact YA _ (by decide) (by decide) | rfl):PE X (.Compare a [op] [b] pos) t:=fun pins s σ H Q I hw=>wpAny_Compare1 (h pins s σ H Q I hw) h1
theorem ZW {op:CmpOp} {t:TE} (h:PC X op a b t) (h1:behindInMarks op b=false:=by first | exact YA _ (by decide) (by decide) | rfl):PT X (.Compare a [op] [b] pos) (tB t):=by
 intro pins s σ H Q I hw;refine wpAny_isTrue_Compare1 (J2 (h pins s σ H _ I hw) fun v s1 h1=>J2 h1 fun u s2 h2=>J2 h2 fun c s3 ⟨x,H1,I1,r1,q1⟩=>?_) h1;obtain ⟨d,rfl,q⟩:=q1;cases r1;exact wpAny_truthy_bool ⟨H1,I1,q⟩
theorem YC {e:Expr} {t:TE} (h:PE X e t) (he:∀ whole,isTrue e X.env whole=(do let v ← whole; standAt e.pos; holding [v] (truthy v)):=by intro _; rfl):PT X e (tB t):=by
 intro pins s σ H Q I hw;refine isTrue_plain (J2 (h pins s σ H _ I hw) fun v s1 ⟨x,H1,I1,r1,q1⟩=>?_) (he _);obtain ⟨d,rfl,q⟩:=q1;cases r1;exact wpAny_truthy_bool ⟨H1,I1,q⟩
variable {tA tB':TT} {rest:List Expr}
def JvY (t u:TT):TT:=fun σ H Q=>t σ H fun c H1=>if c=true then u σ H1 Q else Q false H1
def tOr (t u:TT):TT:=fun σ H Q=>t σ H fun c H1=>if c=true then Q true H1 else u σ H1 Q
def JvT (t:TT):TT:=fun σ H Q=>t σ H fun c H1=>Q (!c) H1
theorem JkF (ha:PT X a tA):PW X (.BoolOp .And [a] pos) tA:=by
 intro wh pins s σ H Q I h;refine isTrue_and (J2 (ha pins s σ H Q I h) fun c s1 e=>?_);cases c with
 | true=>exact isTrue_and_nil e
 | false=>exact e
theorem ZP (ha:PT X a tA):PW X (.BoolOp .Or [a] pos) tA:=by
 intro wh pins s σ H Q I h;refine isTrue_or (J2 (ha pins s σ H Q I h) fun c s1 e=>?_);cases c with
 | false=>exact isTrue_or_nil e
 | true=>exact e
theorem JmQ (ha:PT X a tA) (hb:PW X (.BoolOp .And (b :: rest) pos) tB'):PW X (.BoolOp .And (a :: b :: rest) pos) (JvY tA tB'):=by
 intro wh pins s σ H Q I h;refine isTrue_and (J2 (ha pins s σ H _ I h) fun c s1 ⟨H1,I1,q1⟩=>?_);cases c with
 | true=>exact hb wh pins s1 σ H1 Q I1 q1
 | false=>exact ⟨H1,I1,q1⟩
theorem Jad (ha:PT X a tA) (hb:PW X (.BoolOp .Or (b :: rest) pos) tB'):PW X (.BoolOp .Or (a :: b :: rest) pos) (tOr tA tB'):=by
 intro wh pins s σ H Q I h;refine isTrue_or (J2 (ha pins s σ H _ I h) fun c s1 ⟨H1,I1,q1⟩=>?_);cases c with
 | true=>exact ⟨H1,I1,q1⟩
 | false=>exact hb wh pins s1 σ H1 Q I1 q1
theorem Y0 (ha:PT X a tA):PT X (.UnaryOp .Not a pos) (JvT tA):=by
 intro pins s σ H Q I h;exact isTrue_not (ha pins s σ H (fun c H1=>Q (!c) H1) I h)
def Jvf (ta tb:TE):TE:=fun σ H Q=>ta σ H fun x H1=>∃ c,x=.bl c∧if c=true then tb σ H1 Q else Q (.bl false) H1
def Ju6 (ta:TE):TE:=fun σ H Q=>ta σ H fun x H1=>∃ c,x=.bl c∧Q (.bl (!c)) H1
theorem JjG {op} {t:TE} (h:PE X a t):PE X (.BoolOp op [a] pos) t:=fun pins s σ H Q I hw=>BoolOp_one (h pins s σ H Q I hw)
theorem JjI (ha:PE X a ta) (hb:PE X (.BoolOp .And (b :: rest) pos) tb):PE X (.BoolOp .And (a :: b :: rest) pos) (Jvf ta tb):=by
 intro pins s σ H Q I h;refine BoolOp_and (J2 (ha pins s σ H _ I h) fun v s1 ⟨x,H1,I1,r1,q1⟩=>?_);obtain ⟨c,rfl,q1⟩:=q1;cases r1;refine wpAny_truthy_bool ?_;cases c with
 | true=>exact hb pins s1 σ H1 Q I1 q1
 | false=>exact ⟨.bl false,H1,I1,rfl,q1⟩
theorem Juy (ha:PE X a ta):PE X (.UnaryOp .Not a pos) (Ju6 ta):=by
 intro pins s σ H Q I h;refine UnaryOp_ (J2 (ha pins s σ H _ I h) fun v s1 ⟨x,H1,I1,r1,q1⟩=>?_);obtain ⟨c,rfl,q1⟩:=q1;cases r1;exact not_of (wpAny_truthy_bool ⟨.bl (!c),H1,I1,rfl,q1⟩)
def tIf (t:TT) (ta tb:TE):TE:=fun σ H Q=>t σ H fun c H1=>if c=true then ta σ H1 Q else tb σ H1 Q
theorem Jck {c:Expr} (hc:PT X c tA) (ha:PE X a ta) (hb:PE X b tb):PE X (.IfExp c a b pos) (tIf tA ta tb):=by
 intro pins s σ H Q I h;refine wpAny_IfExp (J2 (hc pins s σ H _ I h) fun d s1 ⟨H1,I1,q1⟩=>?_);cases d with
 | true=>exact ha pins s1 σ H1 Q I1 q1
 | false=>exact hb pins s1 σ H1 Q I1 q1
end
end L2
namespace L2
open PySem PySem.Spec PyProof.Rows
def JA (K:PySem.W.Frag) (H:Hp) (a:Addr) (xs:List V):Prop :=
 Rd H a (.lst xs) ∨
  ∃ (o:Obj) (its:Array Value) (n:Nat),K.lookup a=some o∧o.cls=.type "list"∧o.dict=none∧o.data=.seq its n∧its.size≤sizeLine∧JL xs its.toList
def JH (K:PySem.W.Frag) (H:Hp) (a:Addr) (xs:List V):Prop :=
 Rd H a (.tup xs) ∨
  ∃ (o:Obj) (its:Array Value) (n:Nat),K.lookup a=some o∧o.cls=.type "tuple"∧o.data=.seq its n∧its.size≤sizeLine∧JL xs its.toList
def Jwb:Value→Option V
 | .none=>some .non
 | .bool b=>some (.bl b)
 | .int i _=>some (.int i)
 | .str x _=>some (.str x)
 | .bytes b _=>some (.byt b)
 | .float b _=>some (.flt b)
 | .ref a=>some (.ref a)
 | .type n=>some (.ty n)
 | _=>none
theorem JY.abs {x:V} {u:Value} (r:JY x u):Jwb u=some x:=by
 cases x with
 | non=>cases r; rfl
 | bl _=>cases r; rfl
 | int _=>obtain ⟨t,rfl⟩:=r; rfl
 | str _=>obtain ⟨t,rfl⟩:=r; rfl
 | byt _=>obtain ⟨t,rfl⟩:=r; rfl
 | flt _=>obtain ⟨t,rfl⟩:=r; rfl
 | ref _=>cases r; rfl
 | ty _=>cases r; rfl
theorem JY.inj {x y:V} {u:Value} (r:JY x u) (q:JY y u):x=y:=Option.some.inj (r.abs.symm.trans q.abs)
theorem JL.inj:∀ {xs ys:List V} {us:List Value},JL xs us→JL ys us→xs=ys
 | _,_,_,.nil,.nil=>rfl
 | _,_,_,.cons r t,.cons r' t'=>by rw [r.inj r',JL.inj t t']
section
variable {X:Cx} {pins:List (Addr×Obj)} {σ:St} {H:Hp} {s:Shared} {a:Addr} {xs ys:List V}
theorem JA.of {K:PySem.W.Frag} (h:H a=some (.lst xs)):JA K H a xs:=.inl (.inl h)
theorem JH.of {K:PySem.W.Frag} (h:H a=some (.tup xs)):JH K H a xs:=.inl (.inl h)
theorem Jq.list (I:Jq X pins σ H s) (h:JA X.K H a xs):∃ its:List Value,JL xs its∧PlainL s.heap a its.toArray∧xs.length≤sizeLine:=by
 rcases h with h | ⟨o,its,n,hk,hc,hd,hs,hz,r⟩
 ·obtain ⟨z,its,n,r,e⟩:=h.ok I.hok;exact ⟨its,r,⟨_,n,e,rfl,rfl,rfl⟩,z⟩
 ·refine ⟨its.toList,r,⟨o,n,I.kIn a o hk,hc,hd,by simpa using hs⟩,?_⟩;have e:=r.length;simp only [Array.length_toList] at e;omega
theorem Jq.tuple (I:Jq X pins σ H s) (h:JH X.K H a xs):∃ its:List Value,JL xs its∧IsTup s.heap a its.toArray∧xs.length≤sizeLine:=by
 rcases h with h | ⟨o,its,n,hk,hc,hs,hz,r⟩
 ·obtain ⟨z,its,r,p⟩:=h.ok I.hok;exact ⟨its,r,p,z⟩
 ·refine ⟨its.toList,r,⟨o,I.kIn a o hk,hc,n,by simpa using hs⟩,?_⟩;have e:=r.length;simp only [Array.length_toList] at e;omega
theorem Jq.list_inj (I:Jq X pins σ H s) (h:JA X.K H a xs) (h':JA X.K H a ys):xs=ys:=by
 obtain ⟨its,r,⟨o,n,e,_,_,d⟩,_⟩:=I.list h;obtain ⟨its',r',⟨o',n',e',_,_,d'⟩,_⟩:=I.list h';rw [e] at e'; cases e';rw [d] at d';injection d' with d1 _;have:its=its':=by simpa using congrArg Array.toList d1
 subst this;exact r.inj r'
theorem Jq.tuple_inj (I:Jq X pins σ H s) (h:JH X.K H a xs) (h':JH X.K H a ys):xs=ys:=by
 obtain ⟨its,r,⟨o,e,_,n,d⟩,_⟩:=I.tuple h;obtain ⟨its',r',⟨o',e',_,n',d'⟩,_⟩:=I.tuple h';rw [e] at e'; cases e';rw [d] at d';injection d' with d1 _;have:its=its':=by simpa using congrArg Array.toList d1
 subst this;exact r.inj r'
end
abbrev Cx.wish (X:Cx) (E:Value→Shared→Prop):Cx:={ X with xe:=E }
abbrev Cx.nox (X:Cx):Cx:=X.wish fun _ _=>False
theorem Cx.Ok.wish {X:Cx} (ok:X.Ok) (E:Value→Shared→Prop):(X.wish E).Ok :=
 ⟨ok.mod,ok.kind,ok.glob,ok.blt,ok.above,ok.inj,ok.has,ok.cab,ok.hd,ok.frames,ok.stk,ok.exf,ok.bs,ok.bsz,ok.noex,ok.exfs,ok.funs,ok.frf⟩
theorem Cx.Ok.unwish {X:Cx} {E:Value→Shared→Prop} (ok:(X.wish E).Ok):X.Ok :=
 ⟨ok.mod,ok.kind,ok.glob,ok.blt,ok.above,ok.inj,ok.has,ok.cab,ok.hd,ok.frames,ok.stk,ok.exf,ok.bs,ok.bsz,ok.noex,ok.exfs,ok.funs,ok.frf⟩
section
variable {X:Cx} {pins:List (Addr×Obj)} {σ:St} {H:Hp} {s:Shared} {E:Value→Shared→Prop}
theorem Jq.wish (I:Jq X pins σ H s) (E:Value→Shared→Prop):Jq (X.wish E) pins σ H s:=⟨I.ok.wish E,I.os,I.bare,I.base,I.loc,I.cell,I.free,I.freeC,I.pin,I.hok,I.len⟩
theorem Jq.unwish (I:Jq (X.wish E) pins σ H s):Jq X pins σ H s:=⟨I.ok.unwish,I.os,I.bare,I.base,I.loc,I.cell,I.free,I.freeC,I.pin,I.hok,I.len⟩
theorem SP.unwish {D:Jh7} {f:Flow} {s':Shared} (h:SP (X.wish E) pins D f s'):SP X pins D f s':=by
 cases f with
 | next=>obtain ⟨σ',H',I,q⟩:=h; exact ⟨σ',H',I.unwish,q⟩
 | brk=>obtain ⟨σ',H',I,q⟩:=h; exact ⟨σ',H',I.unwish,q⟩
 | cont=>obtain ⟨σ',H',I,q⟩:=h; exact ⟨σ',H',I.unwish,q⟩
 | ret u=>obtain ⟨v,σ',H',I,r,q⟩:=h; exact ⟨v,σ',H',I.unwish,r,q⟩
theorem PE.nox {e:Expr} {t:TE} (h:PE X.nox e t):PE X e t:=fun pins s σ H Q I hw =>
 wpAny_mono (h pins s σ H Q (I.wish _) hw) (fun _ _ ⟨v,H',I',r,q⟩=>⟨v,H',I'.unwish,r,q⟩) fun _ _ z=>False.elim z
theorem PT.nox {e:Expr} {t:TT} (h:PT X.nox e t):PT X e t:=fun pins s σ H Q I hw =>
 wpAny_mono (h pins s σ H Q (I.wish _) hw) (fun _ _ ⟨H',I',q⟩=>⟨H',I'.unwish,q⟩) fun _ _ z=>False.elim z
theorem PSs.nox {st:List Stmt} {t:TS} (h:PSs X.nox st t):PSs X st t:=fun pins s σ H D I hw =>
 wpAny_mono (h pins s σ H D (I.wish _) hw) (fun _ _ q=>q.unwish) fun _ _ z=>False.elim z
end
section
variable {X:Cx} {st:Stmt} {rest:List Stmt} {t u:TS} {e:Expr} {te:TE} {pos:Pos}
def Ju8:TS:=fun D σ H=>D.nx σ H
def Jl (t u:TS):TS:=fun D σ H=>@Jh7.rec (fun _=>Prop) (fun nx rt bk ct=>t ⟨u ⟨nx,rt,bk,ct⟩,rt,bk,ct⟩ σ H) D
theorem Jr:PSs X [] Ju8:=fun _ _ σ H _ I h=>wpAny_execs_nil ⟨σ,H,I,h⟩
theorem Jd (h1:PS X st t) (h2:PSs X rest u):PSs X (st :: rest) (Jl t u):=by
 intro pins s σ H D I h;refine wpAny_execs_cons (J2 (h1 pins s σ H { D with nx:=u D } I h) fun f s1 q=>?_);cases f with
 | next =>
  obtain ⟨σ',H',I',q⟩:=q;exact h2 pins s1 σ' H' D I' q
 | ret v=>exact q
 | brk=>exact q
 | cont=>exact q
theorem Jg (h1:PS X st t):PSs X [st] t:=by
 intro pins s σ H D I h;refine wpAny_execs_cons (J2 (h1 pins s σ H D I h) fun f s1 q=>?_);cases f with
 | next=>exact wpAny_execs_nil q
 | ret v=>exact q
 | brk=>exact q
 | cont=>exact q
def Jt9:TS:=fun D σ H=>D.bk σ H
theorem JrR:PS X (.Break pos) Jt9:=fun _ _ σ H _ I h=>wpAny_Break ⟨σ,H,I,h⟩
theorem Jq.quiet {pins:List (Addr×Obj)} {σ:St} {H:Hp} {s:Shared} (I:Jq X pins σ H s):interactive X.env=false:=by simp [interactive,I.ok.kind]
def Jvb (te:TE):TS:=fun D σ H=>te σ H fun _ H1=>D.nx σ H1
theorem JK (he:PE X e te) (hs:swapsWith e none pos.line X.env=pure false:=by rfl):PS X (.Expr e pos) (Jvb te):=by
 intro pins s σ H D I h;exact wpAny_Expr_any (J2 (he pins s σ H _ I h) fun v s1 ⟨x,H1,I1,r1,q1⟩=>⟨σ,H1,I1,q1⟩) I.quiet hs
def JvS (te:TE):TS:=fun D σ H=>te σ H D.rt
theorem Jo (he:PE X e te):PS X (.Return (some e) pos) (JvS te):=by
 intro pins s σ H D I h;exact wpAny_Return_some (J2 (he pins s σ H _ I h) fun v s1 ⟨x,H1,I1,r1,q1⟩=>⟨x,σ,H1,I1,r1,q1⟩)
def JeN (c:TT) (t u:TS):TS:=fun D σ H=>c σ H fun b H1=>if b=true then t D σ H1 else u D σ H1
theorem JI {c:Expr} {a b:List Stmt} {tc:TT} (hc:PT X c tc) (ha:PSs X a t) (hb:PSs X b u):PS X (.If c a b pos) (JeN tc t u):=by
 intro pins s σ H D I h;refine wpAny_If (J2 (hc pins s σ H _ I h) fun d s1 ⟨H1,I1,q1⟩=>?_);cases d with
 | true=>exact ha pins s1 σ H1 D I1 q1
 | false=>exact hb pins s1 σ H1 D I1 q1
def Jt6:TS:=fun _ _ _=>False
theorem JgP:PS X st Jt6:=fun _ _ _ _ _ _ h=>h.elim
end
abbrev TG:=V→St→Hp→(St→Hp→Prop)→Prop
abbrev TGs:=List V→St→Hp→(St→Hp→Prop)→Prop
def PG (X:Cx) (target:Expr) (t:TG):Prop :=
 ∀ (pins:List (Addr×Obj)) (s:Shared) (σ:St) (H:Hp) (v:V) (u:Value) (Q:St→Hp→Prop),Jq X pins σ H s→JY v u→t v σ H Q →
  wpAny (model X.prog X.w) X.A (assign target X.env u) (fun _ s'=>∃ σ' H',Jq X pins σ' H' s'∧Q σ' H') X.xe s
def PGs (X:Cx) (ts:List Expr) (t:TGs):Prop :=
 ∀ (pins:List (Addr×Obj)) (s:Shared) (σ:St) (H:Hp) (vs:List V) (us:List Value) (Q:St→Hp→Prop),Jq X pins σ H s→JL vs us→t vs σ H Q →
  wpAny (model X.prog X.w) X.A (assignInOrder ((assignEach ts X.env).map (·.2)) us) (fun _ s'=>∃ σ' H',Jq X pins σ' H' s'∧Q σ' H') X.xe s
abbrev Jsy:=V→V→V→Hp→(Hp→Prop)→Prop
def JuZ (X:Cx) (t:Jsy):Prop :=
 ∀ (pins:List (Addr×Obj)) (s:Shared) (σ:St) (H:Hp) (o i v:V) (ov iv u:Value) (Q:Hp→Prop),Jq X pins σ H s→JY o ov→JY i iv→JY v u→t o i v H Q →
  wpAny (model X.prog X.w) X.A (setItem ov iv u) (fun _ s'=>∃ H',Jq X pins σ H' s'∧Q H') X.xe s
section
variable {X:Cx} {pos:Pos}
def JbK (i:Nat):TG:=fun v σ H Q=>Q (σ.set i (some v)) H
theorem JT {i:Nat} {x:Str} (hN:X.N.Nodup) (hi:X.N[i]?=some x) (hx:Loc X.env.scope x) (hf:X.fn x=true∨X.env.scope.names.lookup x=some .local:=by first | exact .inl rfl | exact .inr rfl | assumption):PG X (.Name x pos) (JbK i):=by
 intro pins s σ H v u Q I r h;exact wpAny_assign_Name (JiM I hN hi hx r (fun s' I'=>⟨_,H,I',h⟩) hf)
def JuQ:TGs:=fun vs σ H Q=>vs=[]∧Q σ H
def Jpk (t:TG) (u:TGs):TGs:=fun vs σ H Q=>∃ v r,vs=v :: r∧t v σ H fun σ' H'=>u r σ' H' Q
theorem JeA:PGs X [] JuQ:=by
 intro pins s σ H vs us Q I r h;obtain ⟨e,h⟩:=h;subst e;cases r;exact assignInOrder_nil ⟨σ,H,I,h⟩
theorem Yh {e:Expr} {es:List Expr} {t:TG} {u:TGs} (h1:PG X e t) (h2:PGs X es u)
  (hs:(assignEach (e :: es) X.env).map (·.2)=assign e X.env :: (assignEach es X.env).map (·.2):=by rfl):PGs X (e :: es) (Jpk t u):=by
 intro pins s σ H vs us Q I r h;obtain ⟨v,vr,e1,h⟩:=h;subst e1;cases r with
 | cons r rr =>
  rw [hs];refine assignInOrder_cons (J2 (h1 pins s σ H _ _ _ I r h) fun _ s1 ⟨σ1,H1,I1,q1⟩=>?_);exact h2 pins s1 σ1 H1 _ _ Q I1 rr q1
def Jpj (K:PySem.W.Frag) (n:Nat) (t:TGs):TG:=fun v σ H Q=>∃ a xs,v=.ref a∧JH K H a xs∧xs.length=n∧t xs σ H Q
theorem Jgr {es:List Expr} {k:Nat} {t:TGs} {n:Nat} (hc:X.calm=true) (h:PGs X es t)
  (hn:(assignEach es X.env).length=n:=by rfl) (hst:(assignEach es X.env).findIdx? (·.1)=none:=by rfl):PG X (.Tuple es k pos) (Jpj X.K n t):=by
 intro pins s σ H v u Q I r hw;obtain ⟨a,xs,e1,hq,hl,hw⟩:=hw;subst e1;cases r;obtain ⟨its,rv,ht,hz⟩:=I.tuple hq;refine assign_Tuple_tuple (I.ok.hd hc) ht (by simp [hn,← hl,rv.length]) hst fun h' hx=>?_
 have I1:Jq X pins σ H { s with heap:=h' }:=I.kept (t':=s.toks) fun b o e=>hx b o (Nat.ne_of_lt (Heap.lt_size e)) e
 exact h pins _ σ H xs _ Q I1 (by simpa using rv) hw
def Jwa (to ti:TE) (t:Jsy):TG:=fun v σ H Q=>to σ H fun o H1=>ti σ H1 fun i H2=>t o i v H2 fun H3=>Q σ H3
theorem Jux {o i:Expr} {to ti:TE} {t:Jsy} (ho:PE X o to) (hi:PE X i ti) (hs:JuZ X t)
  (ha:∀ v,assign (.Subscript o i pos) X.env v=(do
   let ov ← holding [v] (eval o X.env);let iv ← holding [v,ov] (eval i X.env)
   standAt pos
   holding [v,ov,iv] (setItem ov iv v)
   release [v,ov,iv] []):=by intro _; rfl):PG X (.Subscript o i pos) (Jwa to ti t):=by
 intro pins s σ H v u Q I r h;rw [ha];refine wpAny_bind (wpAny_holding (J2 (ho pins s σ H _ I h) fun ov s1 ⟨x,H1,I1,r1,q1⟩=>?_));refine wpAny_bind (wpAny_holding (J2 (hi pins s1 σ H1 _ I1 q1) fun iv s2 ⟨y,H2,I2,r2,q2⟩=>?_));refine wpAny_bind (wpAny_standAt (wpAny_bind (wpAny_holding (J2 (hs pins s2 σ H2 x y v ov iv u _ I2 r1 r2 r q2) fun _ s3 ⟨H3,I3,q3⟩=>?_))));exact wpAny_release ⟨σ,H3,I3,q3⟩
def Jrb (te:TE) (g:TG):TS:=fun D σ H=>te σ H fun x H1=>g x σ H1 D.nx
theorem Jhr {tg e:Expr} {te:TE} {g:TG} (he:PE X e te) (hg:PG X tg g) (hs:swapsWithSole [tg] e pos.line X.env=pure false:=by rfl) (hw:swappedStores [tg] e X.env=pure none:=by rfl)
  (h1:(assignEach [tg] X.env).map (·.2)=[assign tg X.env]:=by rfl):PS X (.Assign [tg] e pos) (Jrb te g):=by
 intro pins s σ H D I h;refine wpAny_Assign_stores (J2 (he pins s σ H _ I h) fun v s1 ⟨x,H1,I1,r1,q1⟩=>?_) hs hw;rw [h1];exact J2 (hg pins s1 σ H1 x v _ I1 r1 q1) fun _ s2 q=>q
theorem Js {i:Nat} {x:Str} {e:Expr} {te:TE} {pos':Pos} (hN:X.N.Nodup) (hi:X.N[i]?=some x) (hx:Loc X.env.scope x) (he:PE X e te) (hs:swapsWith e (some (.Name x pos')) pos.line X.env=pure false:=by rfl) (hf:X.fn x=true∨X.env.scope.names.lookup x=some .local:=by first | exact .inl rfl | exact .inr rfl | assumption) :
  PS X (.Assign [.Name x pos'] e pos) (Jrb te (JbK i)):=by
 intro pins s σ H D I h;refine wpAny_Assign_Name (J2 (he pins s σ H _ I h) fun v s1 ⟨y,H1,I1,r1,q1⟩=>?_) hs;exact JiM I1 hN hi hx r1 (fun s2 I2=>⟨_,H1,I2,q1⟩) hf
end
structure It where
 go:Nat→Hp→Prop
 yld:Nat→Hp→V→Hp→Prop
 stop:Nat→Hp→Prop
def JfD (X:Cx) (pins:List (Addr×Obj)) (H:Hp) (b:Addr):Prop :=
 H b=none∧b≠X.env.locals∧b∉X.fs∧(b∈X.ex∨X.s₀.heap.objs.size≤b)∧(∀ x c,X.env.cells.lookup x=some c→c≠b)∧∀ p∈X.pn ++ pins,p.1≠b
theorem Jq.fpOk {X:Cx} {pins:List (Addr×Obj)} {σ:St} {H H':Hp} {s:Shared} {b:Addr} (I:Jq X pins σ H s) (hb:s.heap.objs.size≤b) (hn:H' b=none):JfD X pins H' b:=by
 refine ⟨hn,Nat.ne_of_gt (Nat.lt_of_lt_of_le I.lt hb),I.nofs hb,.inr (Nat.le_trans I.sz hb),fun x c e z=>?_,fun p hp z=>?_⟩
 ·obtain ⟨v,q⟩:=I.cell x c e;exact absurd (Nat.lt_of_lt_of_le q.lt (by rw [z]; exact hb)) (Nat.lt_irrefl _)
 ·exact absurd (Nat.lt_of_lt_of_le (Heap.lt_size (I.pin p hp).1) (by rw [z]; exact hb)) (Nat.lt_irrefl _)
structure Jlg (P:Program) (w:World) (K:PySem.W.Frag) (tg:Expr) (J:It) (fp:List Addr) (it:Addr) (tn:Nat→Heap→Prop):Prop where
 mem:it∈fp
 obj:∀ i h,tn i h→∀ b∈fp,∃ o,h.get? b=some o∧∀ v,o.data≠.cell v
 keep:∀ i h h',tn i h→(∀ b∈fp,∀ o,h.get? b=some o→h'.get? b=some o)→tn i h'
 item:∀ (X:Cx),X.prog=P→X.w=w→X.K=K→X.calm=true→∀ (i:Nat) (pins:List (Addr×Obj)) (s:Shared) (σ:St) (H:Hp) (E:Value→Shared→Prop),Jq X pins σ H s→(∀ b∈fp,JfD X pins H b)→tn i s.heap→J.go i H →
  wpAny (model P w) X.A (pyNext (.ref it)) (fun r s1=>∃ u,r=some u ∧
   wpAny (model P w) X.A (letOwnedTupleGo tg (.ref it) u) (fun _ s2=>∃ x H',Jq X pins σ H' s2∧JY x u∧J.yld i H x H'∧tn (i + 1) s2.heap∧∀ b∈fp,H' b=none) E s1) E s
 done:∀ (X:Cx),X.prog=P→X.w=w→X.K=K→X.calm=true→∀ (i:Nat) (pins:List (Addr×Obj)) (s:Shared) (σ:St) (H:Hp) (E:Value→Shared→Prop),Jq X pins σ H s→(∀ b∈fp,JfD X pins H b)→tn i s.heap→J.stop i H →
  wpAny (model P w) X.A (pyNext (.ref it)) (fun r s1=>r=none∧Jq X pins σ H s1) E s
 self:∀ (A:Around) (i:Nat) (s:Shared) (Q:Value→Shared→Prop) (E:Value→Shared→Prop),tn i s.heap→Q (.ref it) s→wpAny (model P w) A (pyIter (.ref it)) Q E s
abbrev TI:=St→Hp→(It→Hp→Prop)→Prop
def PIE (X:Cx) (pins:List (Addr×Obj)) (σ:St) (tg:Expr) (R:It→Hp→Prop) (itv:Value) (s2:Shared):Prop :=
 ∃ (it:Addr) (fp:List Addr) (tn:Nat→Heap→Prop) (J:It) (H':Hp),itv=.ref it∧Jq X pins σ H' s2∧Jlg X.prog X.w X.K tg J fp it tn∧tn 0 s2.heap∧(∀ b∈fp,JfD X pins H' b)∧R J H'
def PI (X:Cx) (tg iter:Expr) (wi:TI):Prop :=
 ∀ (pins:List (Addr×Obj)) (s:Shared) (σ:St) (H:Hp) (R:It→Hp→Prop),Jq X pins σ H s→wi σ H R →
  wpAny (model X.prog X.w) X.A (eval iter X.env) (fun v s1=>wpAny (model X.prog X.w) X.A (pyIter v) (PIE X pins σ tg R) X.xe s1) X.xe s
theorem Jme {M:Model} {A:Around} {E:Value→Shared→Prop} {s:Shared} {tg:Expr} {it:Addr} {u:Value} {o:Obj} {n:String} {vs:Array Value} {Q:Unit→Shared→Prop} (ho:s.heap.get? it=some o) (hc:o.cls=.type n) (hd:o.data=.fields vs)
    (hn:["enumerate", "zip", "dict_itemiterator", "dict_reverseitemiterator", "odict_iterator", "itertools.zip_longest", "itertools.pairwise"].contains n=false) (hQ:Q () s):wpAny M A (letOwnedTupleGo tg (.ref it) u) Q E s:=by
  unfold letOwnedTupleGo;cases tg <;> first
    | exact wpAny_pure hQ
    | (cases u <;> first
        | exact wpAny_pure hQ
        | (refine wpAny_bind (wpAny_load ho ?_)
           rw [hc,hd];show wpAny M A (if (["enumerate", "zip", "dict_itemiterator", "dict_reverseitemiterator", "odict_iterator", "itertools.zip_longest", "itertools.pairwise"].contains n && vs[0]? == some (rawInt _))=true then _ else _) Q E s;rw [if_neg (by intro h; rw [hn,Bool.false_and] at h; cases h)];exact wpAny_pure hQ))
def Itl (K:PySem.W.Frag) (a:Addr):It :=
 ⟨fun i H=>∃ xs x,JA K H a xs∧xs[i]?=some x,fun i H x H'=>H'=H∧∀ xs,JA K H a xs→xs[i]?=some x,fun i H=>∃ xs,JA K H a xs∧xs.length≤i⟩
def Itt (K:PySem.W.Frag) (a:Addr):It :=
 ⟨fun i H=>∃ xs x,JH K H a xs∧xs[i]?=some x,fun i H x H'=>H'=H∧∀ xs,JH K H a xs→xs[i]?=some x,fun i H=>∃ xs,JH K H a xs∧xs.length≤i⟩
def Itr (lo:Int) (n:Nat):It:=⟨fun i _=>i < n,fun i H x H'=>H'=H∧x=.int (lo + i),fun i _=>n≤i⟩
theorem JpM {P:Program} {w:World} {K:PySem.W.Frag} {tg:Expr} (a it:Addr):Jlg P w K tg (Itl K a) [it] it (fun i h=>h.IsListIter it a i) where
 mem:=by simp
 obj:=fun i h st b hb=>by
  have e:b=it:=by simpa using hb
  subst e;obtain ⟨o,e,c,d⟩:=st;exact ⟨o,e,fun v z=>by rw [d] at z; cases z⟩
 keep:=fun i h h' st k=>st.at fun o e=>k it (by simp) o e
 item:=by
  intro X hP hw hK hc i pins s σ H E I hf st hg;subst hP hw hK;obtain ⟨xs,x,hq,hx⟩:=hg;obtain ⟨its,rv,p,hz⟩:=I.list hq;obtain ⟨u,hu,ru⟩:=rv.get hx;obtain ⟨f0,f1,f2,f3,f4,f5⟩:=hf it (by simp);refine wpAny_pyNext_list_item st p.isList (x:=u) (by simpa using hu) fun h' st' sb=>?_
  have I1:Jq X pins σ H { s with heap:=h' }:=I.turned (t':=s.toks) (fun b o hb e=>(sb.2 b hb).trans e) f0 f1 f3 f4 f5;obtain ⟨o,e,c,d⟩:=id st';exact ⟨u,rfl,Jme (s:={ s with heap:=h' }) e c d (by decide) ⟨x,H,I1,ru,⟨rfl,fun ys hy=>by rw [I.list_inj hy hq]; exact hx⟩,st',fun b hb=>(hf b hb).1⟩⟩
 done:=by
  intro X hP hw hK hc i pins s σ H E I hf st hg;subst hP hw hK;obtain ⟨xs,hq,hx⟩:=hg;obtain ⟨its,rv,p,hz⟩:=I.list hq;obtain ⟨f0,f1,f2,f3,f4,f5⟩:=hf it (by simp);have hl:=rv.length;exact wpAny_pyNext_list_end (I.ok.hd hc) st p.isList (by simp; omega) fun h' eb=>⟨rfl,I.turned (t':=s.toks) (fun b o hb e=>eb b o hb e) f0 f1 f3 f4 f5⟩
 self:=fun _ _ _ _ _ st h=>wpAny_pyIter_listiter st h
theorem JoF {P:Program} {w:World} {K:PySem.W.Frag} {tg:Expr} (a it:Addr):Jlg P w K tg (Itt K a) [it] it (fun i h=>h.IsTupleIter it a i) where
 mem:=by simp
 obj:=fun i h st b hb=>by
  have e:b=it:=by simpa using hb
  subst e;obtain ⟨o,e,c,d⟩:=st;exact ⟨o,e,fun v z=>by rw [d] at z; cases z⟩
 keep:=fun i h h' st k=>st.at fun o e=>k it (by simp) o e
 item:=by
  intro X hP hw hK hc i pins s σ H E I hf st hg;subst hP hw hK;obtain ⟨xs,x,hq,hx⟩:=hg;obtain ⟨its,rv,p,hz⟩:=I.tuple hq;obtain ⟨u,hu,ru⟩:=rv.get hx;obtain ⟨f0,f1,f2,f3,f4,f5⟩:=hf it (by simp);refine wpAny_pyNext_tuple_item st (show s.heap.IsTuple a its.toArray from p) (x:=u) (by simpa using hu) fun h' st' sb=>?_
  have I1:Jq X pins σ H { s with heap:=h' }:=I.turned (t':=s.toks) (fun b o hb e=>(sb.2 b hb).trans e) f0 f1 f3 f4 f5;obtain ⟨o,e,c,d⟩:=id st';exact ⟨u,rfl,Jme (s:={ s with heap:=h' }) e c d (by decide) ⟨x,H,I1,ru,⟨rfl,fun ys hy=>by rw [I.tuple_inj hy hq]; exact hx⟩,st',fun b hb=>(hf b hb).1⟩⟩
 done:=by
  intro X hP hw hK hc i pins s σ H E I hf st hg;subst hP hw hK;obtain ⟨xs,hq,hx⟩:=hg;obtain ⟨its,rv,p,hz⟩:=I.tuple hq;obtain ⟨f0,f1,f2,f3,f4,f5⟩:=hf it (by simp);have hl:=rv.length;exact wpAny_pyNext_tuple_end (I.ok.hd hc) st (show s.heap.IsTuple a its.toArray from p) (by simp; omega) fun h' eb=>⟨rfl,I.turned (t':=s.toks) (fun b o hb e=>eb b o hb e) f0 f1 f3 f4 f5⟩
 self:=fun _ _ _ _ _ st h=>wpAny_pyIter_tupleiter st h
theorem JoG {P:Program} {w:World} {K:PySem.W.Frag} {tg:Expr} (it:Addr) (lo:Int) (n:Nat):Jlg P w K tg (Itr lo n) [it] it (fun i h=>IsRangeIter h it (lo + (i:Nat) * 1) ((n:Int) - (i:Nat)) 1) where
 mem:=by simp
 obj:=fun i h st b hb=>by
  have e:b=it:=by simpa using hb
  subst e;exact ⟨_,st,fun v z=>by
   have z':Data.fields _=Data.cell v:=z;cases z'⟩
 keep:=fun i h h' st k=>k it (by simp) _ st
 item:=by
  intro X hP hw hK hc i pins s σ H E I hf st hg;subst hP hw hK;obtain ⟨f0,f1,f2,f3,f4,f5⟩:=hf it (by simp);have W:=Walks.range (prog:=X.prog) (w:=X.w) (I.ok.hd hc) it lo 1 n;refine W.item i s _ _ hg st fun v h' tk hv st' kk=>?_
  obtain ⟨t,rfl⟩:=hv;have I1:Jq X pins σ H { s with heap:=h',toks:=tk }:=I.turned (fun b o hb e=>kk b o (by simpa using hb) e) f0 f1 f3 f4 f5;refine ⟨_,rfl,Jme (s:={ s with heap:=h',toks:=tk }) (n := "range_iterator") st' rfl rfl (by decide) ⟨.int (lo + i),H,I1,⟨t,?_⟩,⟨rfl,rfl⟩,st',fun b hb=>(hf b hb).1⟩⟩;rw [Int.mul_one]
 done:=by
  intro X hP hw hK hc i pins s σ H E I hf st hg;subst hP hw hK;obtain ⟨f0,f1,f2,f3,f4,f5⟩:=hf it (by simp);exact wpAny_pyNext_range_end (I.ok.hd hc) st (by have:n≤i:=hg; omega) fun h' eb=>⟨rfl,I.turned (t':=s.toks) (fun b o hb e=>eb b o hb e) f0 f1 f3 f4 f5⟩
 self:=fun _ _ _ _ _ st h=>wpAny_pyIter_rangeiter st h
end L2
namespace L2
open PySem PySem.Spec PyProof.Rows
section
variable {X:Cx} {tg:Expr}
def Jvy (K:PySem.W.Frag) (tl:TE):TI:=fun σ H R=>tl σ H fun x H1=>∃ a,x=.ref a∧(∃ xs,JA K H1 a xs)∧R (Itl K a) H1
def Jv8 (K:PySem.W.Frag) (tl:TE):TI:=fun σ H R=>tl σ H fun x H1=>∃ a,x=.ref a∧(∃ xs,JH K H1 a xs)∧R (Itt K a) H1
theorem JbG {l:Expr} {tl:TE} (hl:PE X l tl):PI X tg l (Jvy X.K tl):=by
 intro pins s σ H R I h;refine J2 (hl pins s σ H _ I h) fun v s1 ⟨x,H1,I1,r1,q1⟩=>?_
 obtain ⟨a,e,⟨xs,hq⟩,q⟩:=q1;subst e;cases r1;obtain ⟨its,rv,p,hz⟩:=I1.list hq;refine wpAny_pyIter_list p.isList ?_;refine ⟨s1.heap.objs.size,[s1.heap.objs.size],_,_,H1,rfl,I1.kept (t':=s1.toks) fun b o e=>Heap.get?_push_of_some _ e,JpM a _,⟨_,Heap.get?_push_size _ rfl,rfl,rfl⟩,fun b hb=>?_,q⟩;have e:b=s1.heap.objs.size:=by simpa using hb
 subst e;exact I1.fpOk (Nat.le_refl _) (I1.hok.fresh (Nat.le_refl _))
theorem Je5 {l:Expr} {tl:TE} (hl:PE X l tl):PI X tg l (Jv8 X.K tl):=by
 intro pins s σ H R I h;refine J2 (hl pins s σ H _ I h) fun v s1 ⟨x,H1,I1,r1,q1⟩=>?_
 obtain ⟨a,e,⟨xs,hq⟩,q⟩:=q1;subst e;cases r1;obtain ⟨its,rv,p,hz⟩:=I1.tuple hq;refine wpAny_pyIter_tuple (show s1.heap.IsTuple a its.toArray from p) ?_;refine ⟨s1.heap.objs.size,[s1.heap.objs.size],_,_,H1,rfl,I1.kept (t':=s1.toks) fun b o e=>Heap.get?_push_of_some _ e,JoF a _,⟨_,Heap.get?_push_size _ rfl,rfl,rfl⟩,fun b hb=>?_,q⟩;have e:b=s1.heap.objs.size:=by simpa using hb
 subst e;exact I1.fpOk (Nat.le_refl _) (I1.hok.fresh (Nat.le_refl _))
theorem JmP {pins:List (Addr×Obj)} {σ:St} {H:Hp} {s:Shared} {R:It→Hp→Prop} {E:Value→Shared→Prop} {lo hi:Int} {t u v:Tok} {tk:Nat} (I:Jq X pins σ H s) (h1:-(2 ^ 62)≤lo) (h2:lo < 2 ^ 62) (h3:-(2 ^ 62)≤hi) (h4:hi < 2 ^ 62)
  (q:R (Itr lo (hi - lo).toNat) H):wpAny (model X.prog X.w) X.A (pyIter (.ref s.heap.objs.size)) (PIE X pins σ tg R) E { s with heap:=s.heap.push { cls:=.type "range",data:=.fields #[.int lo t,.int hi u,.int 1 v] },toks:=tk }:=by
 refine wpAny_pyIter_range (IsRange.new ..) (small_one h1 h2 h3 h4) ?_;have I1:Jq X pins σ H { s with heap:=s.heap.push { cls:=.type "range",data:=.fields #[.int lo t,.int hi u,.int 1 v] },toks:=tk }:=I.kept fun b o e=>Heap.get?_push_of_some _ e
 refine ⟨(s.heap.push { cls:=.type "range",data:=.fields #[.int lo t,.int hi u,.int 1 v] }).objs.size,[(s.heap.push { cls:=.type "range",data:=.fields #[.int lo t,.int hi u,.int 1 v] }).objs.size],_,_,H,rfl,
  I1.kept (t':=tk) fun b o e=>Heap.get?_push_of_some _ e,JoG _ lo (hi - lo).toNat,?_,fun b hb=>?_,q⟩
 ·have e1:lo + ((0:Nat):Int) * 1=lo:=by simp
  have e2:(((hi - lo).toNat:Nat):Int) - ((0:Nat):Int)=Builtin.Range.rangeSize lo hi 1:=by rw [rangeSize_one]; split <;> omega
  show IsRangeIter _ _ (lo + ((0:Nat):Int) * 1) ((((hi - lo).toNat:Nat):Int) - ((0:Nat):Int)) 1;rw [e1,e2];exact Heap.get?_push_size _ rfl
 ·have e:b=(s.heap.push { cls:=.type "range",data:=.fields #[.int lo t,.int hi u,.int 1 v] }).objs.size:=by simpa using hb
  subst e;exact I1.fpOk (Nat.le_refl _) (I1.hok.fresh (Nat.le_refl _))
def Jvx (ta:TA):TI:=fun σ H R=>ta σ H fun vs H1=>∃ j:Int,vs=[.int j]∧-(2 ^ 62)≤j∧j < 2 ^ 62∧R (Itr 0 j.toNat) H1
def Jvw (ta:TA):TI:=fun σ H R=>ta σ H fun vs H1=>∃ i j:Int,vs=[.int i,.int j]∧(-(2 ^ 62)≤i∧i < 2 ^ 62∧-(2 ^ 62)≤j∧j < 2 ^ 62)∧R (Itr i (j - i).toNat) H1
theorem Zi {a:Expr} {ta:TA} {p pos:Pos} (hg:Gl X "range") (hm:X.mg "range" = none) (ha:PA X [a] ta) (hs:starEach [a] X.env=[(false,eval a X.env)]:=by rfl):PI X tg (.Call (.Name "range" p) [a] [] pos) (Jvx ta):=by
 intro pins s σ H R I h;refine Call_ (JhK I hg hm boot_range (PyProof.Rows.callWith_type1 (J2 (ha pos pins s σ H _ I h) fun us s1 ⟨vs,H1,I1,r1,q1⟩=>?_) hs rfl));obtain ⟨j,e,q1,q2,q⟩:=q1;subst e;cases r1 with
 | cons r rr =>
  cases rr;obtain ⟨t,rfl⟩:=r;exact call_range_1 (JmP I1 (by omega) (by omega) q1 q2 (by simpa using q))
theorem Jqc {a b:Expr} {ta:TA} {p pos:Pos} (hg:Gl X "range") (hm:X.mg "range" = none) (ha:PA X [a,b] ta) (hs:starEach [a,b] X.env=[(false,eval a X.env),(false,eval b X.env)]:=by rfl) (hs2:starEach [b] X.env=[(false,eval b X.env)]:=by rfl) :
  PI X tg (.Call (.Name "range" p) [a,b] [] pos) (Jvw ta):=by
 intro pins s σ H R I h;refine Call_ (JhK I hg hm boot_range (PyProof.Rows.callWith_type1 (J2 (ha pos pins s σ H _ I h) fun us s1 ⟨vs,H1,I1,r1,q1⟩=>?_) (by rw [hs,hs2]) (by rw [hs2]; rfl)));obtain ⟨i,j,e,⟨q1,q2,q3,q4⟩,q⟩:=q1;subst e;cases r1 with
 | cons r rr =>
  cases rr with
  | cons r' rr =>
   cases rr;obtain ⟨t,rfl⟩:=r;obtain ⟨t',rfl⟩:=r';exact call_range_2 (JmP I1 q1 q2 q3 q4 q)
def Jc4 (wi:TI) (g:TG) (tb:TS):TS:=fun D σ H=>@Jh7.rec (fun _=>Prop) (fun dn dr _ _=>wi σ H fun J H1=>∃ W:Nat→Nat→St→Hp→Prop,(∃ m,W 0 m σ H1)∧∀ i m σ H,W i m σ H →
 (J.stop i H∧dn σ H)∨(J.go i H∧∃ N:St→Hp→Prop,(∀ σ' H',N σ' H'→∃ m',m' < m∧W (i + 1) m' σ' H')∧∀ x H',J.yld i H x H'→g x σ H' fun σ2 H2=>tb ⟨N,dr,dn,N⟩ σ2 H2)) D
def Jhs (fp:List Addr) (h:Heap):List (Addr×Obj):=fp.filterMap fun b=>(h.get? b).map fun o=>(b,o)
theorem Jet {fp:List Addr} {h:Heap} {b:Addr} {o:Obj} (hb:b∈fp) (e:h.get? b=some o):(b,o)∈Jhs fp h:=List.mem_filterMap.mpr ⟨b,hb,by rw [e]; rfl⟩
theorem Jqi {fp:List Addr} {h:Heap} {p:Addr×Obj} (hp:p∈Jhs fp h):p.1∈fp∧h.get? p.1=some p.2:=by
 obtain ⟨b,hb,e⟩:=List.mem_filterMap.mp hp;cases q:h.get? b with
 | none=>rw [q] at e; cases e
 | some o =>
  rw [q] at e;have e':(b,o)=p:=Option.some.inj e;subst e';exact ⟨hb,q⟩
theorem Jq.pinned {pins:List (Addr×Obj)} {σ:St} {H:Hp} {s:Shared} {fp:List Addr} (I:Jq X pins σ H s) (hf:∀ b∈fp,JfD X pins H b) (ho:∀ b∈fp,∃ o,s.heap.get? b=some o∧∀ v,o.data≠.cell v):Jq X (pins ++ Jhs fp s.heap) σ H s :=
 I.pins_of fun p hp=>(List.mem_append.mp hp).elim (fun z=>I.pin p (List.mem_append_right _ z)) fun z=>by
  obtain ⟨hb,e⟩:=Jqi z;obtain ⟨f0,f1,f2,_⟩:=hf p.1 hb;obtain ⟨o,e',d⟩:=ho p.1 hb;rw [e] at e'; cases e';exact ⟨e,f0,f1,f2,d⟩
theorem Jq.unpinned {pins pl:List (Addr×Obj)} {σ:St} {H:Hp} {s:Shared} (I:Jq X (pins ++ pl) σ H s):Jq X pins σ H s:=I.pins_of fun p hp=>I.pin p (List.mem_append_right _ (List.mem_append_left _ hp))
theorem Ze {iter:Expr} {body:List Stmt} {wi:TI} {g:TG} {tb:TS} {pos:Pos} (hp:PassesOwn (model X.prog X.w) X.A X.env X.xe) (hc:X.calm=true) (hi:PI X tg iter wi) (hg:PG X tg g) (hb:PSs X body tb)
  (hs:∀ x,foldedSetIterable iter X.env x=pure x:=by intro _; rfl):PS X (.For tg iter body [] pos) (Jc4 wi g tb):=by
 intro pins s σ H D I h;refine wpAny_For (J2 (hi pins s σ H _ I h) fun v s1 h1=>J2 h1 fun itv s2 h2=>?_) hs;obtain ⟨it,fp,tn,J,H2,e,I2,T,st2,f2,W,⟨m0,w0⟩,turn⟩:=h2;subst e;have stat:∀ {H':Hp},(∀ b∈fp,H' b=none)→∀ b∈fp,JfD X pins H' b:=fun hn b hb=>⟨hn b hb,(f2 b hb).2⟩
 refine codeAny_forLoop_any (fun n s'=>∃ i σ' H',Jq X pins σ' H' s'∧tn i s'.heap∧(∀ b∈fp,H' b=none)∧W i n σ' H') ?_ m0 ⟨0,σ,H2,I2,st2,fun b hb=>(f2 b hb).1,w0⟩;rintro n s3 ⟨i,σ3,H3,I3,st3,fr3,w3⟩;rcases turn i n σ3 H3 w3 with ⟨stop,qn⟩ | ⟨go,N,hN,step⟩
 ·refine wpAny_passesOwn hp (J2 (T.done X rfl rfl rfl hc i pins s3 σ3 H3 X.xe I3 (stat fr3) st3 stop) fun r s4 ⟨hr,I4⟩=>?_);subst hr;exact wpAny_execs_nil ⟨σ3,H3,I4,qn⟩
 ·refine wpAny_passesOwn hp (J2 (T.item X rfl rfl rfl hc i pins s3 σ3 H3 X.xe I3 (stat fr3) st3 go) fun r s4 ⟨u,hr,h4⟩=>?_);subst hr;refine wpAny_passesOwn hp (J2 h4 fun _ s5 ⟨x,H5,I5,r5,y5,st5,fr5⟩=>?_);have I5':=I5.pinned (stat fr5) (T.obj _ _ st5);refine wpAny_passesOwn hp (J2 (hg _ s5 σ3 H5 x u _ I5' r5 (step x H5 y5)) fun _ s6 ⟨σ6,H6,I6,q6⟩=>?_);refine wpAny_passesOwn hp (J2 (hb _ s6 σ6 H6 _ I6 q6) fun f s7 q7=>?_);have again:∀ {σ7:St} {H7:Hp},Jq X (pins ++ Jhs fp s5.heap) σ7 H7 s7→N σ7 H7→∃ m,m < n∧∃ i σ' H',Jq X pins σ' H' s7∧tn i s7.heap∧(∀ b∈fp,H' b=none)∧W i m σ' H':=fun {σ7 H7} I7 n7=>by
   obtain ⟨m',hm,w7⟩:=hN σ7 H7 n7;refine ⟨m',hm,i + 1,σ7,H7,I7.unpinned,T.keep _ _ _ st5 fun b hb o e=>(I7.pin (b,o) (List.mem_append_right _ (List.mem_append_right _ (Jet hb e)))).1,fun b hb=>?_,w7⟩;obtain ⟨o,e,d⟩:=T.obj _ _ st5 b hb;exact (I7.pin (b,o) (List.mem_append_right _ (List.mem_append_right _ (Jet hb e)))).2.1
  cases f with
  | next=>obtain ⟨σ7,H7,I7,n7⟩:=q7; exact again I7 n7
  | cont=>obtain ⟨σ7,H7,I7,n7⟩:=q7; exact again I7 n7
  | brk=>obtain ⟨σ7,H7,I7,q7⟩:=q7; exact ⟨σ7,H7,I7.unpinned,q7⟩
  | ret v=>obtain ⟨x7,σ7,H7,I7,r7,q7⟩:=q7; exact ⟨x7,σ7,H7,I7.unpinned,r7,q7⟩
end
theorem Jfe {K:PySem.W.Frag} {a:Addr} {xs:List V} {g:TG} {tb:TS} {dn:St→Hp→Prop} {dr:VK} {σ:St} {H:Hp} (Pv:Nat→St→Hp→Prop) (h0:Pv 0 σ H) (hl:∀ i σ H,i≤xs.length→Pv i σ H→JA K H a xs)
  (hs:∀ i x σ H,xs[i]?=some x→Pv i σ H→g x σ H fun σ2 H2=>tb ⟨Pv (i + 1),dr,dn,Pv (i + 1)⟩ σ2 H2) (hd:∀ σ H,Pv xs.length σ H→dn σ H) :
  ∃ W:Nat→Nat→St→Hp→Prop,(∃ m,W 0 m σ H)∧∀ i m σ H,W i m σ H →
   ((Itl K a).stop i H∧dn σ H)∨((Itl K a).go i H∧∃ N:St→Hp→Prop,(∀ σ' H',N σ' H'→∃ m',m' < m∧W (i + 1) m' σ' H')∧∀ x H',(Itl K a).yld i H x H'→g x σ H' fun σ2 H2=>tb ⟨N,dr,dn,N⟩ σ2 H2):=by
 refine ⟨fun i m σ H=>m=xs.length - i∧i≤xs.length∧Pv i σ H,⟨xs.length,by simp,Nat.zero_le _,h0⟩,?_⟩;rintro i m σ H ⟨rfl,hi,p⟩;have q:=hl i σ H hi p;by_cases hlt:i < xs.length
 ·refine .inr ⟨⟨xs,xs[i],q,by simp [hlt]⟩,Pv (i + 1),fun σ' H' p'=>⟨xs.length - (i + 1),by omega,rfl,hlt,p'⟩,fun x H' y=>?_⟩;obtain ⟨e,y⟩:=y;subst e;exact hs i x σ _ (y xs q) p
 ·have e:i=xs.length:=by omega
  subst e;exact .inl ⟨⟨xs,q,Nat.le_refl _⟩,hd σ H p⟩
theorem Jim {K:PySem.W.Frag} {a:Addr} {xs:List V} {g:TG} {tb:TS} {dn:St→Hp→Prop} {dr:VK} {σ:St} {H:Hp} (Pv:Nat→St→Hp→Prop) (h0:Pv 0 σ H) (hl:∀ i σ H,i≤xs.length→Pv i σ H→JH K H a xs)
  (hs:∀ i x σ H,xs[i]?=some x→Pv i σ H→g x σ H fun σ2 H2=>tb ⟨Pv (i + 1),dr,dn,Pv (i + 1)⟩ σ2 H2) (hd:∀ σ H,Pv xs.length σ H→dn σ H) :
  ∃ W:Nat→Nat→St→Hp→Prop,(∃ m,W 0 m σ H)∧∀ i m σ H,W i m σ H →
   ((Itt K a).stop i H∧dn σ H)∨((Itt K a).go i H∧∃ N:St→Hp→Prop,(∀ σ' H',N σ' H'→∃ m',m' < m∧W (i + 1) m' σ' H')∧∀ x H',(Itt K a).yld i H x H'→g x σ H' fun σ2 H2=>tb ⟨N,dr,dn,N⟩ σ2 H2):=by
 refine ⟨fun i m σ H=>m=xs.length - i∧i≤xs.length∧Pv i σ H,⟨xs.length,by simp,Nat.zero_le _,h0⟩,?_⟩;rintro i m σ H ⟨rfl,hi,p⟩;have q:=hl i σ H hi p;by_cases hlt:i < xs.length
 ·refine .inr ⟨⟨xs,xs[i],q,by simp [hlt]⟩,Pv (i + 1),fun σ' H' p'=>⟨xs.length - (i + 1),by omega,rfl,hlt,p'⟩,fun x H' y=>?_⟩;obtain ⟨e,y⟩:=y;subst e;exact hs i x σ _ (y xs q) p
 ·have e:i=xs.length:=by omega
  subst e;exact .inl ⟨⟨xs,q,Nat.le_refl _⟩,hd σ H p⟩
theorem Zs {lo:Int} {n:Nat} {g:TG} {tb:TS} {dn:St→Hp→Prop} {dr:VK} {σ:St} {H:Hp} (Pv:Nat→St→Hp→Prop) (h0:Pv 0 σ H)
  (hs:∀ i σ H,i < n→Pv i σ H→g (.int (lo + i)) σ H fun σ2 H2=>tb ⟨Pv (i + 1),dr,dn,Pv (i + 1)⟩ σ2 H2) (hd:∀ σ H,Pv n σ H→dn σ H) :
  ∃ W:Nat→Nat→St→Hp→Prop,(∃ m,W 0 m σ H)∧∀ i m σ H,W i m σ H →
   ((Itr lo n).stop i H∧dn σ H)∨((Itr lo n).go i H∧∃ N:St→Hp→Prop,(∀ σ' H',N σ' H'→∃ m',m' < m∧W (i + 1) m' σ' H')∧∀ x H',(Itr lo n).yld i H x H'→g x σ H' fun σ2 H2=>tb ⟨N,dr,dn,N⟩ σ2 H2):=by
 refine ⟨fun i m σ H=>m=n - i∧i≤n∧Pv i σ H,⟨n,by simp,Nat.zero_le _,h0⟩,?_⟩;rintro i m σ H ⟨rfl,hi,p⟩;by_cases hlt:i < n
 ·refine .inr ⟨hlt,Pv (i + 1),fun σ' H' p'=>⟨n - (i + 1),by omega,rfl,hlt,p'⟩,fun x H' y=>?_⟩;obtain ⟨e,y⟩:=y;subst e y;exact hs i σ _ hlt p
 ·have e:i=n:=by omega
  subst e;exact .inl ⟨Nat.le_refl _,hd σ H p⟩
end L2
namespace L2
open PySem PySem.Spec PyProof.Rows
abbrev R2:=V→V→Hp→VK→Prop
def ZT (X:Cx) (f:Value→Value→Sem Value) (r:R2):Prop :=
 ∀ (pins:List (Addr×Obj)) (s:Shared) (σ:St) (H:Hp) (x y:V) (v u:Value) (Q:VK),Jq X pins σ H s→JY x v→JY y u→r x y H Q →
  wpAny (model X.prog X.w) X.A (f v u) (EP X pins σ Q) X.xe s
def UnR (X:Cx) (f:Value→Sem Value) (r:V→Hp→VK→Prop):Prop :=
 ∀ (pins:List (Addr×Obj)) (s:Shared) (σ:St) (H:Hp) (x:V) (v:Value) (Q:VK),Jq X pins σ H s→JY x v→r x H Q →
  wpAny (model X.prog X.w) X.A (f v) (EP X pins σ Q) X.xe s
def Yx (X:Cx) (f:Value) (r:List V→Hp→VK→Prop):Prop :=
 ∀ (pins:List (Addr×Obj)) (s:Shared) (σ:St) (H:Hp) (xs:List V) (us:List Value) (Q:VK),Jq X pins σ H s→JL xs us→r xs H Q →
  wpAny (model X.prog X.w) X.A (call f us) (EP X pins σ Q) X.xe s
def tOp (r:R2) (ta tb:TE):TE:=fun σ H Q=>ta σ H fun x H1=>tb σ H1 fun y H2=>r x y H2 Q
def tUn (r:V→Hp→VK→Prop) (ta:TE):TE:=fun σ H Q=>ta σ H fun x H1=>r x H1 Q
def rI (C:Int→Int→Prop) (g:Int→Int→V):R2:=fun x y H Q=>∃ i j,x=.int i∧y=.int j∧C i j∧Q (g i j) H
def rI0 (g:Int→Int→V):R2:=fun x y H Q=>∃ i j,x=.int i∧y=.int j∧Q (g i j) H
def rU (g:Int→V):V→Hp→VK→Prop:=fun x H Q=>∃ i,x=.int i∧Q (g i) H
section
variable {X:Cx} {a b c:Expr} {ta tb tc:TE} {pos:Pos}
theorem Jsu (ha:PE X a ta) (hb:PE X b tb) {pins:List (Addr×Obj)} {s:Shared} {σ:St} {H:Hp} {R:V→V→Hp→Prop} (I:Jq X pins σ H s)
  (h:ta σ H fun x H1=>tb σ H1 fun y H2=>R x y H2) {Q:Value→Shared→Prop} {f:Value→Value→Sem Value}
  (hf:∀ v u s2 x y H2,Jq X pins σ H2 s2→JY x v→JY y u→R x y H2→wpAny (model X.prog X.w) X.A (f v u) Q X.xe s2) :
  wpAny (model X.prog X.w) X.A (eval a X.env) (fun v s₁=>wpAny (model X.prog X.w) X.A (eval b X.env) (fun u s₂=>wpAny (model X.prog X.w) X.A (f v u) Q X.xe s₂) X.xe s₁) X.xe s:=by
 refine J2 (ha pins s σ H _ I h) fun v s1 ⟨x,H1,I1,r1,q1⟩=>?_
 refine J2 (hb pins s1 σ H1 _ I1 q1) fun u s2 ⟨y,H2,I2,r2,q2⟩=>?_
 exact hf v u s2 x y H2 I2 r1 r2 q2
theorem Jm {op:Operator} {r:R2} (ho:ZT X (binaryOp op) r) (ha:PE X a ta) (hb:PE X b tb):PE X (.BinOp a op b pos) (tOp r ta tb):=by
 intro pins s σ H Q I h;exact wpAny_BinOp (Jsu ha hb I h fun v u s2 x y H2 I2 rx ry q=>ho pins s2 σ H2 x y v u Q I2 rx ry q)
theorem Jb7 {op:UnaryOp} {r:V→Hp→VK→Prop} (ho:UnR X (unaryOp op) r) (ha:PE X a ta):PE X (.UnaryOp op a pos) (tUn r ta):=by
 intro pins s σ H Q I h;exact UnaryOp_ (J2 (ha pins s σ H _ I h) fun v s1 ⟨x,H1,I1,r1,q1⟩=>ho pins s1 σ H1 x v Q I1 r1 q1)
theorem opI {f:Value→Value→Sem Value} {C:Int→Int→Prop} {g:Int→Int→Int}
  (rule:∀ (i j:Int) (t u:Tok) (s:Shared) (Q:Value→Shared→Prop) (E:Value→Shared→Prop),C i j→Q (.int (g i j) s.toks) { s with toks:=s.toks + 1 }→wpAny (model X.prog X.w) X.A (f (.int i t) (.int j u)) Q E s) :
  ZT X f (rI C fun i j=>.int (g i j)):=by
 intro pins s σ H x y v u Q I rx ry h;obtain ⟨i,j,rfl,rfl,hc,q⟩:=h;obtain ⟨t,rfl⟩:=rx;obtain ⟨t',rfl⟩:=ry;exact rule i j t t' s _ _ hc ⟨.int (g i j),H,I.tok _,⟨_,rfl⟩,q⟩
theorem JuE {f:Value→Value→Sem Value} {g:Int→Int→Int}
  (rule:∀ (i j:Int) (t u:Tok) (s:Shared) (Q:Value→Shared→Prop) (E:Value→Shared→Prop),Q (.int (g i j) s.toks) { s with toks:=s.toks + 1 }→wpAny (model X.prog X.w) X.A (f (.int i t) (.int j u)) Q E s) :
  ZT X f (rI0 fun i j=>.int (g i j)):=by
 intro pins s σ H x y v u Q I rx ry h;obtain ⟨i,j,rfl,rfl,q⟩:=h;obtain ⟨t,rfl⟩:=rx;obtain ⟨t',rfl⟩:=ry;exact rule i j t t' s _ _ ⟨.int (g i j),H,I.tok _,⟨_,rfl⟩,q⟩
theorem Jo8 {f:Value→Value→Sem Value} {g:Int→Int→Bool}
  (rule:∀ (i j:Int) (t u:Tok) (s:Shared) (Q:Value→Shared→Prop) (E:Value→Shared→Prop),Q (.bool (g i j)) s→wpAny (model X.prog X.w) X.A (f (.int i t) (.int j u)) Q E s) :
  ZT X f (rI0 fun i j=>.bl (g i j)):=by
 intro pins s σ H x y v u Q I rx ry h;obtain ⟨i,j,rfl,rfl,q⟩:=h;obtain ⟨t,rfl⟩:=rx;obtain ⟨t',rfl⟩:=ry;exact rule i j t t' s _ _ ⟨.bl (g i j),H,I,rfl,q⟩
def Jwd (i j:Int):Prop:=0 < j∧j < 1073741824
def JsA (i j:Int):Prop:=(-(2 ^ 64) < i∧i < 2 ^ 64)∨(-(2 ^ 64) < j∧j < 2 ^ 64)
theorem JsA.ok {i j:Int} (h:JsA i j):IntMulOk i j:=by
 rcases h with ⟨h1,h2⟩ | ⟨h1,h2⟩
 ·exact .of_left (intBits_le_64 h1 h2)
 ·exact .of_right (intBits_le_64 h1 h2)
theorem JV:ZT X (binaryOp .Add) (rI0 fun i j=>.int (i + j)):=JuE fun _ _ _ _ _ _ _ q=>add_int q
theorem YR:ZT X (binaryOp .Sub) (rI0 fun i j=>.int (i - j)):=JuE fun _ _ _ _ _ _ _ q=>sub_int q
theorem Jau:ZT X (binaryOp .Mult) (rI JsA fun i j=>.int (i * j)):=opI fun _ _ _ _ _ _ _ hc q=>mul_int q hc.ok
theorem YJ:ZT X (binaryOp .FloorDiv) (rI Jwd fun i j=>.int (i / j)):=opI fun i j _ _ _ _ _ hc q=>by
 have h1:(0:Int) < j:=hc.1;have h2:j < 1073741824:=hc.2;exact floordiv_int (by omega) (by rw [Int.fdiv_eq_ediv_of_nonneg i (by omega)]; exact q) (.inl (PyProof.noPylong_small (by omega)))
theorem JS:ZT X (binaryOp .Mod) (rI (fun _ j=>0 < j) fun i j=>.int (i % j)):=opI fun i j _ _ _ _ _ hc q=>by
 have h1:(0:Int) < j:=hc;exact mod_int' (by omega) (by rw [Int.fmod_eq_emod_of_nonneg i (by omega)]; exact q)
theorem unI {f:Value→Sem Value} {g:Int→Int}
  (rule:∀ (i:Int) (t:Tok) (s:Shared) (Q:Value→Shared→Prop) (E:Value→Shared→Prop),Q (.int (g i) s.toks) { s with toks:=s.toks + 1 }→wpAny (model X.prog X.w) X.A (f (.int i t)) Q E s) :
  UnR X f (rU fun i=>.int (g i)):=by
 intro pins s σ H x v Q I rx h;obtain ⟨i,rfl,q⟩:=h;obtain ⟨t,rfl⟩:=rx;exact rule i t s _ _ ⟨.int (g i),H,I.tok _,⟨_,rfl⟩,q⟩
theorem JaV:UnR X (unaryOp .USub) (rU fun i=>.int (-i)):=unI fun _ _ _ _ _ q=>neg_int q
end
def Juh:V→V→Bool
 | .non,.non=>true | .non,.int _=>true | .int _,.non=>true | .non,.bl _=>true | .bl _,.non=>true | .non,.str _=>true | .str _,.non=>true
 | .int _,.int _=>true | .bl _,.bl _=>true | .str _,.str _=>true | .byt _,.byt _=>true
 | .int _,.str _=>true | .str _,.int _=>true | .bl _,.str _=>true | .str _,.bl _=>true
 | _,_=>false
def rEq:R2:=fun x y H Q=>Juh x y=true∧Q (.bl (decide (x=y))) H
def rNe:R2:=fun x y H Q=>Juh x y=true∧Q (.bl (!decide (x=y))) H
theorem Jou {i j:Int}:decide (V.int i=V.int j)=(i == j):=by
 rw [Bool.eq_iff_iff];simp
theorem JqO {i j:Bool}:decide (V.bl i=V.bl j)=(i == j):=by
 rw [Bool.eq_iff_iff];simp
theorem Jot {i j:Str}:decide (V.str i=V.str j)=(i == j):=by
 rw [Bool.eq_iff_iff];simp
theorem Jov {i j:Array UInt8}:decide (V.byt i=V.byt j)=(i.toList == j.toList):=by
 rw [Bool.eq_iff_iff];cases i;cases j;simp
section
variable {X:Cx} {a b c:Expr} {ta tb tc:TE} {pos:Pos}
theorem Yz {pins:List (Addr×Obj)} {σ:St} {H:Hp} {s:Shared} {Q:VK} {k k':Bool} (I:Jq X pins σ H s) (q:Q (.bl k) H) (e:k=k'):EP X pins σ Q (.bool k') s:=by
 subst e;exact ⟨.bl k,H,I,rfl,q⟩
theorem Yl:ZT X (compareOp .Eq) rEq:=by
 intro pins s σ H x y v u Q I rx ry h;obtain ⟨hs,q⟩:=h;cases x with
 | non =>
  cases rx;cases y with
  | non=>cases ry; exact PySem.EqNone.eq_none_none (Yz I q (by simp))
  | bl j=>cases ry; exact PySem.EqNone.eq_none_bool (Yz I q (by simp))
  | int j=>obtain ⟨t',rfl⟩:=ry; exact PySem.EqNone.eq_none_int (Yz I q (by simp))
  | str j=>obtain ⟨t',rfl⟩:=ry; exact PySem.EqNone.eq_none_str (Yz I q (by simp))
  | _=>exact absurd (show false=true from hs) Bool.false_ne_true
 | bl i =>
  cases rx;cases y with
  | non=>cases ry; exact PySem.EqNone.eq_bool_none (Yz I q (by simp))
  | bl j=>cases ry; exact eq_bool (Yz I q JqO)
  | str j=>obtain ⟨t',rfl⟩:=ry; exact PySem.EqMixed.eq_bool_str (Yz I q (by simp))
  | _=>exact absurd (show false=true from hs) Bool.false_ne_true
 | int i =>
  obtain ⟨t,rfl⟩:=rx;cases y with
  | non=>cases ry; exact PySem.EqNone.eq_int_none (Yz I q (by simp))
  | int j=>obtain ⟨t',rfl⟩:=ry; exact eq_int (Yz I q Jou)
  | str j=>obtain ⟨t',rfl⟩:=ry; exact PySem.EqMixed.eq_int_str (Yz I q (by simp))
  | _=>exact absurd (show false=true from hs) Bool.false_ne_true
 | str i =>
  obtain ⟨t,rfl⟩:=rx;cases y with
  | non=>cases ry; exact PySem.EqNone.eq_str_none (Yz I q (by simp))
  | bl j=>cases ry; exact PySem.EqMixed.eq_str_bool (Yz I q (by simp))
  | int j=>obtain ⟨t',rfl⟩:=ry; exact PySem.EqMixed.eq_str_int (Yz I q (by simp))
  | str j=>obtain ⟨t',rfl⟩:=ry; exact eq_str (Yz I q Jot)
  | _=>exact absurd (show false=true from hs) Bool.false_ne_true
 | byt i =>
  obtain ⟨t,rfl⟩:=rx;cases y with
  | byt j=>obtain ⟨t',rfl⟩:=ry; exact PySem.W.eq_bytes (Yz I q Jov)
  | _=>exact absurd (show false=true from hs) Bool.false_ne_true
 | _=>cases y <;> exact absurd (show false=true from hs) Bool.false_ne_true
theorem Jih:ZT X (compareOp .NotEq) rNe:=by
 intro pins s σ H x y v u Q I rx ry h;obtain ⟨hs,q⟩:=h;cases x with
 | non =>
  cases rx;cases y with
  | non=>cases ry; exact PySem.EqNone.ne_none_none (Yz I q (by simp))
  | bl j=>cases ry; exact PySem.EqNone.ne_none_bool (Yz I q (by simp))
  | int j=>obtain ⟨t',rfl⟩:=ry; exact PySem.EqNone.ne_none_int (Yz I q (by simp))
  | str j=>obtain ⟨t',rfl⟩:=ry; exact PySem.EqNone.ne_none_str (Yz I q (by simp))
  | _=>exact absurd (show false=true from hs) Bool.false_ne_true
 | bl i =>
  cases rx;cases y with
  | non=>cases ry; exact PySem.EqNone.ne_bool_none (Yz I q (by simp))
  | bl j=>cases ry; exact ne_bool (Yz I q (congrArg not JqO))
  | str j=>obtain ⟨t',rfl⟩:=ry; exact PySem.EqMixed.ne_bool_str (Yz I q (by simp))
  | _=>exact absurd (show false=true from hs) Bool.false_ne_true
 | int i =>
  obtain ⟨t,rfl⟩:=rx;cases y with
  | non=>cases ry; exact PySem.EqNone.ne_int_none (Yz I q (by simp))
  | int j=>obtain ⟨t',rfl⟩:=ry; exact ne_int (Yz I q (congrArg not Jou))
  | str j=>obtain ⟨t',rfl⟩:=ry; exact PySem.EqMixed.ne_int_str (Yz I q (by simp))
  | _=>exact absurd (show false=true from hs) Bool.false_ne_true
 | str i =>
  obtain ⟨t,rfl⟩:=rx;cases y with
  | non=>cases ry; exact PySem.EqNone.ne_str_none (Yz I q (by simp))
  | bl j=>cases ry; exact PySem.EqMixed.ne_str_bool (Yz I q (by simp))
  | int j=>obtain ⟨t',rfl⟩:=ry; exact PySem.EqMixed.ne_str_int (Yz I q (by simp))
  | str j=>obtain ⟨t',rfl⟩:=ry; exact ne_str (Yz I q (congrArg not Jot))
  | _=>exact absurd (show false=true from hs) Bool.false_ne_true
 | byt i =>
  obtain ⟨t,rfl⟩:=rx;cases y with
  | byt j=>obtain ⟨t',rfl⟩:=ry; exact PySem.W.ne_bytes (Yz I q (congrArg not Jov))
  | _=>exact absurd (show false=true from hs) Bool.false_ne_true
 | _=>cases y <;> exact absurd (show false=true from hs) Bool.false_ne_true
theorem Jeq:ZT X (compareOp .Lt) (rI0 fun i j=>.bl (decide (i < j))):=Jo8 fun _ _ _ _ _ _ _ q=>lt_int q
theorem Jvr:ZT X (compareOp .LtE) (rI0 fun i j=>.bl (decide (i≤j))):=Jo8 fun _ _ _ _ _ _ _ q=>le_int q
theorem Jer:ZT X (compareOp .Gt) (rI0 fun i j=>.bl (decide (j < i))):=Jo8 fun _ _ _ _ _ _ _ q=>gt_int q
theorem Jvs:ZT X (compareOp .GtE) (rI0 fun i j=>.bl (decide (j≤i))):=Jo8 fun _ _ _ _ _ _ _ q=>ge_int q
theorem ZT.or {f:Value→Value→Sem Value} {r r':R2} (h:ZT X f r) (h':ZT X f r'):ZT X f (fun x y H Q=>r x y H Q∨r' x y H Q):=by
 intro pins s σ H x y v u Q I rx ry q;rcases q with q | q
 ·exact h pins s σ H x y v u Q I rx ry q
 ·exact h' pins s σ H x y v u Q I rx ry q
theorem JJ (b:Expr) {op:CmpOp} (h:op≠.In:=by decide) (h2:op≠.NotIn:=by decide):behindInMarks op b=false:=by
 have e1:(op == CmpOp.In)=false:=by cases op <;> first | rfl | exact absurd rfl h
 have e2:(op == CmpOp.NotIn)=false:=by cases op <;> first | rfl | exact absurd rfl h2
 cases b <;> simp [behindInMarks,e1,e2]
theorem JkG {op:CmpOp} {r:R2} (ho:ZT X (compareOp op) r) (ha:PE X a ta) (hb:PE X b tb) (hm:behindInMarks op b=false):PE X (.Compare a [op] [b] pos) (tOp r ta tb):=by
 intro pins s σ H Q I h;exact wpAny_Compare1 (Jsu ha hb I h fun v u s2 x y H2 I2 rx ry q=>ho pins s2 σ H2 x y v u Q I2 rx ry q) hm
def Ju4 (t:TE):TT:=fun σ H Q=>t σ H fun x H'=>∃ k,x=.bl k∧Q k H'
theorem Jy {op:CmpOp} {r:R2} (ho:ZT X (compareOp op) r) (ha:PE X a ta) (hb:PE X b tb) (hm:behindInMarks op b=false):PT X (.Compare a [op] [b] pos) (Ju4 (tOp r ta tb)):=by
 intro pins s σ H Q I h;refine wpAny_isTrue_Compare1 (J2 (ha pins s σ H _ I h) fun v s1 ⟨x,H1,I1,r1,q1⟩=>J2 (hb pins s1 σ H1 _ I1 q1) fun u s2 ⟨y,H2,I2,r2,q2⟩ =>
  J2 (ho pins s2 σ H2 x y v u _ I2 r1 r2 q2) fun c s3 ⟨z,H3,I3,r3,k,e,q3⟩=>?_) hm
 subst e;cases r3;exact wpAny_truthy_bool ⟨H3,I3,q3⟩
def Jt8 (r r':R2) (ta tb tc:TE):TE:=fun σ H Q=>ta σ H fun x H1=>tb σ H1 fun y H2=>r x y H2 fun z H3=>∃ k,z=.bl k ∧
 (if k=true then tc σ H3 fun w' H4=>r' y w' H4 Q else Q (.bl false) H3)
theorem JrV {op op':CmpOp} {r r':R2} (ho:ZT X (compareOp op) r) (ho':ZT X (compareOp op') r') (ha:PE X a ta) (hb:PE X b tb) (hc:PE X c tc)
  (hm:lastMarks [op,op'] [b,c]=false:=by with_unfolding_all rfl):PE X (.Compare a [op,op'] [b,c] pos) (Jt8 r r' ta tb tc):=by
 intro pins s σ H Q I h;refine Compare_chain (J2 (ha pins s σ H _ I h) fun v s1 ⟨x,H1,I1,r1,q1⟩=>chain_link (J2 (hb pins s1 σ H1 _ I1 q1) fun u s2 ⟨y,H2,I2,r2,q2⟩ =>
  J2 (ho pins s2 σ H2 x y v u _ I2 r1 r2 q2) fun d s3 ⟨z,H3,I3,r3,k,e,q3⟩=>?_)) hm
 subst e;cases r3;refine wpAny_truthy_bool ?_;cases k with
 | false=>exact ite_ff ⟨.bl false,H3,I3,rfl,q3⟩
 | true=>exact ite_tt (chain_last (J2 (hc pins s3 σ H3 _ I3 q3) fun w' s4 ⟨z',H4,I4,r4,q4⟩=>ho' pins s4 σ H4 y z' u w' Q I4 r2 r4 q4))
theorem Jgy:(sizeLine:Nat) < 2 ^ 63:=by rw [sizeLine_eq]; decide
theorem Jo7:ZT X (binaryOp .Add) (fun x y H Q=>∃ i j,x=.str i∧y=.str j∧i.length + j.length≤sizeLine∧Q (.str (i ++ j)) H):=by
 intro pins s σ H x y v u Q I rx ry h;obtain ⟨i,j,rfl,rfl,hz,q⟩:=h;obtain ⟨t,rfl⟩:=rx;obtain ⟨t',rfl⟩:=ry;exact add_str (fun t' tk=>⟨.str (i ++ j),H,I.tok _,⟨_,rfl⟩,q⟩) hz
theorem Jmc {x:V} {us:List Value} (r:JL [x] us):∃ u,us=[u]∧JY x u:=by
 cases r with
 | cons r1 r2=>cases r2; exact ⟨_,rfl,r1⟩
theorem JsB {x y:V} {us:List Value} (r:JL [x,y] us):∃ u w',us=[u,w']∧JY x u∧JY y w':=by
 cases r with
 | cons r1 r2 =>
  cases r2 with
  | cons r3 r4=>cases r4; exact ⟨_,_,rfl,r1,r3⟩
theorem JcD (hc:X.calm=true):Yx X (.builtin "max") (fun xs H Q=>∃ i j,xs=[.int i,.int j]∧Q (.int (if j > i then j else i)) H):=by
 intro pins s σ H xs us Q I r h;obtain ⟨i,j,rfl,q⟩:=h;obtain ⟨u,w',rfl,⟨t,rfl⟩,⟨t',rfl⟩⟩:=JsB r;refine max_two_ints (I.ok.hd hc) fun h' tk k=>⟨_,H,I.kept k,?_,q⟩
 by_cases hj:j > i
 ·rw [if_pos hj,if_pos hj]; exact ⟨_,rfl⟩
 ·rw [if_neg hj,if_neg hj]; exact ⟨_,rfl⟩
theorem Jh1 (hc:X.calm=true):Yx X (.builtin "min") (fun xs H Q=>∃ i j,xs=[.int i,.int j]∧Q (.int (if j < i then j else i)) H):=by
 intro pins s σ H xs us Q I r h;obtain ⟨i,j,rfl,q⟩:=h;obtain ⟨u,w',rfl,⟨t,rfl⟩,⟨t',rfl⟩⟩:=JsB r;refine min_two_ints (I.ok.hd hc) fun h' tk k=>⟨_,H,I.kept k,?_,q⟩
 by_cases hj:j < i
 ·rw [if_pos hj,if_pos hj]; exact ⟨_,rfl⟩
 ·rw [if_neg hj,if_neg hj]; exact ⟨_,rfl⟩
end
end L2
namespace L2
open PySem PySem.Spec PyProof.Rows
structure Jjo (h:Heap) (x dx C:Addr) (mA:Str→Option Value):Prop where
 obj:h.get? x=some (PySem.W.instObj C dx)
 ns:h.Ns1 dx mA
 ne:dx≠x
theorem Jqq {h:Heap} {dx:Addr} {mA:Str→Option Value} (n:h.Ns1 dx mA):∃ od,h.get? dx=some od∧∀ name,PySem.W.lookIn name od=some (mA name):=by
 obtain ⟨o,es,ep,ho,hd,hk,_,hm⟩:=n;refine ⟨o,ho,fun name=>?_⟩;have e:=hm name;unfold nsFind findBy at e;rw [← Array.find?_toList] at e;unfold PySem.W.lookIn;rw [hd];dsimp only;split
 ·rename_i y q;rw [q] at e;exact congrArg some e
 ·rename_i q;rw [q] at e;have a:es.toList.any (·.refKey)=false:=by
   rw [List.any_eq_false];intro y hy;obtain ⟨z,t,hkey⟩:=hk y (Array.mem_toList_iff.mp hy);simp [DictEntry.refKey,hkey]
  have a':¬ es.toList.any (·.refKey)=true:=by rw [a]; exact Bool.false_ne_true
  rw [if_neg a'];exact congrArg some e
theorem Jjo.look {h:Heap} {x dx C:Addr} {mA:Str→Option Value} (I:Jjo h x dx C mA):∃ od,PySem.W.InstAt h x (PySem.W.instObj C dx) C (some od)∧∀ name,PySem.W.lookIn name od=some (mA name) :=
 let ⟨od,ho,hl⟩:=Jqq I.ns
 ⟨od,⟨I.obj,rfl,rfl,ho⟩,hl⟩
section
variable {prog:Program} {w:World} {A:Around} {E:Value→Shared→Prop} {s:Shared} {K:PySem.W.Frag} {x dx C f:Addr} {mA:Str→Option Value} {name:Str} {v:Value}
theorem JtT {expr:Bool} {Q:Value→Shared→Prop} (X:K.In s.heap) (I:Jjo s.heap x dx C mA) (hg:PySem.W.plainGet K C name=true) (hh:PySem.W.hasDictIn K C=true)
  (ha:PySem.W.findIn K (.ref C) name=some none) (hv:mA name=some v) (hv':PySem.W.handedIn v=true) (h:Q v { s with toks:=s.toks + 1 }) :
  wpAny (model prog w) A (getAttr (.ref x) name expr) Q E s:=by
 obtain ⟨od,J,hl⟩:=I.look;exact PySem.W.get_value X J (PySem.W.plainGet_of hg).1 (PySem.W.findObj_own hh ha rfl (by rw [hl,hv])) hv' h
theorem Jsd {pl:Sem Bool} {Q:Value×List Value→Shared→Prop} (X:K.In s.heap) (I:Jjo s.heap x dx C mA) (hg:PySem.W.plainGet K C name=true)
  (hf:PySem.W.findIn K (.ref C) name=some (some (.ref f))) (ht:PySem.W.isFn K (.ref f)=true) (hv:mA name=none) (h:Q (.ref f,[.ref x]) s) :
  wpAny (model prog w) A (getMethod (.ref x) name pl) Q E s:=by
 obtain ⟨od,J,hl⟩:=I.look;exact PySem.W.method_fn X J (PySem.W.plainGet_of hg).1 (PySem.W.plainGet_of hg).2 hf (beq_iff_eq.mp ht) (by show (PySem.W.lookIn name od).map (·.isSome)=some false; rw [hl,hv]; rfl) h
theorem Jtn {ns:List Str} {Q:Unit→Shared→Prop} (X:K.In s.heap) (I:Jjo s.heap x dx C mA)
  (hs:PySem.W.findIn K (.ref C) "__setattr__" = some (some (.builtin "object.__setattr__"))) (hp:PySem.W.plainOver K C=true) (ht:PySem.W.takerIn K C name=some none) (hh:PySem.W.hasDictIn K C=true)
  (hw:PySem.Within mA ns) (hsz:ns.length≤sizeLine)
  (h:∀ h',Jjo h' x dx C (fun y=>if y=name then some v else mA y)→Heap.SameBut dx s.heap h'→Q () { s with heap:=h',toks:=s.toks + 2 }) :
  wpAny (model prog w) A (setAttr (.ref x) name v) Q E s:=by
 obtain ⟨od,J,hl⟩:=I.look;refine PySem.W.set_plain X J hs (PySem.W.osa_open (s:={ s with toks:=s.toks + 1 }) (r:=none) X J hp ht fun b=>?_);obtain ⟨cd,hc,hd'⟩:=PySem.W.any_some hh;have hx:s.heap.get? x=some ⟨.ref C,some dx,.plain,#[]⟩:=I.obj;refine wpAny_bind (wpAny_pure (wpAny_bind (wpAny_bind (wpAny_loadPart hx (wpAny_bind (PySem.W.Looks.here (s:={ s with toks:=s.toks + 1 }) (PySem.W.looks_clsIn X hc) ?_))))));rw [hd'];refine wpAny_pure (a:=some dx) (wpAny_bind (wpAny_pure (wpAny_bind ?_)));refine wpAny_nsSet1 (s:={ s with toks:=s.toks + 1 }) I.ns fun h' hn2 hs2=>?_
 obtain ⟨oD,esD,epD,hoD,hdD,hcD⟩:=hn2.count (PySem.Within.cons name v hw);refine wpAny_bind (wpAny_lookBehind hoD (by rw [hdD]; exact pastItsLine_dict (Nat.le_trans hcD (by rw [List.length_cons]; omega))) ?_);exact wpAny_pure (h _ ⟨(hs2.2 _ (Ne.symm I.ne)).trans I.obj,hn2,I.ne⟩ hs2)
theorem Jr6 {R:Result→Shared→Prop} {vs:List Value} {kw:List (Str×Value)} (X:K.In s.heap) (hm:PySem.W.makesIn K C=true)
  (hi:PySem.W.findIn K (.ref C) "__init__" = some (some (.ref f))) (hf:PySem.W.typeIn K (.ref f)=some (.type "function"))
  (h:codeAny (model prog w) (A.under (.builtin "type.__call__" ⟨.ref C :: vs,kw⟩)) (.call (.ref f) ⟨.ref (s.heap.objs.size + 1) :: vs,kw⟩) (PySem.W.InitBack (s.heap.objs.size + 1) R)
   { s with heap:=(s.heap.push PySem.W.emptyDict).push (PySem.W.instObj C s.heap.objs.size) }) :
  codeAny (model prog w) A (.call (.ref C) ⟨vs,kw⟩) R s:=by
 obtain ⟨hh,g,d,t,os⟩:=s;exact PySem.W.make_core (PySem.W.makes_of X hm) (PySem.W.looks_findIn X hi) (fun self=>PySem.W.bind_fn X self hf) (.inl rfl) h
end
def Yr (f:Str) (v:V):List (Str×V)→List (Str×V)
 | []=>[(f,v)]
 | (g,x) :: r=>if g=f then (g,v) :: r else (g,x) :: Yr f v r
theorem JiD (f g:Str) (v:V):∀ fs:List (Str×V),(Yr f v fs).lookup g=if g=f then some v else fs.lookup g
 | []=>by
  show List.lookup g [(f,v)]=_;by_cases h:g=f
  ·have hb:(g == f)=true:=beq_iff_eq.mpr h;simp only [List.lookup,hb,if_pos h]
  ·have hb:(g == f)=false:=beq_eq_false_iff_ne.mpr h;simp only [List.lookup,hb,if_neg h]
 | (k,x) :: r=>by
  have ih:=JiD f g v r;rw [show Yr f v ((k,x) :: r)=(if k=f then (k,v) :: r else (k,x) :: Yr f v r) from rfl];by_cases hk:k=f
  ·rw [if_pos hk];by_cases h:g=k
   ·have hb:(g == k)=true:=beq_iff_eq.mpr h;simp only [List.lookup,hb,if_pos (h.trans hk)]
   ·have hb:(g == k)=false:=beq_eq_false_iff_ne.mpr h;simp only [List.lookup,hb,if_neg (fun e:g=f=>h (e.trans hk.symm))]
  ·rw [if_neg hk];by_cases h:g=k
   ·have hb:(g == k)=true:=beq_iff_eq.mpr h;simp only [List.lookup,hb,if_neg (fun e:g=f=>hk (h.symm.trans e))]
   ·have hb:(g == k)=false:=beq_eq_false_iff_ne.mpr h;simp only [List.lookup,hb];exact ih
theorem JhM (f:Str) (v:V):∀ fs:List (Str×V),f∈(Yr f v fs).map (·.1)∧∀ g,g∈fs.map (·.1)→g∈(Yr f v fs).map (·.1)
 | []=>⟨by simp [Yr],fun g h=>by simp at h⟩
 | (k,x) :: r=>by
  obtain ⟨i1,i2⟩:=JhM f v r;rw [show Yr f v ((k,x) :: r)=(if k=f then (k,v) :: r else (k,x) :: Yr f v r) from rfl];by_cases hk:k=f
  ·rw [if_pos hk];subst hk;exact ⟨by simp,fun g h=>by simpa using h⟩
  ·rw [if_neg hk];refine ⟨?_,fun g h=>?_⟩
   ·rw [List.map_cons];exact List.mem_cons_of_mem _ i1
   ·rw [List.map_cons] at h ⊢;rcases List.mem_cons.mp h with e | e
    ·exact List.mem_cons.mpr (.inl e)
    ·exact List.mem_cons_of_mem _ (i2 g e)
theorem JiE (f:Str) (v:V):∀ fs:List (Str×V),(Yr f v fs).length≤fs.length + 1
 | []=>by simp [Yr]
 | (k,x) :: r=>by
  have ih:=JiE f v r;rw [show Yr f v ((k,x) :: r)=(if k=f then (k,v) :: r else (k,x) :: Yr f v r) from rfl];by_cases hk:k=f
  ·rw [if_pos hk,List.length_cons,List.length_cons]; omega
  ·rw [if_neg hk,List.length_cons,List.length_cons]; omega
theorem Jbg.some_of {v:V} {o:Option Value} (r:Jbg (some v) o):∃ u,o=some u∧JY v u:=by
 cases o with
 | none=>exact (show False from r).elim
 | some u=>exact ⟨u,rfl,r⟩
theorem Jbg.none_of {o:Option Value} (r:Jbg none o):o=none:=by
 cases o with
 | none=>rfl
 | some u=>exact (show False from r).elim
theorem JqE {v:V} {u:Value} (r:JY v u):PySem.W.handedIn u=true:=by
 cases v with
 | non=>cases (show u=Value.none from r); rfl
 | bl b=>cases (show u=Value.bool b from r); rfl
 | int i=>obtain ⟨t,e⟩:=(show ∃ t,u=Value.int i t from r); cases e; rfl
 | str x=>obtain ⟨t,e⟩:=(show ∃ t,u=Value.str x t from r); cases e; rfl
 | byt b=>obtain ⟨t,e⟩:=(show ∃ t,u=Value.bytes b t from r); cases e; rfl
 | flt b=>obtain ⟨t,e⟩:=(show ∃ t,u=Value.float b t from r); cases e; rfl
 | ref a=>cases (show u=Value.ref a from r); rfl
 | ty n=>cases (show u=Value.type n from r); rfl
section
variable {P:Program} {w:World} {H H':Hp} {h h':Heap} {a C dx:Addr} {fs fs':List (Str×V)}
theorem Jil (hok:Z2 P w H h) (e:H a=some (.ins C dx fs)):∃ mA,Jjo h a dx C mA∧(∀ f,Jbg (fs.lookup f) (mA f))∧PySem.Within mA (fs.map (·.1))∧fs.length≤1000∧H dx=some (.own a):=by
 obtain ⟨d,z,ne,ob,mA,n,r,q⟩:=(show YO P w H h a (.ins C dx fs) from hok a _ e)
 exact ⟨mA,⟨ob,n,ne⟩,r,q,z,d⟩
end
structure Cls (K:PySem.W.Frag) (C:Addr):Prop where
 pg:PySem.W.plainGet K C Str.empty=true
 hd:PySem.W.hasDictIn K C=true
 po:PySem.W.plainOver K C=true
 sa:PySem.W.findIn K (.ref C) "__setattr__" = some (some (.builtin "object.__setattr__"))
theorem Cls.get {K:PySem.W.Frag} {C:Addr} (c:Cls K C) (f:Str):PySem.W.plainGet K C f=true:=c.pg
def YX (K:PySem.W.Frag) (C:Addr) (f:Str):Prop:=PySem.W.findIn K (.ref C) f=some none
theorem YX.taker {K:PySem.W.Frag} {C:Addr} {f:Str} (n:YX K C f):PySem.W.takerIn K C f=some none:=by
 unfold PySem.W.takerIn;rw [show PySem.W.findIn K (.ref C) f=some none from n];rfl
structure JpG (K:PySem.W.Frag) (C:Addr) (m:Str) (f:Addr):Prop where
 at_:PySem.W.findIn K (.ref C) m=some (some (.ref f))
 fn:PySem.W.isFn K (.ref f)=true
 kp:PySem.W.keepIn K (.ref f)=true
section
variable {X:Cx} {pins:List (Addr×Obj)} {σ:St} {H:Hp} {s:Shared} {a C dx:Addr} {fs:List (Str×V)} {f:Str} {v:V} {A:Around} {E:Value→Shared→Prop}
theorem Jpi {b:Bool} {Q:Value→Shared→Prop} (I:Jq X pins σ H s) (e:H a=some (.ins C dx fs)) (c:Cls X.K C) (n:YX X.K C f) (l:fs.lookup f=some v)
  (h:∀ u s',Jq X pins σ H s'→JY v u→Q u s'):wpAny (model X.prog X.w) A (getAttr (.ref a) f b) Q E s:=by
 obtain ⟨mA,O,r,_,_,_⟩:=Jil I.hok e;obtain ⟨u,hu,ru⟩:=Jbg.some_of (v:=v) (o:=mA f) (by rw [← l]; exact r f);exact JtT I.kIn O (c.get f) c.hd n hu (JqE ru) (h u _ (I.tok _) ru)
theorem JjX {m:Str} {g:Addr} {pl:Sem Bool} {Q:Value×List Value→Shared→Prop} (I:Jq X pins σ H s) (e:H a=some (.ins C dx fs)) (c:Cls X.K C) (k:JpG X.K C m g) (l:fs.lookup m=none)
  (h:Q (.ref g,[.ref a]) s):wpAny (model X.prog X.w) A (getMethod (.ref a) m pl) Q E s:=by
 obtain ⟨mA,O,r,_,_,_⟩:=Jil I.hok e;have hn:mA m=none:=Jbg.none_of (by rw [← l]; exact r m);exact Jsd I.kIn O (c.get m) k.at_ k.fn hn h
theorem JoS {y:V} {u:Value} {Q:Unit→Shared→Prop} (I:Jq X pins σ H s) (e:H a=some (.ins C dx fs)) (c:Cls X.K C) (n:YX X.K C f) (hl:fs.length < 1000) (ry:JY y u)
  (h:∀ s',Jq X pins σ (upd H a (.ins C dx (Yr f y fs))) s'→Q () s'):wpAny (model X.prog X.w) A (setAttr (.ref a) f u) Q E s:=by
 obtain ⟨mA,O,r,wi,_,ho⟩:=Jil I.hok e;have hz:(fs.map (·.1)).length≤sizeLine:=by rw [List.length_map,sizeLine_eq]; omega
 refine Jtn I.kIn O c.sa c.po n.taker c.hd wi hz fun h' O' sb=>h _ ?_
 have hd:∃ o,h'.get? dx=some o:=let ⟨o,_,_,e',_⟩:=O'.ns; ⟨o,e'⟩;refine I.write (x:=a) (e:=dx) (by rw [e]; exact True.intro) (.inr ho) (fun b q hb z=>(sb.2 b hb).trans z) hd ?_;refine ⟨by rw [JD O.ne]; exact ho,?_,O.ne,O'.obj,_,O'.ns,fun g=>?_,fun g hg=>?_⟩
 ·have:=JiE f y fs; omega
 ·show Jbg ((Yr f y fs).lookup g) (if g=f then some u else mA g);rw [JiD];by_cases q:g=f
  ·rw [if_pos q,if_pos q]; exact ry
  ·rw [if_neg q,if_neg q]; exact r g
 ·by_cases q:g=f
  ·rw [q]; exact (JhM f y fs).1
  ·refine (JhM f y fs).2 g (wi g fun z=>hg ?_);show (if g=f then some u else mA g)=none;rw [if_neg q]; exact z
theorem Jq.made (I:Jq X pins σ H s):Jq X pins σ (upd (upd H s.heap.objs.size (.own (s.heap.objs.size + 1))) (s.heap.objs.size + 1) (.ins C s.heap.objs.size []))
  { s with heap:=(s.heap.push PySem.W.emptyDict).push (PySem.W.instObj C s.heap.objs.size) }:=by
 have e1:(s.heap.push PySem.W.emptyDict).get? s.heap.objs.size=some PySem.W.emptyDict:=Heap.get?_push_size s.heap rfl;have e2:((s.heap.push PySem.W.emptyDict).push (PySem.W.instObj C s.heap.objs.size)).get? (s.heap.objs.size + 1)=some (PySem.W.instObj C s.heap.objs.size):=by
  have:=Heap.get?_push_size (s.heap.push PySem.W.emptyDict) (o:=PySem.W.instObj C s.heap.objs.size) rfl;rwa [Heap.size_push] at this
 have e3:(s.heap.push PySem.W.emptyDict).Ns s.heap.objs.size (fun _=>none):=⟨PySem.W.emptyDict,#[],_,e1,rfl,(fun e he=>absurd he (by simp)),fun _=>rfl⟩
 have I1:=I.laid (a:=s.heap.objs.size) (o:=.own (s.heap.objs.size + 1)) (h':=s.heap.push PySem.W.emptyDict) (t':=s.toks) (fun b u q=>Heap.get?_push_of_some _ q) (Nat.le_refl _) ⟨_,e1⟩;refine I1.laid (a:=s.heap.objs.size + 1) (o:=.ins C s.heap.objs.size []) (t':=s.toks) (fun b u q=>Heap.get?_push_of_some _ q) (Nat.le_of_eq (Heap.size_push _ _)) ?_;have ne:s.heap.objs.size≠s.heap.objs.size + 1:=Nat.ne_of_lt (Nat.lt_succ_self _);refine ⟨by rw [JD ne,Jh],Nat.zero_le _,ne,e2,fun _=>none,(Heap.Ns1.of_empty e3).at fun o q=>Heap.get?_push_of_some _ q,fun _=>True.intro,fun y hy=>absurd rfl hy⟩
theorem JtY {prog:Program} {w:World} {env:Env} {e:Expr} {f:Str} {pos:Pos} {s:Shared} {Q:Value→Shared→Prop} (hb:attributeBase e f env (eval e env)=eval e env)
  (h:wpAny (model prog w) A (eval e env) (fun o s₁=>wpAny (model prog w) A (getAttr o f true) Q E s₁) E s):wpAny (model prog w) A (eval (.Attribute e f pos) env) Q E s :=
 Attribute_any_ h (by rw [arm_eval_Attribute,hb])
end
def JvW (K:PySem.W.Frag) (ta:TE) (f:Str):TE:=fun σ H Q=>ta σ H fun x H1=>∃ a C dx fs v,x=.ref a∧H1 a=some (.ins C dx fs)∧Cls K C∧YX K C f∧fs.lookup f=some v∧Q v H1
def JvZ (K:PySem.W.Frag) (ta tv:TE) (f:Str):TS:=fun D σ H=>tv σ H fun y H1=>ta σ H1 fun x H2=>∃ a C dx fs,x=.ref a∧H2 a=some (.ins C dx fs)∧Cls K C∧YX K C f∧fs.length < 1000 ∧
 D.nx σ (upd H2 a (.ins C dx (Yr f y fs)))
section
variable {X:Cx} {o e value:Expr} {f:Str} {pos pos' tpos:Pos} {ta tv:TE}
theorem Jz (he:PE X e ta) (hb:attributeBase e f X.env (eval e X.env)=eval e X.env):PE X (.Attribute e f pos) (JvW X.K ta f):=by
 intro pins s σ H Q I h;refine JtY hb (J2 (he pins s σ H _ I h) fun u s1 ⟨x,H1,I1,rx,a,C,dx,fs,v,ex,ea,c,n,l,q⟩=>?_);subst ex;obtain rfl:u=Value.ref a:=rx;exact Jpi I1 ea c n l fun u' s2 I2 ru=>⟨v,H1,I2,ru,q⟩
theorem Zv (ha:PE X o ta) (hv:PE X value tv) (hs:swapsWith value (some (.Attribute o f pos')) pos.line X.env=pure false):PS X (.Assign [.Attribute o f pos'] value pos) (JvZ X.K ta tv f):=by
 intro pins s σ H D I h;refine plainObj_wpAny_Assign_Attribute (J2 (hv pins s σ H _ I h) fun u s1 ⟨y,H1,I1,ry,q⟩=>J2 (ha pins s1 σ H1 _ I1 q) fun ov s2 ⟨x,H2,I2,rx,a,C,dx,fs,ex,ea,c,n,l,q2⟩=>?_) hs;subst ex;obtain rfl:ov=Value.ref a:=rx;exact JoS I2 ea c n l ry fun s3 I3=>⟨σ,_,I3,q2⟩
end
section
variable {X:Cx} {pins:List (Addr×Obj)} {σ:St} {H:Hp} {s:Shared} {A:Around} {E:Value→Shared→Prop} {Q:Value→Shared→Prop} {c:Value} {b:Bool}
inductive Jdr (K:PySem.W.Frag) (H:Hp):V→Value→Prop where
 | non:Jdr K H .non (.type "NoneType")
 | bl (x:Bool):Jdr K H (.bl x) (.type "bool")
 | int (i:Int):Jdr K H (.int i) (.type "int")
 | str (x:Str):Jdr K H (.str x) (.type "str")
 | flt (x:UInt64):Jdr K H (.flt x) (.type "float")
 | lst {a:Addr} {xs:List V} (e:H a=some (.lst xs)):Jdr K H (.ref a) (.type "list")
 | frz {a:Addr} {o:Obj} {xs:List V} (e:H a=some (.frz o (.lst xs))):Jdr K H (.ref a) (.type "list")
 | tup {a:Addr} {xs:List V} (e:H a=some (.tup xs)):Jdr K H (.ref a) (.type "tuple")
 | dK {a:Addr} {kvs:List (J5×V)} (e:H a=some (.dK kvs)):Jdr K H (.ref a) (.type "dict")
 | dT {a:Addr} {kvs:List (List J5×V)} (e:H a=some (.dT kvs)):Jdr K H (.ref a) (.type "dict")
 | ins {a C dx:Addr} {fs:List (Str×V)} (e:H a=some (.ins C dx fs)) (cl:Cls K C) (ha:PySem.W.findIn K (.ref C) "__class__" = some (some (.builtin "object.__class__")))
   (hn:PySem.W.specialIn K (.builtin "object.__class__") "__get__" = some (some (.builtin "getset_descriptor.__get__"))) (htk:PySem.W.takesIn K (.builtin "object.__class__")=some true)
   (hm:PySem.W.mroIn K C (.type "object")=some true):Jdr K H (.ref a) (.ref C)
theorem Jqz {x:V} {u t:Value} (I:Jq X pins σ H s) (rx:JY x u) (ty:Jdr X.K H x t) (e:PySem.W.kitOne X.K t c=some b) (h:∀ tk,Q (.bool b) { s with toks:=tk }) :
  wpAny (model X.prog X.w) A (call (.builtin "isinstance") [u,c]) Q E s:=by
 cases ty with
 | non=>cases (show u=Value.none from rx); exact PySem.W.kia_one PySem.W.kitx_none I.kIn True.intro e (fun z=>nomatch z) h
 | bl y=>cases (show u=Value.bool y from rx); exact PySem.W.kia_one PySem.W.kitx_bool I.kIn True.intro e (fun z=>nomatch z) h
 | int i=>obtain ⟨t,q⟩:=(show ∃ t,u=Value.int i t from rx); cases q; exact PySem.W.kia_one PySem.W.kitx_int I.kIn True.intro e (fun z=>nomatch z) h
 | str y=>obtain ⟨t,q⟩:=(show ∃ t,u=Value.str y t from rx); cases q; exact PySem.W.kia_one PySem.W.kitx_str I.kIn True.intro e (fun z=>nomatch z) h
 | flt y=>obtain ⟨t,q⟩:=(show ∃ t,u=Value.float y t from rx); cases q; exact PySem.W.kia_one PySem.W.kitx_float I.kIn True.intro e (fun z=>nomatch z) h
 | @lst a xs ea =>
  cases (show u=Value.ref a from rx);obtain ⟨_,_,n,_,h1⟩:=(show YO X.prog X.w H s.heap a (.lst xs) from I.hok a _ ea)
  exact PySem.W.kia_one PySem.W.kitx_list I.kIn ⟨_,h1,rfl⟩ e (fun z=>nomatch z) h
 | @frz a ob xs ea =>
  cases (show u=Value.ref a from rx);obtain ⟨_,_,_,n,_,h1⟩:=(show YO X.prog X.w H s.heap a (.frz ob (.lst xs)) from I.hok a _ ea)
  exact PySem.W.kia_one PySem.W.kitx_list I.kIn ⟨_,h1,rfl⟩ e (fun z=>nomatch z) h
 | @tup a xs ea =>
  cases (show u=Value.ref a from rx);obtain ⟨_,_,_,p⟩:=(show YO X.prog X.w H s.heap a (.tup xs) from I.hok a _ ea)
  obtain ⟨o,h1,h2,_⟩:=p;exact PySem.W.kia_one PySem.W.kitx_tuple I.kIn ⟨o,h1,h2⟩ e (fun z=>nomatch z) h
 | @dK a kvs ea =>
  cases (show u=Value.ref a from rx);obtain ⟨_,_,vs,_,p⟩:=(show YO X.prog X.w H s.heap a (.dK kvs) from I.hok a _ ea)
  obtain ⟨o,es,ep,h1,h2,_⟩:=p;exact PySem.W.kia_one PySem.W.kitx_dict I.kIn ⟨o,h1,h2.1⟩ e (fun z=>nomatch z) h
 | @dT a kvs ea =>
  cases (show u=Value.ref a from rx);obtain ⟨_,_,xs,_,o,es,ep,h1,h2,_⟩:=(show YO X.prog X.w H s.heap a (.dT kvs) from I.hok a _ ea)
  exact PySem.W.kia_one PySem.W.kitx_dict I.kIn ⟨o,h1,h2.1⟩ e (fun z=>nomatch z) h
 | @ins a C dx fs ea cl ha hn htk hm =>
  cases (show u=Value.ref a from rx);obtain ⟨mA,O,_⟩:=Jil I.hok ea;obtain ⟨od,J,_⟩:=O.look;exact PySem.W.kia_one (PySem.W.kitx_own (cl.get _) cl.hd ha hn htk hm) I.kIn J e (fun z=>nomatch z) h
end
end L2
namespace L2
open PySem PySem.Spec PyProof.Rows
structure Zm (k:Nat) (A:Around):Prop where
 hd:A.handled=none
 dp:A.depth + 3 * k + 5 < recursionLimit
 un:A.units + 16 * k + 200 < cLine
theorem Zm.mono {j k:Nat} {A:Around} (r:Zm k A) (h:j≤k):Zm j A:=⟨r.hd,by have:=r.dp; omega,by have:=r.un; omega⟩
theorem Zm.deeper {k:Nat} {A:Around} (r:Zm (k + 1) A) (env:Env):Zm k (A.deeper env) :=
 ⟨r.hd,by have:=r.dp; show A.depth + 1 + 3 * k + 5 < _; omega,by have:=r.un; show A.units + 3 + 16 * k + 200 < _; omega⟩
theorem Zm.in1 {k:Nat} {A:Around} (r:Zm (k + 1) A):Zm k A.in1 :=
 ⟨r.hd,by have:=r.dp; show A.depth + 3 * k + 5 < _; omega,by have:=r.un; show A.units + 1 + 16 * k + 200 < _; omega⟩
theorem Jpg {A:Around} {C:Addr} {us:List Value} {kw:List (Str×Value)}:(A.under (.builtin "type.__call__" ⟨.ref C :: us,kw⟩)).depth=A.depth + 1:=by
 first | rfl | simp [Around.under,Code.weight,Code.isCreation,Code.isGuard,Code.isCaller,Code.frames,Code.isFrame,guardIds]
theorem Jpf {A:Around} {C:Addr} {us:List Value} {kw:List (Str×Value)}:(A.under (.builtin "type.__call__" ⟨.ref C :: us,kw⟩)).units=A.units + 1:=by
 first | rfl | simp [Around.under,Code.cUnits,Code.frames,Code.isFrame]
theorem Zm.make {k:Nat} {A:Around} (r:Zm (k + 1) A) (C:Addr) (us:List Value) (kw:List (Str×Value)):Zm k (A.under (.builtin "type.__call__" ⟨.ref C :: us,kw⟩)) :=
 ⟨r.hd,by have:=r.dp; rw [Jpg]; omega,by have:=r.un; rw [Jpf]; omega⟩
theorem Zm.depth {k:Nat} {A:Around} (r:Zm k A):A.depth < recursionLimit:=by have:=r.dp; omega
theorem Zm.units {k:Nat} {A:Around} (r:Zm k A):A.units + 64 < cLine:=by have:=r.un; omega
theorem Zm.units0 {k:Nat} {A:Around} (r:Zm k A):A.units < cLine:=by have:=r.un; omega
def Jt5:TA:=fun _ H Q=>Q [] H
def Jve (ta:TE) (tr:TA):TA:=fun σ H Q=>ta σ H fun x H1=>tr σ H1 fun xs H2=>Q (x :: xs) H2
section
variable {X:Cx} {e:Expr} {es:List Expr} {te:TE} {t:TA} {pos:Pos}
theorem Jb:PA X [] Jt5:=fun _ _ _ _ H Q I h=>Calls.spliced_nil ⟨[],H,I,.nil,h⟩
theorem Ja (ha:PE X e te) (hr:PA X es t) (hs:starEach (e :: es) X.env=(false,eval e X.env) :: starEach es X.env:=by rfl):PA X (e :: es) (Jve te t):=by
 intro pos pins s σ H Q I h;rw [hs];show wpAny _ _ (spliced ((false,eval e X.env) :: backTo pos (starEach es X.env))) _ _ s;refine Calls.spliced_cons (J2 (ha pins s σ H _ I h) fun u s1 ⟨x,H1,I1,r1,q1⟩=>?_);exact J2 (hr pos pins s1 σ H1 _ I1 q1) fun us s2 ⟨xs,H2,I2,r2,q2⟩=>⟨x :: xs,H2,I2,.cons r1 r2,q2⟩
def JvQ (t:TA):TE:=fun σ H Q=>t σ H fun xs H1=>xs.length≤sizeLine∧∀ p,H1 p=none→Q (.ref p) (upd H1 p (.tup xs))
def JvU (t:TA):TE:=fun σ H Q=>t σ H fun xs H1=>xs.length≤sizeLine∧∀ p,H1 p=none→Q (.ref p) (upd H1 p (.lst xs))
theorem J7 {x1} (h:PA X es t):PE X (.Tuple es x1 pos) (JvQ t):=by
 intro pins s σ H Q I hq;refine wpAny_Tuple_spliced (J2 (h pos pins s σ H _ I hq) fun us s1 ⟨xs,H1,I1,r,z,q⟩=>⟨by rw [← r.length]; exact z,?_⟩);have hf:H1 s1.heap.objs.size=none:=I1.hok.fresh (Nat.le_refl _);refine ⟨.ref s1.heap.objs.size,upd H1 s1.heap.objs.size (.tup xs),I1.laid (t':=s1.toks) (fun b u e=>Heap.get?_push_of_some _ e) (Nat.le_refl _) ?_,rfl,q _ hf⟩;exact ⟨z,us,r,⟨_,Heap.get?_push_size _ rfl,rfl,_,rfl⟩⟩
theorem Y6 (h:PA X es t):PE X (.List es pos) (JvU t):=by
 intro pins s σ H Q I hq;refine wpAny_List_spliced (J2 (h pos pins s σ H _ I hq) fun us s1 ⟨xs,H1,I1,r,z,q⟩=>⟨by rw [← r.length]; exact z,?_⟩);have hf:H1 s1.heap.objs.size=none:=I1.hok.fresh (Nat.le_refl _);refine ⟨.ref s1.heap.objs.size,upd H1 s1.heap.objs.size (.lst xs),I1.laid (t':=s1.toks) (fun b u e=>Heap.get?_push_of_some _ e) (Nat.le_refl _) ?_,rfl,q _ hf⟩;exact ⟨z,us,0,r,Heap.get?_push_size _ rfl⟩
end
abbrev Sp:=List V→Hp→VK→XK→Prop
abbrev CXT:=List Env→Hp→Shared→XK→Value→Shared→Prop
structure Jgh (P:Program) (w:World) (K:PySem.W.Frag) (mg:Str→Option Value) (base:Heap) (A:Around) (outer:List Env) (s:Shared) (H:Hp):Prop where
 frames:A.frames=some outer
 mod:Mod K mg base
 bs:∀ b o,base.get? b=some o→s.heap.get? b=some o∧H b=none
 bsz:base.objs.size≤s.heap.objs.size
 funs:s.heap.FunFrames base outer
 frf:∀ b∈frs outer,H b=none
 hok:Z2 P w H s.heap
 bare:AllBare s.gens
def CE (outer:List Env) (P:Program) (w:World) (H:Hp) (s:Shared) (Q:VK) (u:Value) (s':Shared):Prop :=
 ∃ v H',s'.os=s.os∧AllBare s'.gens∧Un (frs outer) [] H H' s.heap s'.heap∧Z2 P w H' s'.heap∧JY v u∧Q v H'
def CR (CX:CXT) (outer:List Env) (P:Program) (w:World) (H:Hp) (s:Shared) (Q:VK) (E:XK) (r:Result) (s':Shared):Prop :=
 match r with
 | .ok (.ret u)=>CE outer P w H s Q u s'
 | .ok _=>False
 | .error e=>CX outer H s E e s'
structure JM (P:Program) (w:World) (K:PySem.W.Frag) (mg:Str→Option Value) (base:Heap) (CX:CXT) (k:Nat) (f:Addr) (fd:FuncData) (ps:List Str) (sp:Sp):Prop where
 len:∀ vs H Q E,sp vs H Q E→vs.length=ps.length
 run:∀ (A:Around) (outer:List Env) (s:Shared) (H:Hp) (args:Args) (us:List Value) (vs:List V) (Q:VK) (E:XK),Zm k A→Jgh P w K mg base A outer s H→BindsTo s fd args (ps.zip us)→JL vs us→sp vs H Q E →
  codeAny (model P w) A (.call (.ref f) args) (CR CX outer P w H s Q E) s
theorem JM.mono {P:Program} {w:World} {K:PySem.W.Frag} {mg:Str→Option Value} {base:Heap} {CX:CXT} {j k:Nat} {f:Addr} {fd:FuncData} {ps:List Str} {sp:Sp} (F:JM P w K mg base CX j f fd ps sp) (h:j≤k) :
  JM P w K mg base CX k f fd ps sp:=⟨F.len,fun A outer s H args us vs Q E hr=>F.run A outer s H args us vs Q E (hr.mono h)⟩
theorem JM.imp {P:Program} {w:World} {K:PySem.W.Frag} {mg:Str→Option Value} {base:Heap} {CX:CXT} {k:Nat} {f:Addr} {fd:FuncData} {ps:List Str} {sp sp':Sp} (F:JM P w K mg base CX k f fd ps sp)
  (h:∀ vs H Q E,sp' vs H Q E→sp vs H Q E):JM P w K mg base CX k f fd ps sp' :=
 ⟨fun vs H Q E q=>F.len vs H Q E (h _ _ _ _ q),fun A outer s H args us vs Q E hr he hb hv hs=>F.run A outer s H args us vs Q E hr he hb hv (h _ _ _ _ hs)⟩
theorem Jgh.make {P:Program} {w:World} {K:PySem.W.Frag} {mg:Str→Option Value} {base:Heap} {A:Around} {outer:List Env} {s:Shared} {H:Hp} (e:Jgh P w K mg base A outer s H) (C:Addr) (us:List Value) (kw:List (Str×Value)) :
  Jgh P w K mg base (A.under (.builtin "type.__call__" ⟨.ref C :: us,kw⟩)) outer s H:=⟨by first | exact e.frames | (simpa [Around.under,Code.envs,Code.isFrame,pushEnvs] using e.frames),e.mod,e.bs,e.bsz,e.funs,e.frf,e.hok,e.bare⟩
theorem Jgh.in1 {P:Program} {w:World} {K:PySem.W.Frag} {mg:Str→Option Value} {base:Heap} {A:Around} {outer:List Env} {s:Shared} {H:Hp} (e:Jgh P w K mg base A outer s H) :
  Jgh P w K mg base A.in1 outer s H:=⟨e.frames,e.mod,e.bs,e.bsz,e.funs,e.frf,e.hok,e.bare⟩
section
variable {X:Cx} {pins:List (Addr×Obj)} {σ:St} {H:Hp} {s s':Shared}
theorem Jq.env0 (I:Jq X pins σ H s):Jgh X.prog X.w X.K X.mg X.base X.A X.stack s H :=
 ⟨I.ok.frames,I.ok.mod,I.bs,Nat.le_trans I.ok.bsz I.sz,I.stack,I.stkFree,I.hok,I.bare⟩
theorem Jq.after {Q:VK} {u:Value} (I:Jq X pins σ H s) (h:CE X.stack X.prog X.w H s Q u s'):EP X pins σ Q u s':=by
 obtain ⟨v,H',os,bare,un,hok,r,q⟩:=h;obtain ⟨hh,g,d,t,os'⟩:=s';obtain rfl:os'=s.os:=os;exact ⟨v,H',I.call (h':=hh) (g':=g) (d':=d) (t':=t) (ch:=[]) un hok bare (fun b z=>absurd z (by simp)),r,q⟩
end
def JsG (sp:Sp) (dvs:List V) (E:XK) (t:TA):TE:=fun σ H Q=>t σ H fun vs H1=>sp (vs ++ dvs) H1 Q E
def JsF (C:Addr) (m:Str) (sp:Sp) (dvs:List V) (E:XK) (ta:TE) (t:TA):TE:=fun σ H Q=>ta σ H fun x H1=>∃ a dx fs,x=.ref a∧H1 a=some (.ins C dx fs)∧fs.lookup m=none ∧
 t σ H1 fun vs H2=>sp (x :: (vs ++ dvs)) H2 Q E
def Ju9 (C:Addr) (sp:Sp) (dvs:List V) (E:XK) (t:TA):TE:=fun σ H Q=>t σ H fun vs H1=>∀ x dx,H1 x=none→H1 dx=none→dx≠x →
 sp (.ref x :: (vs ++ dvs)) (upd (upd H1 dx (.own x)) x (.ins C dx [])) (fun v H2=>v=.non∧Q (.ref x) H2) E
def Jc2 (K:PySem.W.Frag) (fd:FuncData) (ps:List Str) (ds:List Value):Prop :=
 ∀ (s:Shared) (us:List Value),K.In s.heap→(us ++ ds).length=ps.length→BindsTo s fd ⟨us,[]⟩ (ps.zip (us ++ ds))
theorem Jc2.all {K:PySem.W.Frag} {fd:FuncData} {ps:List Str} (h:∀ us:List Value,us.length=ps.length→bindArgs fd ⟨us,[]⟩=pure (ps.zip us)):Jc2 K fd ps []:=fun s us _ hl=>by
 rw [List.append_nil] at hl ⊢;exact .of_eq (h us hl)
def Ja4 (CX:CXT) (X:Cx) (E:XK):Prop:=∀ (pins:List (Addr×Obj)) (σ:St) (H:Hp) (s:Shared) (e:Value) (s':Shared),Jq X pins σ H s→CX X.stack H s E e s'→X.xe e s'
section
variable {X:Cx} {CX:CXT} {k:Nat} {f C:Addr} {fd:FuncData} {ps:List Str} {sp:Sp} {dvs:List V} {ds:List Value} {E:XK} {x m:Str} {p pos apos:Pos} {e o:Expr} {es:List Expr} {ta:TE} {t:TA}
theorem JmN {pins:List (Addr×Obj)} {σ:St} {H:Hp} {s:Shared} {Q:VK} {us:List Value} {vs:List V} (F:JM X.prog X.w X.K X.mg X.base CX k f fd ps sp) (hr:Zm k X.A) (hb:Jc2 X.K fd ps ds) (hd:JL dvs ds) (hx:Ja4 CX X E)
  (I:Jq X pins σ H s) (r:JL vs us) (h:sp (vs ++ dvs) H Q E):wpAny (model X.prog X.w) X.A (call (.ref f) us) (EP X pins σ Q) X.xe s:=by
 have r2:JL (vs ++ dvs) (us ++ ds):=r.append hd;have hl:(us ++ ds).length=ps.length:=by rw [← r2.length]; exact F.len _ _ _ _ h
 refine wpAny_call (codeAny_mono (F.run X.A X.stack s H ⟨us,[]⟩ (us ++ ds) (vs ++ dvs) Q E hr I.env0 (hb s us I.kIn hl) r2 h) fun r s' hq=>?_);cases r with
 | error e=>exact hx pins σ H s e s' I hq
 | ok fl =>
  cases fl with
  | ret u=>exact I.after hq
  | next=>exact False.elim hq
  | brk=>exact False.elim hq
  | cont=>exact False.elim hq
theorem Jty (F:JM X.prog X.w X.K X.mg X.base CX k f fd ps sp) (hr:Zm k X.A) (hg:Gl X x) (hm:X.mg x=some (.ref f)) (hk:PySem.W.keepIn X.K (.ref f)=true) (hb:Jc2 X.K fd ps ds) (hd:JL dvs ds) (hx:Ja4 CX X E)
  (ha:PA X (e :: es) t) (hdb:(x == ("__debug__" : Str))=false:=by decide) (he:starEach (e :: es) X.env=(false,eval e X.env) :: starEach es X.env:=by rfl) (hpl:(backTo pos (starEach es X.env)).any (·.1)=false:=by rfl) :
  PE X (.Call (.Name x p) (e :: es) [] pos) (JsG sp dvs E t):=by
 intro pins s σ H Q I h;refine wpAny_Call_Name_kw (Jgz I hg hm ?_ hdb);refine PySem.W.callWith_K (h₀:=X.base) I.ok.mod.kin hk (J2 (ha pos pins s σ H _ I h) fun us s1 ⟨vs,H1,I1,r,q⟩=>⟨I1.kIn,?_⟩) he hpl;exact JmN F hr hb hd hx I1 r q
theorem J9 {pl:Sem Bool} (he:PE X o ta) (c:Cls X.K C) (hm:JpG X.K C m f) (F:JM X.prog X.w X.K X.mg X.base CX k f fd ps sp) (hr:Zm k X.A) (hb:Jc2 X.K fd ps ds) (hd:JL dvs ds) (hx:Ja4 CX X E) (ha:PA X (e :: es) t)
  (hst:starEach (e :: es) X.env=(false,eval e X.env) :: starEach es X.env:=by rfl) (hpl:(backTo pos (starEach es X.env)).any (·.1)=false:=by rfl)
  (ht:eval (.Call (.Attribute o m apos) (e :: es) [] pos) X.env=(do
   let ov ← eval o X.env
   standAt apos.atName
   let (f,first) ← holding [ov] (getMethod ov m pl)
   callWith pos f first (backTo pos (starEach (e :: es) X.env)) (backToKw pos (keywordEach [] X.env))):=by rfl) :
  PE X (.Call (.Attribute o m apos) (e :: es) [] pos) (JsF C m sp dvs E ta t):=by
 intro pins s σ H Q I h;refine PySem.W.methodCall_KW (pl:=pl) (J2 (he pins s σ H _ I h) fun u s1 ⟨x,H1,I1,rx,a,dx,fs,ex,ea,l,q⟩=>?_) ht;subst ex;obtain rfl:u=Value.ref a:=rx;refine JjX I1 ea c hm l ?_;refine PySem.W.callWith_K (first:=[.ref a]) (h₀:=X.base) I.ok.mod.kin hm.kp (J2 (ha pos pins s1 σ H1 _ I1 q) fun us s2 ⟨vs,H2,I2,r,q2⟩=>⟨I2.kIn,?_⟩) hst hpl;exact JmN (us:=.ref a :: us) (vs:=.ref a :: vs) F hr hb hd hx I2 (.cons rfl r) q2
theorem Zh {pl:Sem Bool} (he:PE X o ta) (c:Cls X.K C) (hm:JpG X.K C m f) (F:JM X.prog X.w X.K X.mg X.base CX k f fd ps sp) (hr:Zm k X.A) (hb:Jc2 X.K fd ps ds) (hd:JL dvs ds) (hx:Ja4 CX X E)
  (ht:eval (.Call (.Attribute o m apos) [] [] pos) X.env=(do
   let ov ← eval o X.env
   standAt apos.atName
   let (f,first) ← holding [ov] (getMethod ov m pl)
   callWith pos f first (backTo pos (starEach [] X.env)) (backToKw pos (keywordEach [] X.env))):=by rfl) :
  PE X (.Call (.Attribute o m apos) [] [] pos) (JsF C m sp dvs E ta Jt5):=by
 intro pins s σ H Q I h;refine PySem.W.methodCall_KW (pl:=pl) (J2 (he pins s σ H _ I h) fun u s1 ⟨x,H1,I1,rx,a,dx,fs,ex,ea,l,q⟩=>?_) ht;subst ex;obtain rfl:u=Value.ref a:=rx;refine JjX I1 ea c hm l ?_;exact PySem.W.callWith_K0 (first:=[.ref a]) I1.kIn hm.kp (JmN (us:=[.ref a]) (vs:=[.ref a]) F hr hb hd hx I1 (.cons rfl .nil) q)
structure Mk (K:PySem.W.Frag) (C f:Addr):Prop where
 makes:PySem.W.makesIn K C=true
 init:PySem.W.findIn K (.ref C) "__init__" = some (some (.ref f))
 fn:PySem.W.isFn K (.ref f)=true
 kp:PySem.W.keepIn K (.ref C)=true
theorem JrP {pins:List (Addr×Obj)} {σ:St} {H:Hp} {s:Shared} {Q:VK} {us:List Value} {vs:List V} (M:Mk X.K C f) (F:JM X.prog X.w X.K X.mg X.base CX k f fd ps sp) (hr:Zm (k + 1) X.A) (hb:Jc2 X.K fd ps ds) (hd:JL dvs ds)
  (hx:Ja4 CX X E) (I:Jq X pins σ H s) (r:JL vs us)
  (h:∀ x dx,H x=none→H dx=none→dx≠x→sp (.ref x :: (vs ++ dvs)) (upd (upd H dx (.own x)) x (.ins C dx [])) (fun v H2=>v=.non∧Q (.ref x) H2) E) :
  wpAny (model X.prog X.w) X.A (call (.ref C) us) (EP X pins σ Q) X.xe s:=by
 have hq:=h (s.heap.objs.size + 1) s.heap.objs.size (I.hok.fresh (Nat.le_succ _)) (I.hok.fresh (Nat.le_refl _)) (Nat.ne_of_lt (Nat.lt_succ_self _));have I2:=Jq.made (C:=C) I;have r2:JL (V.ref (s.heap.objs.size + 1) :: (vs ++ dvs)) (Value.ref (s.heap.objs.size + 1) :: (us ++ ds)):=.cons rfl (r.append hd);have hl:(Value.ref (s.heap.objs.size + 1) :: us ++ ds).length=ps.length:=by
  have e:=r2.length;rw [F.len _ _ _ _ hq] at e;exact e.symm
 refine wpAny_call (Jr6 (f:=f) I.kIn M.makes M.init (beq_iff_eq.mp M.fn) (codeAny_mono (F.run _ X.stack _ _ ⟨Value.ref (s.heap.objs.size + 1) :: us,[]⟩ (Value.ref (s.heap.objs.size + 1) :: (us ++ ds)) _ _ E (hr.make C us [])
  (I2.env0.make C us []) (hb _ (Value.ref (s.heap.objs.size + 1) :: us) I2.kIn hl) r2 hq) fun r s' hq'=>?_))
 cases r with
 | error e=>exact hx pins σ _ _ e s' I2 hq'
 | ok fl =>
  cases fl with
  | ret u =>
   obtain ⟨v,H',I3,rv,ev,q3⟩:=I2.after hq';subst ev;exact ⟨rv,⟨V.ref (s.heap.objs.size + 1),H',I3,rfl,q3⟩⟩
  | next=>exact False.elim hq'
  | brk=>exact False.elim hq'
  | cont=>exact False.elim hq'
theorem Jcv (M:Mk X.K C f) (F:JM X.prog X.w X.K X.mg X.base CX k f fd ps sp) (hr:Zm (k + 1) X.A) (hg:Gl X x) (hm:X.mg x=some (.ref C)) (hb:Jc2 X.K fd ps ds) (hd:JL dvs ds) (hx:Ja4 CX X E)
  (ha:PA X (e :: es) t) (hdb:(x == ("__debug__" : Str))=false:=by decide) (he:starEach (e :: es) X.env=(false,eval e X.env) :: starEach es X.env:=by rfl) (hpl:(backTo pos (starEach es X.env)).any (·.1)=false:=by rfl) :
  PE X (.Call (.Name x p) (e :: es) [] pos) (Ju9 C sp dvs E t):=by
 intro pins s σ H Q I h;refine wpAny_Call_Name_kw (Jgz I hg hm ?_ hdb);refine PySem.W.callWith_K (h₀:=X.base) I.ok.mod.kin M.kp (J2 (ha pos pins s σ H _ I h) fun us s1 ⟨vs,H1,I1,r,q⟩=>⟨I1.kIn,?_⟩) he hpl;exact JrP M F hr hb hd hx I1 r q
end
structure Jt (N P:List Str) (sc:Scope):Prop where
 kind:sc.kind=.function
 co:sc.isCoroutine=false
 gen:sc.isGenerator=false
 nd:N.Nodup
 pre:N.take P.length=P
 par:∀ x∈P,sc.names.lookup x=some .local∨sc.names.lookup x=some .cell
 nofree:∀ y∈sc.names,y.2≠.free
theorem JlO {kindOf:Str→Option NameKind} {x:Str}:∀ {binds:List (Str×Value)} {m:Str→Option Value},(∀ v,(x,v)∉binds)→bindL kindOf binds m x=m x
 | [],_,_=>rfl
 | (n,v) :: r,m,h=>by
  unfold bindL;rw [JlO fun w hw=>h w (List.mem_cons_of_mem _ hw)];split
  ·have:x≠n:=by rintro rfl; exact h v List.mem_cons_self
   simp [this]
  ·rfl
theorem JlQ {kindOf:Str→Option NameKind} {x:Str}:∀ {binds:List (Str×Value)} {m:Str→Option Value},(∀ v,(x,v)∉binds)→bindC kindOf binds m x=m x
 | [],_,_=>rfl
 | (n,v) :: r,m,h=>by
  unfold bindC;rw [JlQ fun w hw=>h w (List.mem_cons_of_mem _ hw)];split
  ·rfl
  ·have:x≠n:=by rintro rfl; exact h v List.mem_cons_self
   simp [this]
theorem JlP {kindOf:Str→Option NameKind} {x:Str} {v:Value}:∀ {P:List Str} {vs:List Value} {i:Nat} {m:Str→Option Value},P.Nodup→P[i]?=some x→vs[i]?=some v→kindOf x=some .local →
  bindL kindOf (P.zip vs) m x=some v
 | [],_,_,_,_,h,_,_=>by simp at h
 | _ :: _,[],_,_,_,_,h,_=>by simp at h
 | p :: P,w :: vs,0,m,nd,h1,h2,hk=>by
  simp at h1 h2; subst h1; subst h2;show bindL kindOf ((p,w) :: P.zip vs) m p=_;unfold bindL;rw [JlO fun v hv=>(List.nodup_cons.mp nd).1 (List.of_mem_zip hv).1,if_pos hk];simp
 | p :: P,w :: vs,i + 1,m,nd,h1,h2,hk=>by
  show bindL kindOf ((p,w) :: P.zip vs) m x=_;unfold bindL;exact JlP (i:=i) (List.nodup_cons.mp nd).2 (by simpa using h1) (by simpa using h2) hk
theorem JlR {kindOf:Str→Option NameKind} {x:Str} {v:Value}:∀ {P:List Str} {vs:List Value} {i:Nat} {m:Str→Option Value},P.Nodup→P[i]?=some x→vs[i]?=some v→kindOf x≠some .local →
  bindC kindOf (P.zip vs) m x=some v
 | [],_,_,_,_,h,_,_=>by simp at h
 | _ :: _,[],_,_,_,_,h,_=>by simp at h
 | p :: P,w :: vs,0,m,nd,h1,h2,hk=>by
  simp at h1 h2; subst h1; subst h2;show bindC kindOf ((p,w) :: P.zip vs) m p=_;unfold bindC;rw [JlQ fun v hv=>(List.nodup_cons.mp nd).1 (List.of_mem_zip hv).1,if_neg hk];simp
 | p :: P,w :: vs,i + 1,m,nd,h1,h2,hk=>by
  show bindC kindOf ((p,w) :: P.zip vs) m x=_;unfold bindC;exact JlR (i:=i) (List.nodup_cons.mp nd).2 (by simpa using h1) (by simpa using h2) hk
def YZ (N:List Str) (vs:List V):St:=vs.map some ++ List.replicate (N.length - vs.length) none
def Jah (CX:CXT) (P:Program) (w:World) (K:PySem.W.Frag) (mg:Str→Option Value) (base:Heap) (N:List Str) (qual:Str) (scope:Scope) (f:Addr) (cd:Value) (A:Around) (outer:List Env) (s:Shared) (H:Hp) (E:XK):Cx where
 prog:=P
 w:=w
 K:=K
 mg:=mg
 base:=base
 A:=A.deeper (envOfC qual scope s.heap.objs.size f cd)
 N:=N
 s₀:=s
 H₀:=H
 env:=envOfC qual scope s.heap.objs.size f cd
 outer:=outer
 stack:=envOfC qual scope s.heap.objs.size f cd :: outer
 ex:=[]
 calm:=true
 fn:=fun _=>true
 pn:=[]
 xe:=fun e s'=>wpAny (model P w) (A.deeper (envOfC qual scope s.heap.objs.size f cd)) (leaving (envOfC qual scope s.heap.objs.size f cd) e) (fun _ s''=>CX outer H s E e s'') (fun e' s''=>CX outer H s E e' s'') s'
theorem JnA {sc:Scope} {n:Nat} {x:Str} (h:sc.names.lookup x=some .cell):∃ c,(cellsFrom n sc.names []).lookup x=some c:=by
 have q:=PySem.W.cellsFrom_some sc.names n [] (.inl h);exact Option.isSome_iff_exists.mp q
theorem JqA {CX:CXT} {P:Program} {w:World} {K:PySem.W.Frag} {mg:Str→Option Value} {base:Heap} {N ps:List Str} {qual:Str} {scope:Scope} {f:Addr} {cd:Value} {A:Around} {outer:List Env} {s s1:Shared} {H:Hp} {E:XK} {us:List Value} {vs:List V}
  (S:Jt N ps scope) (hd:A.handled=none) (e0:Jgh P w K mg base A outer s H) (hl:vs.length=ps.length) (r:JL vs us)
  (x:InCallC s s.heap.objs.size (bindL (envOfC qual scope s.heap.objs.size f cd).kindOf (ps.zip us) fun _=>none) (cellsFrom (s.heap.objs.size + 1) scope.names []) (bindC (envOfC qual scope s.heap.objs.size f cd).kindOf (ps.zip us) fun _=>none) s1) :
  Jq (Jah CX P w K mg base N qual scope f cd A outer s H E) [] (YZ N vs) H s1:=by
 have hpl:ps.length≤N.length:=by have:=congrArg List.length S.pre; rw [List.length_take] at this; omega
 obtain ⟨h1,tk,rfl,hk⟩:=x.done;have noA:∀ b:Addr,b∉(Jah CX P w K mg base N qual scope f cd A outer s H E).ex:=fun b z=>absurd (show b∈([]:List Addr) from z) (by simp)
 refine ⟨⟨e0.mod,S.kind,rfl,rfl,Nat.le_refl _,fun y z c h1 h2=>?_,fun y hy=>?_,fun y c _ h=>?_,fun _=>hd,Around.frames_deeper e0.frames,.inr ⟨rfl,rfl⟩,fun b z=>absurd z (noA b),e0.bs,e0.bsz,fun b _ _=>noA b,fun b z=>absurd z (noA b),e0.funs,e0.frf⟩,
  rfl,e0.bare,Un.kept hk,⟨_,x.toInCall.ns,fun i y v h1 h2 h3=>?_⟩,fun y c h=>⟨_,x.cell y c h⟩,e0.hok.fresh (Nat.le_refl _),fun y c h=>?_,fun p hp=>absurd (show p∈([]:List (Addr×Obj)) from hp) (by simp),e0.hok.kept hk,?_⟩
 ·exact name_of_addr x.apart (PySem.mem_of_lookup h1) (PySem.mem_of_lookup h2)
 ·have hy:scope.names.lookup y=some .cell∨scope.names.lookup y=some .free:=hy;rcases hy with hy | hy
  ·exact JnA hy
  ·exact absurd rfl (S.nofree _ (PySem.mem_of_lookup hy))
 ·exact Nat.le_of_lt (x.above y c (PySem.mem_of_lookup h))
 ·have hi:i < vs.length:=by
   unfold YZ at h2;by_cases hi:i < vs.length
   ·exact hi
   ·rw [List.getElem?_append_right (by simpa using hi)] at h2;rw [List.getElem?_replicate] at h2;split at h2 <;> cases h2
  have ha:vs[i]?=some v:=by
   unfold YZ at h2;rw [List.getElem?_append_left (by simpa using hi),List.getElem?_map] at h2;cases e:vs[i]? with
   | none=>rw [e] at h2; cases h2
   | some a=>rw [e] at h2; cases h2; rfl
  obtain ⟨u,hu,rv⟩:=r.get ha;have hp:ps[i]?=some y:=by
   rw [← S.pre,List.getElem?_take_of_lt (by omega)]; exact h1
  have ndP:ps.Nodup:=by rw [← S.pre]; exact S.nd.sublist (List.take_sublist _ _)
  refine ⟨u,rv,?_⟩;rcases S.par y (List.mem_of_getElem? hp) with k | k
  ·exact .inl ⟨k,JlP ndP hp hu k⟩
  ·obtain ⟨c,e⟩:=JnA (n:=s.heap.objs.size + 1) k;refine .inr ⟨.inl k,c,e,?_⟩;have q:=x.cell y c e;rw [JlR ndP hp hu (by show scope.names.lookup y≠_; rw [k]; decide)] at q;exact q
 ·exact e0.hok.fresh (Nat.le_of_lt (x.above y c (PySem.mem_of_lookup h)))
 ·unfold YZ;show _=N.length;rw [List.length_append,List.length_map,List.length_replicate];omega
theorem JsO {CX:CXT} {P:Program} {w:World} {K:PySem.W.Frag} {mg:Str→Option Value} {base:Heap} {k:Nat} {f:Addr} {name qual:Str} {params:Arguments} {body:List Stmt} {scope:Scope} {dV kV doc pm cdv ct oc:Value} {an od:Option Addr}
  {osl:Array (Option Value)} {N ps:List Str} {sp:Sp} (lk:K.lookup f=some ⟨oc,od,.func (PySem.W.fnOf name qual params body scope dV kV doc pm an cdv ct),osl⟩) (hcd:PySem.W.codeIn K cdv qual=true) (S:Jt N ps scope)
  (len:∀ vs H Q E,sp vs H Q E→vs.length=ps.length)
  (hbody:∀ (A:Around) (outer:List Env) (s:Shared) (H:Hp) (vs:List V) (Q:VK) (E:XK),Zm k (A.deeper (envOfC qual scope s.heap.objs.size f cdv))→sp vs H Q E →
   ∃ t,PSs (Jah CX P w K mg base N qual scope f cdv A outer s H E) body t∧t { nx:=fun _ H'=>Q .non H',rt:=Q } (YZ N vs) H) :
  JM P w K mg base CX (k + 1) f (PySem.W.fnOf name qual params body scope dV kV doc pm an cdv ct) ps sp:=by
 refine ⟨len,fun A outer s H args us vs Q E hr e0 hb r hsp=>?_⟩;have hl:=len _ _ _ _ hsp;have KX:K.In s.heap:=e0.mod.kin.keeps fun b o e=>(e0.bs b o e).1
 have lim:s.heap.NoLimit:=e0.mod.nolimit.keeps fun b o e=>(e0.bs b o e).1
 have hkind:∀ y∈ps.zip us,scope.names.lookup y.1=some .local∨(scope.names.lookup y.1=some .cell∧((cellsFrom (s.heap.objs.size + 1) scope.names []).lookup y.1).isSome=true):=fun ⟨n,v⟩ hy=>by
  rcases S.par n (List.of_mem_zip hy).1 with q | q
  ·exact .inl q
  ·exact .inr ⟨q,PySem.W.cellsFrom_some _ _ _ (.inl q)⟩
 refine codeAny_call_function hr.depth (KX _ _ lk) rfl S.co S.gen rfl (PySem.W.codeRec_of KX hcd) (hb _ _ _ _ ?_);refine wpAny_newFunctionEnv_cells S.kind hkind fun env he s1 x=>?_
 subst he;refine ⟨lim.keeps x.toInCall.keep,codeAny_func ?_⟩;obtain ⟨t,ht,hq⟩:=hbody A outer s H vs Q E (hr.deeper _) hsp;have I:Jq (Jah CX P w K mg base N qual scope f cdv A outer s H E) [] (YZ N vs) H s1:=JqA S hr.hd e0 hl r x;refine wpAny_mono (ht [] s1 (YZ N vs) H _ I hq) (fun fl s' hs=>?_) fun e s' hs=>hs
 have fin:∀ {σ':St} {H':Hp} {v:V} {u:Value},Jq (Jah CX P w K mg base N qual scope f cdv A outer s H E) [] σ' H' s'→JY v u→Q v H'→CE outer P w H s Q u s' :=
  fun {σ' H' v u} J rv q=>⟨v,H',J.os,J.bare,J.base,J.hok,rv,q⟩
 cases fl with
 | ret u =>
  obtain ⟨v,σ',H',J,rv,q⟩:=hs;exact fin J rv q
 | next =>
  obtain ⟨σ',H',J,q⟩:=hs;exact fin (v:=V.non) (u:=Value.none) J rfl q
 | brk =>
  obtain ⟨_,_,_,q⟩:=hs;exact False.elim q
 | cont =>
  obtain ⟨_,_,_,q⟩:=hs;exact False.elim q
end L2
namespace L2
open PySem PySem.Spec PyProof.Rows
section
variable {X:Cx} {x:Str} {p pos:Pos} {e:Expr} {es:List Expr} {t:TA} {id T:String} {r:List V→Hp→VK→Prop}
def tCB (r:List V→Hp→VK→Prop) (t:TA):TE:=fun σ H Q=>t σ H fun vs H1=>r vs H1 Q
theorem JF (hc:Yx X (.builtin id) r) (hg:Gl X x) (hm:X.mg x=none) (hv:bootBuiltins x=some (.builtin id)) (ha:PA X (e :: es) t) (hn:x ≠ "__name__":=by decide) (hdb:(x == ("__debug__" : Str))=false:=by decide)
  (he:starEach (e :: es) X.env=(false,eval e X.env) :: starEach es X.env:=by rfl) (hpl:(backTo pos (starEach es X.env)).any (·.1)=false:=by rfl):PE X (.Call (.Name x p) (e :: es) [] pos) (tCB r t):=by
 intro pins s σ H Q I h;refine wpAny_Call_Name_kw (JhK I hg hm hv ?_ hn hdb);exact PyProof.Rows.callWith_builtin1 (J2 (ha pos pins s σ H _ I h) fun us s1 ⟨vs,H1,I1,r1,q1⟩=>hc pins s1 σ H1 vs us Q I1 r1 q1) he hpl
theorem Z1 (hc:Yx X (.type T) r) (hg:Gl X x) (hm:X.mg x=none) (hv:bootBuiltins x=some (.type T)) (ha:PA X (e :: es) t) (hn:x ≠ "__name__":=by decide) (hdb:(x == ("__debug__" : Str))=false:=by decide)
  (he:starEach (e :: es) X.env=(false,eval e X.env) :: starEach es X.env:=by rfl) (hpl:(backTo pos (starEach es X.env)).any (·.1)=false:=by rfl):PE X (.Call (.Name x p) (e :: es) [] pos) (tCB r t):=by
 intro pins s σ H Q I h;refine wpAny_Call_Name_kw (JhK I hg hm hv ?_ hn hdb);exact PyProof.Rows.callWith_type1 (J2 (ha pos pins s σ H _ I h) fun us s1 ⟨vs,H1,I1,r1,q1⟩=>hc pins s1 σ H1 vs us Q I1 r1 q1) he hpl
end
end L2
namespace HT
open PySem PyProof.Rows
section
variable {prog:Program} {w:World} {A:Around} {E:Value→Shared→Prop} {s:Shared}
theorem JtW {t b:Addr} {vs ws:List Value} {Q:Value→Shared→Prop} (ht:IsTup s.heap t vs.toArray) (hb:IsTup s.heap b ws.toArray) (hv:vs≠[])
  (h1:ws=[]→Q (.ref t) s) (h2:ws≠[]→Q (.ref s.heap.objs.size) { s with heap:=s.heap.push { cls:=.type "tuple",data:=.seq (vs ++ ws).toArray } })
  (hsz:vs.length + ws.length≤sizeLine):wpAny (model prog w) A (binaryOp .Add (.ref t) (.ref b)) Q E s:=by
 obtain ⟨⟨cls,dd,data,sl⟩,ho,hc,n,hd⟩:=id ht;obtain ⟨⟨cls2,dd2,data2,sl2⟩,ho2,hc2,n2,hd2⟩:=id hb;simp only at hc hd hc2 hd2;subst hc hd hc2 hd2;have e:vs.toArray ++ ws.toArray=(vs ++ ws).toArray:=by simp
 by_cases hw:ws=[]
 ·exact concat_meets ⟨_,ho,rfl⟩ ⟨_,ho2,rfl⟩ noFill_tuple_add seq_tuple_add PySem.F.slot_tuple_add PySem.F.entry_tuple_add (PySem.F.args_tuple_add_2 _ _)
   (tuple_addW1 t b vs.toArray ws.toArray n n2 dd dd2 sl sl2 (by simpa using hv) (by simp [hw])) ⟨ho,ho2,h1 hw⟩
 ·refine concat_meets ⟨_,ho,rfl⟩ ⟨_,ho2,rfl⟩ noFill_tuple_add seq_tuple_add PySem.F.slot_tuple_add PySem.F.entry_tuple_add (PySem.F.args_tuple_add_2 _ _)
   (tuple_addW2 t b vs.toArray ws.toArray n n2 dd dd2 sl sl2 (by simpa using hv) (by simpa using hw) (by rw [List.size_toArray,List.size_toArray]; exact hsz)) ⟨ho,ho2,?_⟩
  rw [e];exact h2 hw
def YB (n d:Nat):Option Int→Nat
 | none=>d
 | some v=>if v < 0 then (v + (n:Int)).toNat else min v.toNat n
theorem JmL (n d:Nat):YB n d none=d:=rfl
theorem Joc (n d k:Nat):YB n d (some (k:Int))=min k n:=by
 show (if (k:Int) < 0 then ((k:Int) + (n:Int)).toNat else min (k:Int).toNat n)=min k n;rw [if_neg (by omega),Int.toNat_natCast]
theorem Jul (n d:Nat) (hd:d≤n) (o:Option Int):YB n d o≤n:=by
 cases o with
 | none=>exact hd
 | some v =>
  show (if v < 0 then (v + (n:Int)).toNat else min v.toNat n)≤n;by_cases hv:v < 0
  ·rw [if_pos hv]; omega
  ·rw [if_neg hv]; exact Nat.min_le_right _ _
theorem Joy (v:Int) (n d:Nat):(if v < 0 then max (v + (n:Int)) 0 else min v (n:Int))=((YB n d (some v):Nat):Int):=by
 show (if v < 0 then max (v + (n:Int)) 0 else min v (n:Int))=(((if v < 0 then (v + (n:Int)).toNat else min v.toNat n):Nat):Int)
 by_cases hv:v < 0
 ·simp only [if_pos hv]; omega
 ·simp only [if_neg hv]; omega
theorem JpD (lo hi:Option Int) (n:Nat):Builtin.Slice.sliceAdjust lo hi 1 (n:Int)=(((YB n 0 lo:Nat):Int),((YB n n hi:Nat):Int)):=by
 have h1:¬ ((1:Int) < 0):=by omega
 unfold Builtin.Slice.sliceAdjust;simp only [h1,if_false];refine Prod.ext ?_ ?_
 ·cases lo with
  | none=>rfl
  | some v=>exact Joy v n 0
 ·cases hi with
  | none=>rfl
  | some v=>exact Joy v n n
theorem Jo4 (i j:Nat):Builtin.Slice.slicePlaces (i:Int) (j:Int) 1=j - i:=by
 unfold Builtin.Slice.slicePlaces;have h1:(1:Int) > 0:=by omega
 simp only [h1,if_true,Int.ediv_one];split <;> omega
theorem JjA {v:Value} {o:Option Int} {Q:Option Int→Shared→Prop} (p:IsPart v o) (h:Q o s):wpAny (model prog w) A (Builtin.Slice.slicePartIndex v) Q E s:=by
 cases p with
 | none=>exact slicePart_none h
 | int i t=>exact slicePart_int h
theorem JiP {sl:Addr} {vl vu:Value} {lo hi:Option Int} {n:Nat} {Q:Int×Int×Nat→Shared→Prop} (hs:s.heap.IsSliceOf sl vl vu .none) (pl:IsPart vl lo) (pu:IsPart vu hi)
  (h:Q (((YB n 0 lo:Nat):Int),1,YB n n hi - YB n 0 lo) s):wpAny (model prog w) A (Builtin.Slice.sliceApplied (.ref sl) (pure (n:Int))) Q E s:=by
 obtain ⟨os,hos,hcs,hds⟩:=id hs;unfold Builtin.Slice.sliceApplied Builtin.Slice.sliceFields;refine wpAny_bind (wpAny_bind (wpAny_field hos hds (x:=vl) rfl (wpAny_bind (wpAny_field hos hds (x:=vu) rfl (wpAny_bind (wpAny_field hos hds (x:=.none) rfl (wpAny_pure ?_)))))));refine wpAny_bind (slicePart_none ?_);show wpAny _ _ (if ((1:Int) == 0)=true then _ else _) _ _ s;rw [if_neg (by decide)];refine wpAny_bind (JjA pl (wpAny_bind (JjA pu (wpAny_bind (wpAny_pure ?_)))));show wpAny _ _ (match Builtin.Slice.sliceAdjust lo hi 1 (n:Int) with | (lo,hi)=>pure (lo,(1:Int),Builtin.Slice.slicePlaces lo hi 1)) _ _ s;rw [JpD lo hi n];show wpAny _ _ (pure (((YB n 0 lo:Nat):Int),(1:Int),Builtin.Slice.slicePlaces ((YB n 0 lo:Nat):Int) ((YB n n hi:Nat):Int) 1)) _ _ s;rw [Jo4];exact wpAny_pure h
theorem JrT (xs:Array Value) (i k:Nat):((List.range k).filterMap fun (m:Nat)=>xs[((i:Int) + (m:Int) * 1).toNat]?).toArray=((xs.toList.drop i).take k).toArray:=by
 have e:(fun (m:Nat)=>xs[((i:Int) + (m:Int) * 1).toNat]?)=fun m=>xs[i + m]?:=by
  funext m;have:((i:Int) + (m:Int) * 1).toNat=i + m:=by omega
  rw [this]
 rw [e];have:=pick_run xs i k;rw [List.filterMap_map] at this;have e2:((fun x=>xs[x]?) ∘ fun x=>i + x)=fun m=>xs[i + m]?:=rfl
 rw [e2] at this;rw [this]
theorem Jiz {t sl:Addr} {items:Array Value} {vl vu:Value} {lo hi:Option Int} {Q:Value→Shared→Prop} (ht:IsTup s.heap t items) (hs:s.heap.IsSliceOf sl vl vu .none) (pl:IsPart vl lo) (pu:IsPart vu hi)
  (hw:¬ (YB items.size 0 lo=0∧YB items.size items.size hi=items.size))
  (h:Q (.ref s.heap.objs.size) { s with heap:=s.heap.push { cls:=.type "tuple",data:=.seq ((items.toList.drop (YB items.size 0 lo)).take (YB items.size items.size hi - YB items.size 0 lo)).toArray } })
  (hsz:items.size≤sizeLine):wpAny (model prog w) A (getItem (.ref t) (.ref sl)) Q E s:=by
 have htake:sizeOk (.seq ((items.toList.drop (YB items.size 0 lo)).take (YB items.size items.size hi - YB items.size 0 lo)).toArray):=by
  show ((items.toList.drop (YB items.size 0 lo)).take (YB items.size items.size hi - YB items.size 0 lo)).toArray.size≤sizeLine;rw [List.size_toArray,List.length_take,List.length_drop,Array.length_toList];omega
 have hj:YB items.size items.size hi≤items.size:=Jul _ _ (Nat.le_refl _) hi;obtain ⟨os,hos,hcs,hds⟩:=id hs;have hTs:s.TypeIs (.ref sl) "slice":=⟨os,hos,hcs⟩
 unfold getItem
 try with_reducible refine wpAny_holding ?_
 first | refine wpAny_bind (wpAny_pure ?_) | skip
 refine wpAny_bind (wpAny_sequenceKey ht.typeIs (by decide) ?_);refine wpAny_bind (wpAny_callSpecial?_slot (name:=Str.ofString "__getitem__") ht.typeIs PyProof.Rows.slot_tuple_getitem
  (wpAny_call_entry PyProof.Rows.slot_tuple_getitem ht.typeIs entry_tuple_getitem ?_ (args_tuple_getitem _ _)))
 show wpAny _ _ (Builtin.Tuple.tupleItemsOf (.ref t) >>= _) _ _ s;refine wpAny_bind (tupleItemsOf_ ht ?_);refine wpAny_bind (wpAny_typeOf hTs ?_);rw [if_pos (by decide)];refine wpAny_bind (JiP hs pl pu ?_);have hno:¬ ((((YB items.size 0 lo:Nat):Int) == 0 && (1:Int) == 1 && (YB items.size items.size hi - YB items.size 0 lo) == items.size)=true):=by
  intro q;rw [Bool.and_eq_true,Bool.and_eq_true] at q;have q1:((YB items.size 0 lo:Nat):Int)=0:=eq_of_beq q.1.1;have q2:YB items.size items.size hi - YB items.size 0 lo=items.size:=eq_of_beq q.2;exact hw ⟨by omega,by omega⟩
 show wpAny _ _ (if (((YB items.size 0 lo:Nat):Int) == 0 && (1:Int) == 1 && (YB items.size items.size hi - YB items.size 0 lo) == items.size)=true then _ else _) _ _ s;rw [if_neg hno,JrT]
 first
  | exact wpAny_bind (m:=Builtin.Tuple.tupleExact _) (wpAny_newObj_type (wpAny_pure ⟨_,rfl,wpAny_pure h⟩) htake)
  | exact wpAny_bind (m:=Builtin.Tuple.tupleExact _) (wpAny_newObj_type (wpAny_bind (wpAny_pure (wpAny_pure ⟨_,rfl,wpAny_pure h⟩))) htake)
  | exact wpAny_bind (wpAny_bind (m:=Builtin.Tuple.tupleExact _) (wpAny_newObj_type (wpAny_pure (wpAny_pure ⟨_,rfl,wpAny_pure h⟩)) htake))
  | exact wpAny_bind (wpAny_bind (m:=Builtin.Tuple.tupleExact _) (wpAny_newObj_type (wpAny_pure ⟨_,rfl,wpAny_pure h⟩) htake))
end
end HT
namespace L2
open PySem PySem.Spec PyProof.Rows
abbrev TO:=St→Hp→(Option Int→Hp→Prop)→Prop
def PO (X:Cx) (e:Option Expr) (t:TO):Prop :=
 ∀ (pins:List (Addr×Obj)) (s:Shared) (σ:St) (H:Hp) (Q:Option Int→Hp→Prop),Jq X pins σ H s→t σ H Q →
  wpAny (model X.prog X.w) X.A (evalPart e X.env) (fun u s'=>∃ o H',Jq X pins σ H' s'∧IsPart u o∧Q o H') X.xe s
def Js0:TO:=fun _ H Q=>Q none H
def Ju5 (t:TE):TO:=fun σ H Q=>t σ H fun x H1=>∃ i,x=.int i∧Q (some i) H1
section
variable {X:Cx} {e:Expr} {te:TE} {lo hi:Option Expr} {tl th:TO} {pos p2:Pos}
theorem Jgq:PO X none Js0:=by
 intro pins s σ H Q I h;rw [evalPart_none];exact wpAny_pure ⟨none,H,I,.none,h⟩
theorem JbF (h:PE X e te):PO X (some e) (Ju5 te):=by
 intro pins s σ H Q I hw;rw [evalPart_some];refine J2 (h pins s σ H _ I hw) fun u s1 ⟨x,H1,I1,r1,q1⟩=>?_
 obtain ⟨i,rfl,q⟩:=q1;obtain ⟨t,rfl⟩:=r1;exact ⟨some i,H1,I1,.int i t,q⟩
def SlR (X:Cx) (r:V→Option Int→Option Int→Hp→VK→Prop):Prop :=
 ∀ (pins:List (Addr×Obj)) (s:Shared) (σ:St) (H:Hp) (x:V) (v vl vu:Value) (lo hi:Option Int) (sl:Addr) (Q:VK),Jq X pins σ H s→JY x v→s.heap.IsSliceOf sl vl vu .none→IsPart vl lo→IsPart vu hi→r x lo hi H Q →
  ∃ T id,typeLookup (.type T) "__getitem__" = pure (some (.builtin id))∧s.TypeIs v T∧wpAny (model X.prog X.w) X.A (getItem v (.ref sl)) (EP X pins σ Q) X.xe s
theorem SlR.or {r r':V→Option Int→Option Int→Hp→VK→Prop} (h:SlR X r) (h':SlR X r'):SlR X (fun x lo hi H Q=>r x lo hi H Q∨r' x lo hi H Q):=by
 intro pins s σ H x v vl vu lo hi sl Q I rx hs pl pu q;rcases q with q | q
 ·exact h pins s σ H x v vl vu lo hi sl Q I rx hs pl pu q
 ·exact h' pins s σ H x v vl vu lo hi sl Q I rx hs pl pu q
def tSl (r:V→Option Int→Option Int→Hp→VK→Prop) (te:TE) (tl th:TO):TE:=fun σ H Q=>te σ H fun x H1=>tl σ H1 fun l H2=>th σ H2 fun u H3=>r x l u H3 Q
theorem Jcj {r:V→Option Int→Option Int→Hp→VK→Prop} (hr:SlR X r) (he:PE X e te) (hl:PO X lo tl) (hu:PO X hi th):PE X (.Subscript e (.Slice lo hi none p2) pos) (tSl r te tl th):=by
 intro pins s σ H Q I h;refine Subscript_ (J2 (he pins s σ H _ I h) fun v s1 ⟨x,H1,I1,r1,q1⟩=>?_);refine wpAny_Slice (J2 (hl pins s1 σ H1 _ I1 q1) fun vl s2 ⟨l,H2,I2,pl,q2⟩=>J2 (hu pins s2 σ H2 _ I2 q2) fun vu s3 ⟨u,H3,I3,pu,q3⟩=>?_);rw [evalPart_none];refine wpAny_pure ?_;have I4:Jq X pins σ H3 { s3 with heap:=s3.heap.push { cls:=.type "slice",data:=.fields #[vl,vu,.none] } }:=I3.kept (t':=s3.toks) fun b ob q=>Heap.get?_push_of_some _ q
 obtain ⟨T,id,hT,ht,hg⟩:=hr pins { s3 with heap:=s3.heap.push { cls:=.type "slice",data:=.fields #[vl,vu,.none] } } σ H3 x v vl vu l u s3.heap.objs.size Q I4 r1 (Heap.IsSliceOf.new ..) pl pu q3;show wpAny (model X.prog X.w) X.A (subscriptTail e (.Slice lo hi none p2) v (.ref s3.heap.objs.size)) (EP X pins σ Q) X.xe { s3 with heap:=s3.heap.push { cls:=.type "slice",data:=.fields #[vl,vu,.none] } };exact tail_any (ops:=[.ref s3.heap.objs.size,v]) ht hT hg (by with_unfolding_all rfl)
def ZB (xs:List V) (lo hi:Option Int):List V:=(xs.drop (HT.YB xs.length 0 lo)).take (HT.YB xs.length xs.length hi - HT.YB xs.length 0 lo)
theorem JdB (xs:List V) (lo hi:Option Int):(ZB xs lo hi).length≤xs.length:=by
 unfold ZB;rw [List.length_take,List.length_drop];omega
def Jv0 (K:PySem.W.Frag):V→Option Int→Option Int→Hp→VK→Prop:=fun x lo hi H Q=>∃ a xs,x=.ref a∧JH K H a xs ∧
 ¬ (HT.YB xs.length 0 lo=0∧HT.YB xs.length xs.length hi=xs.length)∧∀ p,H p=none→Q (.ref p) (upd H p (.tup (ZB xs lo hi)))
theorem Jug:SlR X (Jv0 X.K):=by
 intro pins s σ H x v vl vu lo hi sl Q I rx hs pl pu h;obtain ⟨a,xs,rfl,hx,hw,q⟩:=h;cases rx;obtain ⟨its,r,ht,hz⟩:=I.tuple hx;have hlen:its.toArray.size=xs.length:=by rw [List.size_toArray]; exact r.length.symm
 refine ⟨"tuple",_,PyProof.Rows.slot_tuple_getitem.lookup,ht.typeIs,?_⟩;refine HT.Jiz ht hs pl pu (by rw [hlen]; exact hw) ?_ (by rw [hlen]; exact hz);rw [hlen];refine ⟨.ref s.heap.objs.size,_,I.laid (t':=s.toks) (o:=.tup (ZB xs lo hi)) (fun b ob q=>Heap.get?_push_of_some _ q) (Nat.le_refl _) ?_,rfl,q _ (I.hok.fresh (Nat.le_refl _))⟩;exact ⟨Nat.le_trans (JdB xs lo hi) hz,_,(r.drop (HT.YB xs.length 0 lo)).take (HT.YB xs.length xs.length hi - HT.YB xs.length 0 lo),IsTup.new _ _⟩
def Jvq (K:PySem.W.Frag):R2:=fun x y H Q=>∃ a b xs ys,x=.ref a∧y=.ref b∧JH K H a xs∧JH K H b ys∧xs≠[]∧xs.length + ys.length≤sizeLine ∧
 (ys=[]→Q (.ref a) H)∧(ys≠[]→∀ p,H p=none→Q (.ref p) (upd H p (.tup (xs ++ ys))))
theorem JL.nil_iff {xs:List V} {us:List Value} (r:JL xs us):us=[]↔xs=[]:=by
 cases r with
 | nil=>simp
 | cons _ _=>simp
theorem JtB:ZT X (binaryOp .Add) (Jvq X.K):=by
 intro pins s σ H x y v u Q I rx ry h;obtain ⟨a,b,xs,ys,rfl,rfl,ha,hb,hx,hz,q1,q2⟩:=h;cases rx;cases ry;obtain ⟨its,r1,p1,_⟩:=I.tuple ha;obtain ⟨its2,r2,p2,_⟩:=I.tuple hb;refine HT.JtW p1 p2 (fun z=>hx (r1.nil_iff.mp z)) (fun z=>⟨.ref a,H,I,rfl,q1 (r2.nil_iff.mp z)⟩) (fun z=>?_) (by rw [← r1.length,← r2.length]; exact hz);refine ⟨.ref s.heap.objs.size,_,I.laid (t':=s.toks) (o:=.tup (xs ++ ys)) (fun b ob q=>Heap.get?_push_of_some _ q) (Nat.le_refl _) ?_,rfl,q2 (fun w=>z (r2.nil_iff.mpr w)) _ (I.hok.fresh (Nat.le_refl _))⟩;exact ⟨by rw [List.length_append]; exact hz,_,r1.append r2,IsTup.new _ _⟩
end
end L2
namespace L2
open PySem PySem.Spec PyProof.Rows
def ixN (n:Nat) (i:Int):Option Nat:=if 0≤i then (if i < n then some i.toNat else none) else if -(n:Int)≤i then some (i + n).toNat else none
def atI {α:Type} (xs:List α) (i:Int):Option α:=(ixN xs.length i).bind fun j=>xs[j]?
theorem Jol {n:Nat} {i:Int} {j:Nat} (h:ixN n i=some j):seqIndex? i n=some j∧j < n∧-(n:Int)≤i∧i < n:=by
 unfold ixN at h;by_cases h0:0≤i
 ·rw [if_pos h0] at h;by_cases h1:i < n
  ·rw [if_pos h1] at h;have e:i.toNat=j:=Option.some.inj h;exact ⟨by rw [seqIndex_of h0 h1,e],by omega,by omega,h1⟩
  ·rw [if_neg h1] at h; cases h
 ·rw [if_neg h0] at h;by_cases h1:-(n:Int)≤i
  ·rw [if_pos h1] at h;have e:(i + n).toNat=j:=Option.some.inj h;exact ⟨by rw [seqIndex_neg (by omega) h1,e],by omega,h1,by omega⟩
  ·rw [if_neg h1] at h; cases h
theorem Jlf {α:Type} {xs:List α} {i:Int} {v:α} (h:atI xs i=some v):∃ j,seqIndex? i xs.length=some j∧xs[j]?=some v∧j < xs.length∧-(xs.length:Int)≤i∧i < xs.length:=by
 unfold atI at h;cases e:ixN xs.length i with
 | none=>rw [e] at h; cases h
 | some j =>
  rw [e] at h;obtain ⟨h1,h2,h3,h4⟩:=Jol e;exact ⟨j,h1,h,h2,h3,h4⟩
theorem Zt {α:Type} {xs:List α} {j:Nat} {v:α} (h:xs[j]?=some v):atI xs (j:Int)=some v:=by
 have hj:j < xs.length:=(List.getElem?_eq_some_iff.mp h).1;have e:ixN xs.length (j:Int)=some j:=by
  unfold ixN;rw [if_pos (by omega),if_pos (by omega)]; simp
 unfold atI; rw [e]; exact h
theorem ZV {α:Type} (xs:List α) (v:α):atI (xs ++ [v]) (-1)=some v:=by
 have hl:(xs ++ [v]).length=xs.length + 1:=by simp
 have e:ixN (xs ++ [v]).length (-1)=some xs.length:=by
  unfold ixN;rw [hl,if_neg (by decide),if_pos (by omega)];congr 1;omega
 unfold atI;rw [e];show (xs ++ [v])[xs.length]?=some v;simp
def Jt1 (b:Expr):Prop:=∀ o i,subscripted b false o i=operate [o,i] (getItem o i)
def IxR (X:Cx) (r:R2):Prop :=
 ∀ (value slice:Expr) (pins:List (Addr×Obj)) (s:Shared) (σ:St) (H:Hp) (x y:V) (v u:Value) (Q:VK),Jq X pins σ H s→JY x v→JY y u→r x y H Q →
  subscripted slice false v u=operate [v,u] (getItem v u)→wpAny (model X.prog X.w) X.A (subscriptTail value slice v u) (EP X pins σ Q) X.xe s
def MtR (X:Cx) (id:String) (r:V→List V→Hp→VK→Prop):Prop :=
 ∀ (pins:List (Addr×Obj)) (s:Shared) (σ:St) (H:Hp) (x:V) (xs:List V) (v:Value) (us:List Value) (Q:VK),Jq X pins σ H s→JY x v→JL xs us→r x xs H Q →
  wpAny (model X.prog X.w) X.A (call (.builtin id) (v :: us)) (EP X pins σ Q) X.xe s
section
variable {X:Cx} {a b:Expr} {ta tb:TE} {pos:Pos}
theorem IxR.or {r r':R2} (h:IxR X r) (h':IxR X r'):IxR X (fun x y H Q=>r x y H Q∨r' x y H Q):=by
 intro value slice pins s σ H x y v u Q I rx ry q hs;rcases q with q | q
 ·exact h value slice pins s σ H x y v u Q I rx ry q hs
 ·exact h' value slice pins s σ H x y v u Q I rx ry q hs
theorem MtR.or {id:String} {r r':V→List V→Hp→VK→Prop} (h:MtR X id r) (h':MtR X id r'):MtR X id (fun x xs H Q=>r x xs H Q∨r' x xs H Q):=by
 intro pins s σ H x xs v us Q I rx rs q;rcases q with q | q
 ·exact h pins s σ H x xs v us Q I rx rs q
 ·exact h' pins s σ H x xs v us Q I rx rs q
theorem Jw {r:R2} (hr:IxR X r) (ha:PE X a ta) (hb:PE X b tb) (hs:Jt1 b):PE X (.Subscript a b pos) (tOp r ta tb):=by
 intro pins s σ H Q I h;exact Subscript_ (Jsu ha hb I h fun v u s2 x y H2 I2 rx ry q=>hr a b pins s2 σ H2 x y v u Q I2 rx ry q (hs _ _))
def Jhq (K:PySem.W.Frag):R2:=fun x y H Q=>∃ p xs i v,x=.ref p∧y=.int i∧JA K H p xs∧atI xs i=some v∧Q v H
def Jo2 (K:PySem.W.Frag):R2:=fun x y H Q=>∃ p xs i v,x=.ref p∧y=.int i∧JH K H p xs∧atI xs i=some v∧Q v H
def Jur:R2:=fun x y H Q=>∃ z i c,x=.str z∧y=.int i∧z.length≤sizeLine∧atI z.cps.toList i=some c∧Q (.str ⟨#[c]⟩) H
theorem JP:IxR X (Jhq X.K):=by
 intro value slice pins s σ H x y v u Q I rx ry h hs;obtain ⟨p,xs,i,z,rfl,rfl,hq,he,q⟩:=h;cases rx;obtain ⟨t,rfl⟩:=ry;obtain ⟨its,r,pl,hz⟩:=I.list hq;obtain ⟨j,h1,h2,h3,h4,h5⟩:=Jlf he;obtain ⟨w,ew,rw'⟩:=r.get h2;have hl:=r.length;have hn:=Jgy;have fin:EP X pins σ Q w s:=⟨z,H,I,rw',q⟩
 by_cases h0:0≤i
 ·have hj:i.toNat=j:=by
   rw [seqIndex_of h0 h5] at h1;exact Option.some.inj h1
  exact item_listR pl.isList h0 (by omega) (by rw [hj]; simpa using ew) fin hs
 ·have hj:(i + (its.toArray.size:Int)).toNat=j:=by
   rw [seqIndex_neg (by omega) h4] at h1;rw [List.size_toArray,← hl];exact Option.some.inj h1
  exact subscriptTail_builtinR (x:=w) pl.isList.typeIs slot_list_getitem.lookup
   (wpAny_getItem_list_neg (Q:=fun r s'=>r=w∧EP X pins σ Q r s') pl.isList (by omega) (by rw [List.size_toArray] <;> omega) (by omega) (by rw [hj]; simpa using ew) ⟨rfl,fin⟩) hs
theorem JN:IxR X (Jo2 X.K):=by
 intro value slice pins s σ H x y v u Q I rx ry h hs;obtain ⟨p,xs,i,z,rfl,rfl,hq,he,q⟩:=h;cases rx;obtain ⟨t,rfl⟩:=ry;obtain ⟨its,r,pl,hz⟩:=I.tuple hq;obtain ⟨j,h1,h2,h3,h4,h5⟩:=Jlf he;obtain ⟨w,ew,rw'⟩:=r.get h2;have hl:=r.length;have hn:=Jgy;have fin:EP X pins σ Q w s:=⟨z,H,I,rw',q⟩
 exact subscriptTail_builtinR (x:=w) pl.typeIs slot_tuple_getitem.lookup
  (getItem_tuple (j:=j) (Q:=fun r s'=>r=w∧EP X pins σ Q r s') pl (by omega) (by omega) (by rw [List.size_toArray,← hl]; exact h1) (by simpa using ew) ⟨rfl,fin⟩) hs
theorem Jnd:IxR X Jur:=by
 intro value slice pins s σ H x y v u Q I rx ry h hs;obtain ⟨z,i,c,rfl,rfl,hz,he,q⟩:=h;obtain ⟨t,rfl⟩:=rx;obtain ⟨t',rfl⟩:=ry;obtain ⟨j,h1,h2,h3,h4,h5⟩:=Jlf he;have hl:z.cps.toList.length=z.length:=by simp [Str.length]
 rw [hl] at h1 h4 h5;have hn:=Jgy;exact tail_any (typeIs_str s z t) slot_str_getitem.lookup (getItem_str (c:=c) (by
  have e1:decide (i < -(2 ^ 63:Int))=false:=decide_eq_false (by omega);have e2:decide (i≥2 ^ 63)=false:=decide_eq_false (by omega);rw [e1,e2,Bool.or_false]) (by rw [h1]; simpa using h2) ⟨.str ⟨#[c]⟩,H,I.tok _,⟨_,rfl⟩,q⟩) hs
def rIx (K:PySem.W.Frag):R2:=fun x y H Q=>Jhq K x y H Q∨Jo2 K x y H Q∨Jur x y H Q
theorem Jqy:IxR X (rIx X.K):=JP.or (JN.or Jnd)
theorem Jpe (its:List Value) (n j:Nat) (u:Value):Obj.mapSeq (·.setIfInBounds j u) { cls:=.type "list",data:=.seq its.toArray n }={ cls:=.type "list",data:=.seq (its.set j u).toArray n }:=by
 simp [Obj.mapSeq]
theorem Jq.lst {pins:List (Addr×Obj)} {σ:St} {H:Hp} {s:Shared} {p:Addr} {xs:List V} (I:Jq X pins σ H s) (h:H p=some (.lst xs)) :
  ∃ (its:List Value) (n:Nat),JL xs its∧s.heap.get? p=some { cls:=.type "list",data:=.seq its.toArray n }∧xs.length≤sizeLine:=by
 obtain ⟨z,its,n,r,e⟩:=I.hok p _ h;exact ⟨its,n,r,e,z⟩
theorem Jq.lstUpd {pins:List (Addr×Obj)} {σ:St} {H:Hp} {s:Shared} {p:Addr} {xs ys:List V} {its its':List Value} {n n':Nat} {f:Obj→Obj} (I:Jq X pins σ H s) (h:H p=some (.lst xs))
  (ho:s.heap.get? p=some { cls:=.type "list",data:=.seq its.toArray n }) (hf:f { cls:=.type "list",data:=.seq its.toArray n }={ cls:=.type "list",data:=.seq its'.toArray n' }) (r:JL ys its') (hz:ys.length≤sizeLine) (t:Nat) :
  Jq X pins σ (upd H p (.lst ys)) { s with heap:=s.heap.update p f,toks:=t }:=by
 have e:(s.heap.update p f).get? p=some { cls:=.type "list",data:=.seq its'.toArray n' }:=by
  rw [Heap.get?_update_self f ho (by rw [hf] <;> rfl),hf]
 refine I.write (x:=p) (e:=p) (by rw [h]; trivial) (.inl rfl) (fun b u hb q=>(Heap.get?_update_other _ _ (Ne.symm hb)).trans q) ⟨_,e⟩ ?_;exact ⟨hz,its',n',r,e⟩
def Jvm:V→V→V→Hp→(Hp→Prop)→Prop:=fun o i v H Q=>∃ p xs k j,o=.ref p∧i=.int k∧H p=some (.lst xs)∧ixN xs.length k=some j∧Q (upd H p (.lst (xs.set j v)))
theorem JrA:JuZ X Jvm:=by
 intro pins s σ H o i v ov iv u Q I ro ri rv h;obtain ⟨p,xs,k,j,rfl,rfl,hp,hj,q⟩:=h;cases ro;obtain ⟨t,rfl⟩:=ri;obtain ⟨its,n,r,ho,hz⟩:=I.lst hp;obtain ⟨h1,h2,h3,h4⟩:=Jol hj;have hl:=r.length;have hn:=Jgy;have I':Jq X pins σ (upd H p (.lst (xs.set j v))) { s with heap:=s.heap.update p (Obj.mapSeq (·.setIfInBounds j u)) } :=
  I.lstUpd hp ho (Jpe its n j u) (r.set rv j) (by rw [List.length_set]; exact hz) s.toks
 by_cases h0:0≤k
 ·have hk:k.toNat=j:=by
   rw [seqIndex_of h0 h4] at h1;exact Option.some.inj h1
  exact PySem.W.ki_setAt ho h0 (by omega) (by rw [List.size_toArray,← hl]; exact h4) (by rw [hk]; exact ⟨_,I',q⟩)
 ·have hk:(k + (its.toArray.size:Int)).toNat=j:=by
   rw [seqIndex_neg (by omega) h3] at h1;rw [List.size_toArray,← hl];exact Option.some.inj h1
  exact PySem.W.ki_setBack ho (by omega) (by rw [List.size_toArray,← hl]; exact h3) (by omega) (by rw [hk]; exact ⟨_,I',q⟩)
theorem Jmv (lo hi:Option Int) (n:Nat):(sliceBounds lo hi none n).1=((HT.YB n 0 lo:Nat):Int)∧(sliceBounds lo hi none n).2.1=((HT.YB n n hi:Nat):Int)∧(sliceBounds lo hi none n).2.2=1:=by
 refine ⟨?_,?_,rfl⟩
 ·cases lo with
  | none=>simp [sliceBounds,HT.YB]
  | some i =>
   simp only [sliceBounds,HT.YB,Option.getD_none,show (1:Int) > 0 by decide,if_true];by_cases h:i < 0
   ·simp only [h,if_true] <;> omega
   ·simp only [h,if_false] <;> omega
 ·cases hi with
  | none=>simp [sliceBounds,HT.YB]
  | some i =>
   simp only [sliceBounds,HT.YB,Option.getD_none,show (1:Int) > 0 by decide,if_true];by_cases h:i < 0
   ·simp only [h,if_true] <;> omega
   ·simp only [h,if_false] <;> omega
theorem Jl0 (its:List Value) (lo hi:Option Int):slicePick its.toArray lo hi none=((its.drop (HT.YB its.length 0 lo)).take (HT.YB its.length its.length hi - HT.YB its.length 0 lo)).toArray:=by
 obtain ⟨h1,h2,h3⟩:=Jmv lo hi its.toArray.size;unfold slicePick;rw [h1,h2,h3];simp only [sliceRange_one,pick_run,List.size_toArray] <;> rfl
def Jv1 (K:PySem.W.Frag):V→Option Int→Option Int→Hp→VK→Prop:=fun x lo hi H Q=>∃ a xs,x=.ref a∧JA K H a xs∧∀ p,H p=none→Q (.ref p) (upd H p (.lst (ZB xs lo hi)))
theorem Jey:SlR X (Jv1 X.K):=by
 intro pins s σ H x v vl vu lo hi sl Q I rx hs pl pu h;obtain ⟨a,xs,rfl,hx,q⟩:=h;cases rx;obtain ⟨its,r,ht,hz⟩:=I.list hx;have hlen:=r.length;refine ⟨"list",_,slot_list_getitem.lookup,ht.isList.typeIs,?_⟩;refine wpAny_getItem_list_slice ht.isList hs pl pu .none (by simp) ?_ (by rw [List.size_toArray] <;> omega);rw [Jl0,← hlen];refine ⟨.ref s.heap.objs.size,_,I.laid (t':=s.toks) (o:=.lst (ZB xs lo hi)) (fun b ob q=>Heap.get?_push_of_some _ q) (Nat.le_refl _) ?_,rfl,q _ (I.hok.fresh (Nat.le_refl _))⟩;exact ⟨Nat.le_trans (JdB xs lo hi) hz,_,0,(r.drop (HT.YB xs.length 0 lo)).take (HT.YB xs.length xs.length hi - HT.YB xs.length 0 lo),Heap.get?_push_size _ rfl⟩
def JbL:V→Bool
 | .non=>true
 | .bl _=>true
 | .int _=>true
 | .str _=>true
 | _=>false
def eqV:V→V→Bool
 | .non,.non=>true
 | .bl a,.bl b=>a == b
 | .bl a,.int b=>(if a then 1 else 0) == b
 | .int a,.bl b=>a == (if b then 1 else 0)
 | .int a,.int b=>a == b
 | .str a,.str b=>a == b
 | _,_=>false
theorem JqK {A:Around} {s:Shared} {y x:V} {u v:Value} (ry:JY y u) (rx:JY x v) (fy:JbL y=true) (fx:JbL x=true):SeqAt.EqAt A s u v (eqV y x):=by
 cases y with
 | non =>
  cases ry;cases x with
  | non=>cases rx; exact SeqAt.EqAt.same _
  | bl b=>cases rx; exact SeqAt.EqAt.none_bool b
  | int b=>obtain ⟨t,rfl⟩:=rx; exact SeqAt.EqAt.none_int b t
  | str b=>obtain ⟨t,rfl⟩:=rx; exact SeqAt.EqAt.none_str b t
  | _=>exact absurd (show false=true from fx) Bool.false_ne_true
 | bl a =>
  cases ry;cases x with
  | non=>cases rx; exact SeqAt.EqAt.bool_none a
  | bl b=>cases rx; exact SeqAt.EqAt.bool_bool a b
  | int b=>obtain ⟨t,rfl⟩:=rx; exact SeqAt.EqAt.bool_int a b t
  | str b=>obtain ⟨t,rfl⟩:=rx; exact SeqAt.EqAt.bool_str a b t
  | _=>exact absurd (show false=true from fx) Bool.false_ne_true
 | int a =>
  obtain ⟨t',rfl⟩:=ry;cases x with
  | non=>cases rx; exact SeqAt.EqAt.int_none a t'
  | bl b=>cases rx; exact SeqAt.EqAt.int_bool a t' b
  | int b=>obtain ⟨t,rfl⟩:=rx; exact SeqAt.EqAt.int_int a t' b t
  | str b=>obtain ⟨t,rfl⟩:=rx; exact SeqAt.EqAt.int_str a t' b t
  | _=>exact absurd (show false=true from fx) Bool.false_ne_true
 | str a =>
  obtain ⟨t',rfl⟩:=ry;cases x with
  | non=>cases rx; exact SeqAt.EqAt.str_none a t'
  | bl b=>cases rx; exact SeqAt.EqAt.str_bool a t' b
  | int b=>obtain ⟨t,rfl⟩:=rx; exact SeqAt.EqAt.str_int a t' b t
  | str b=>obtain ⟨t,rfl⟩:=rx; exact SeqAt.EqAt.str_str a t' b t
  | _=>exact absurd (show false=true from fx) Bool.false_ne_true
 | _=>exact absurd (show false=true from fy) Bool.false_ne_true
def eqU (x:V) (u:Value):Bool:=match u with
 | .none=>eqV .non x
 | .bool b=>eqV (.bl b) x
 | .int i _=>eqV (.int i) x
 | .str z _=>eqV (.str z) x
 | _=>false
theorem JqJ {x y:V} {u:Value} (r:JY y u) (f:JbL y=true):eqU x u=eqV y x:=by
 cases y with
 | non=>cases r; rfl
 | bl b=>cases r; rfl
 | int i=>obtain ⟨t,rfl⟩:=r; rfl
 | str z=>obtain ⟨t,rfl⟩:=r; rfl
 | _=>exact absurd (show false=true from f) Bool.false_ne_true
theorem JgE {x:V}:∀ {xs:List V} {us:List Value},JL xs us→xs.all JbL=true→us.any (eqU x)=xs.any fun y=>eqV y x
 | _,_,.nil,_=>rfl
 | y :: xs,u :: us,.cons r t,f=>by
  rw [List.all_cons,Bool.and_eq_true] at f;rw [List.any_cons,List.any_cons,JqJ r f.1,JgE t f.2]
theorem Jfc {A:Around} {s:Shared} {x:V} {v:Value} (rx:JY x v) (fx:JbL x=true):∀ {xs:List V} {us:List Value},JL xs us→xs.all JbL=true→∀ u∈us,SeqAt.EqAt A s u v (eqU x u)
 | _,_,.nil,_=>fun u hu=>by cases hu
 | y :: xs,u :: us,.cons r t,f=>fun u' hu=>by
  rw [List.all_cons,Bool.and_eq_true] at f;rcases List.mem_cons.mp hu with rfl | hu
  ·rw [JqJ r f.1]; exact JqK r rx f.1 fx
  ·exact Jfc rx fx t f.2 u' hu
def inV (x:V) (xs:List V):Bool:=xs.any fun y=>eqV y x
def rIn (K:PySem.W.Frag) (neg:Bool):R2:=fun x y H Q=>∃ p xs,y=.ref p∧(JA K H p xs∨JH K H p xs)∧JbL x=true∧xs.all JbL=true∧Q (.bl (if neg then !inV x xs else inV x xs)) H
theorem Jlv:ZT X (compareOp .In) (rIn X.K false):=by
 intro pins s σ H x y v u Q I rx ry h;obtain ⟨p,xs,rfl,hq,fx,fs,q⟩:=h;cases ry;rcases hq with hq | hq
 ·obtain ⟨its,r,pl,hz⟩:=I.list hq;refine SeqAt.in_listAt (eqU x) pl.isList (fun w hw=>Jfc rx fx r fs w (by simpa using hw)) ⟨.bl _,H,I,rfl,?_⟩;rw [show its.toArray.any (eqU x)=its.any (eqU x) by simp,JgE r fs];exact q
 ·obtain ⟨its,r,pl,hz⟩:=I.tuple hq;refine SeqAt.in_tupleAt (eqU x) pl (fun w hw=>Jfc rx fx r fs w (by simpa using hw)) ⟨.bl _,H,I,rfl,?_⟩;rw [show its.toArray.any (eqU x)=its.any (eqU x) by simp,JgE r fs];exact q
theorem JcM:ZT X (compareOp .NotIn) (rIn X.K true):=by
 intro pins s σ H x y v u Q I rx ry h;obtain ⟨p,xs,rfl,hq,fx,fs,q⟩:=h;cases ry;rcases hq with hq | hq
 ·obtain ⟨its,r,pl,hz⟩:=I.list hq;refine SeqAt.notIn_listAt (eqU x) pl.isList (fun w hw=>Jfc rx fx r fs w (by simpa using hw)) ⟨.bl _,H,I,rfl,?_⟩;rw [show its.toArray.any (eqU x)=its.any (eqU x) by simp,JgE r fs];exact q
 ·obtain ⟨its,r,pl,hz⟩:=I.tuple hq;refine SeqAt.notIn_tupleAt (eqU x) pl (fun w hw=>Jfc rx fx r fs w (by simpa using hw)) ⟨.bl _,H,I,rfl,?_⟩;rw [show its.toArray.any (eqU x)=its.any (eqU x) by simp,JgE r fs];exact q
theorem JZ:Yx X (.builtin "len") (fun xs H Q=>∃ p ys,xs=[.ref p]∧(JA X.K H p ys∨JH X.K H p ys)∧Q (.int ys.length) H):=by
 intro pins s σ H xs us Q I r h;obtain ⟨p,ys,rfl,hq,q⟩:=h;obtain ⟨u,rfl,rx⟩:=Jmc r;cases rx;have hn:=Jgy;rcases hq with hq | hq
 ·obtain ⟨its,r',pl,hz⟩:=I.list hq;have hlen:=r'.length;exact Calls.call_len_list pl.isList (by simp only [List.size_toArray] <;> omega) ⟨.int ys.length,H,I.tok _,⟨s.toks + 1,by rw [List.size_toArray,hlen]⟩,q⟩
 ·obtain ⟨its,r',pl,hz⟩:=I.tuple hq;have hlen:=r'.length;exact len_tuple pl (by simp only [List.size_toArray] <;> omega) ⟨.int ys.length,H,I.tok _,⟨s.toks + 1,by rw [List.size_toArray,hlen]⟩,q⟩
theorem Jh2:Yx X (.builtin "len") (fun xs H Q=>∃ z,xs=[.str z]∧z.length≤sizeLine∧Q (.int z.length) H):=by
 intro pins s σ H xs us Q I r h;obtain ⟨z,rfl,hz,q⟩:=h;obtain ⟨u,rfl,t,rfl⟩:=Jmc r;have hn:=Jgy;exact len_str (by omega) ⟨.int z.length,H,I.tok _,⟨_,rfl⟩,q⟩
theorem Yx.or {f:Value} {r r':List V→Hp→VK→Prop} (h:Yx X f r) (h':Yx X f r'):Yx X f (fun xs H Q=>r xs H Q∨r' xs H Q):=by
 intro pins s σ H xs us Q I rs q;rcases q with q | q
 ·exact h pins s σ H xs us Q I rs q
 ·exact h' pins s σ H xs us Q I rs q
theorem Jfy:Yx X (.type "list") (fun xs H Q=>∃ p ys,xs=[.ref p]∧(JA X.K H p ys∨JH X.K H p ys)∧∀ l,H l=none→Q (.ref l) (upd H l (.lst ys))):=by
 intro pins s σ H xs us Q I r h;obtain ⟨p,ys,rfl,hq,q⟩:=h;obtain ⟨u,rfl,rx⟩:=Jmc r;cases rx;have fin:∀ (its:List Value),JL ys its→ys.length≤sizeLine→∀ (h':Heap) (c':Nat),(∀ b o',s.heap.get? b=some o'→h'.get? b=some o') →
   h'.get? s.heap.objs.size=some { cls:=.type "list",dict:=none,data:=.seq its.toArray c',slots:=#[] }→EP X pins σ Q (.ref s.heap.objs.size) { s with heap:=h' }:=fun its r' hz h' c' kp e =>
  ⟨.ref s.heap.objs.size,_,I.laid (t':=s.toks) kp (Nat.le_refl _) (show YO X.prog X.w _ h' _ (.lst ys) from ⟨hz,its,c',r',e⟩),rfl,q _ (I.hok.fresh (Nat.le_refl _))⟩
 rcases hq with hq | hq
 ·obtain ⟨its,r',pl,hz⟩:=I.list hq;have hlen:=r'.length;obtain ⟨o,ho,hc,n,hd⟩:=pl.isList;exact call_list_seq p (.inl rfl) ho hc hd (fun h' c' kp e=>fin its r' hz h' c' kp e) (by simp only [List.size_toArray] <;> omega)
 ·obtain ⟨its,r',pl,hz⟩:=I.tuple hq;have hlen:=r'.length;obtain ⟨o,ho,hc,n,hd⟩:=pl;exact call_list_seq p (.inr rfl) ho hc hd (fun h' c' kp e=>fin its r' hz h' c' kp e) (by simp only [List.size_toArray] <;> omega)
theorem Jak:Yx X (.type "tuple") (fun xs H Q=>∃ p ys,xs=[.ref p]∧((JA X.K H p ys∧∀ l,H l=none→Q (.ref l) (upd H l (.tup ys)))∨(JH X.K H p ys∧Q (.ref p) H))):=by
 intro pins s σ H xs us Q I r h;obtain ⟨p,ys,rfl,h⟩:=h;obtain ⟨u,rfl,rx⟩:=Jmc r;cases rx;rcases h with ⟨hq,q⟩ | ⟨hq,q⟩
 ·obtain ⟨its,r',pl,hz⟩:=I.list hq;have hlen:=r'.length;refine call_tuple_list pl.isList (fun h' kp=>?_) (by simp only [List.size_toArray] <;> omega);have I1:Jq X pins σ H { s with heap:=h' }:=I.kept (t':=s.toks) kp;have I2:Jq X pins σ (upd H h'.objs.size (.tup ys)) { s with heap:=h'.push { cls:=.type "tuple",data:=.seq its.toArray } } :=
   I1.laid (t':=s.toks) (fun b o e=>Heap.get?_push_of_some _ e) (Nat.le_refl _) (show YO X.prog X.w _ _ _ (.tup ys) from ⟨hz,its,r',IsTup.new _ _⟩)
  exact ⟨.ref h'.objs.size,_,I2,rfl,q _ (I1.hok.fresh (Nat.le_refl _))⟩
 ·obtain ⟨its,r',pl,hz⟩:=I.tuple hq;exact call_tuple_same pl ⟨.ref p,H,I,rfl,q⟩
def tyV (K:PySem.W.Frag) (T:String) (x:V) (H:Hp):Prop:=match x with
 | .str _=>T = "str"
 | .int _=>T = "int"
 | .ref p=>(T = "list"∧∃ xs,JA K H p xs)∨(T = "tuple"∧∃ o,K.lookup p=some o∧o.cls=.type "tuple"∧o.dict=none) ∨
   (T = "dict"∧((∃ kvs,H p=some (.dK kvs))∨∃ kvs,H p=some (.dT kvs)))∨(T = "set"∧∃ S n,H p=some (.set S n))
 | _=>False
theorem JpL {pins:List (Addr×Obj)} {σ:St} {H:Hp} {s:Shared} {T:String} {x:V} {v:Value} (I:Jq X pins σ H s) (r:JY x v) (ty:tyV X.K T x H) :
  s.TypeIs v T∧∀ a,v=.ref a→∃ ob,s.heap.get? a=some ob∧ob.dict=none:=by
 cases x with
 | str z =>
  obtain ⟨t,rfl⟩:=r;cases (show T = "str" from ty);exact ⟨typeIs_str s z t,fun _ e=>nomatch e⟩
 | int i =>
  obtain ⟨t,rfl⟩:=r;cases (show T = "int" from ty);exact ⟨typeIs_int s i t,fun _ e=>nomatch e⟩
 | ref p =>
  cases r;rcases ty with ⟨rfl,xs,hq⟩ | ⟨rfl,o,hk,hc,hd⟩ | ⟨rfl,hk⟩ | ⟨rfl,S,n,hk⟩
  ·obtain ⟨its,_,pl,_⟩:=I.list hq;refine ⟨pl.isList.typeIs,fun a e=>?_⟩;cases e;obtain ⟨o,n,e,c,hd,_⟩:=pl;exact ⟨o,e,hd⟩
  ·refine ⟨⟨o,I.kIn p o hk,hc⟩,fun a e=>?_⟩;cases e;exact ⟨o,I.kIn _ o hk,hd⟩
  ·have z:∃ o,s.heap.get? p=some o∧o.ExactDict:=by
    rcases hk with ⟨kvs,hk⟩ | ⟨kvs,hk⟩
    ·obtain ⟨_,_,_,_,o,_,_,e,ex,_⟩:=I.hok p _ hk;exact ⟨o,e,ex⟩
    ·obtain ⟨_,_,_,_,o,_,_,e,ex,_⟩:=I.hok p _ hk;exact ⟨o,e,ex⟩
   obtain ⟨o,e,ex⟩:=z;refine ⟨⟨o,e,ex.1⟩,fun a e2=>?_⟩;cases e2;exact ⟨o,e,ex.2.1⟩
  ·obtain ⟨o,_,_,_,e,ex,_⟩:=I.hok p _ hk;refine ⟨⟨o,e,ex.1⟩,fun a e2=>?_⟩;cases e2;exact ⟨o,e,ex.2.1⟩
 | _=>exact False.elim ty
def JvX (K:PySem.W.Frag) (T:String) (r:V→List V→Hp→VK→Prop) (to:TE):TE:=fun σ H Q=>to σ H fun x H1=>tyV K T x H1∧r x [] H1 Q
def tBM (K:PySem.W.Frag) (T:String) (r:V→List V→Hp→VK→Prop) (to:TE) (t:TA):TE:=fun σ H Q=>to σ H fun x H1=>tyV K T x H1∧t σ H1 fun xs H2=>r x xs H2 Q
variable {o e:Expr} {es:List Expr} {to:TE} {t:TA} {name:Str} {apos cpos:Pos} {T id:String} {r:V→List V→Hp→VK→Prop}
theorem Jht (pa:PlainAttrs T) (slot:Slot T name id) (hty:typeOf (.builtin id)=pure (.type "method_descriptor")) (hm:MtR X id r) (ho:PE X o to)
  (hbase:attributeBase o name X.env (eval o X.env)=eval o X.env:=by rfl) (hline:(apos.endLine == cpos.line)=true:=by rfl):PE X (.Call (.Attribute o name apos) [] [] cpos) (JvX X.K T r to):=by
 intro pins s σ H Q I h;refine wpAny_Call_method0_late hbase hline (J2 (ho pins s σ H _ I h) fun v s1 ⟨x,H1,I1,r1,ty,q1⟩=>?_);obtain ⟨h1,h2⟩:=JpL I1 r1 ty;exact ⟨T,id,pa,slot,hty,h1,h2,Calls.callWith_builtin rfl (PySem.evalArgs_none (hm pins s1 σ H1 x [] v [] Q I1 r1 .nil q1))⟩
theorem Jae (pa:PlainAttrs T) (slot:Slot T name id) (hty:typeOf (.builtin id)=pure (.type "method_descriptor")) (hm:MtR X id r) (ho:PE X o to) (ha:PA X (e :: es) t)
  (hbase:attributeBase o name X.env (eval o X.env)=eval o X.env:=by rfl)
  (hfew:((backTo cpos (starEach (e :: es) X.env)).all (fun x=>!x.1) && (backToKw cpos (keywordEach [] X.env)).all (fun x=>x.1.isSome)
   && decide ((e :: es).length + ([]:List Keyword).length + (if ([]:List Keyword).isEmpty then 0 else 1) < 30))=true:=by rfl)
  (hline:(apos.endLine == cpos.line)=true:=by rfl) (hs:starEach (e :: es) X.env=(false,eval e X.env) :: starEach es X.env:=by rfl) (hplain:(backTo cpos (starEach es X.env)).any (·.1)=false:=by rfl) :
  PE X (.Call (.Attribute o name apos) (e :: es) [] cpos) (tBM X.K T r to t):=by
 intro pins s σ H Q I h;refine wpAny_Call_method_late hbase hfew hline rfl (J2 (ho pins s σ H _ I h) fun v s1 ⟨x,H1,I1,r1,ty,q1⟩=>?_);obtain ⟨h1,h2⟩:=JpL I1 r1 ty;refine ⟨T,id,pa,slot,hty,h1,h2,?_⟩;have hA:=ha cpos pins s1 σ H1 _ I1 q1;rw [hs] at hA ⊢;refine Calls.callWith_builtin (by show (false || (backTo cpos (starEach es X.env)).any (·.1))=false; rw [hplain] <;> rfl) (Calls.evalArgs_plain ?_);exact J2 hA fun us s2 ⟨vs,H2,I2,r2,q2⟩=>hm pins s2 σ H2 x vs v us Q I2 r1 r2 q2
end
end L2
namespace L2
open PySem PySem.Spec PyProof.Rows
def MtM (X:Cx) (id:String) (r:V→List V→Hp→VK→Prop):Prop :=
 ∀ (pins:List (Addr×Obj)) (s:Shared) (σ:St) (H:Hp) (x:V) (xs:List V) (v:Value) (us:List Value) (Q:VK),Jq X pins σ H s→JY x v→JL xs us→r x xs H Q →
  wpAny (model X.prog X.w) X.A (call (.builtin id) (v :: us)) (EP X pins σ Q) X.xe s
theorem JL.one:∀ {x:V} {us:List Value},JL [x] us→∃ u,us=[u]∧JY x u
 | _,_,.cons r .nil=>⟨_,rfl,r⟩
theorem JL.zero:∀ {us:List Value},JL [] us→us=[]
 | _,.nil=>rfl
theorem JL.dropLast {xs:List V} {us:List Value} (h:JL xs us):JL xs.dropLast us.dropLast:=by
 induction h with
 | nil=>exact .nil
 | cons r t ih =>
  cases t with
  | nil=>exact .nil
  | cons q t'=>exact .cons r ih
theorem JL.eraseIdx:∀ {xs:List V} {us:List Value} (i:Nat),JL xs us→JL (xs.eraseIdx i) (us.eraseIdx i)
 | _,_,_,.nil=>.nil
 | _,_,0,.cons _ t=>t
 | _,_,i + 1,.cons r t=>.cons r (JL.eraseIdx i t)
theorem JL.rep {xs:List V} {us:List Value} (h:JL xs us):∀ k:Nat,JL (List.replicate k xs).flatten (List.replicate k us).flatten
 | 0=>.nil
 | k + 1=>by
  rw [List.replicate_succ,List.replicate_succ,List.flatten_cons,List.flatten_cons];exact JL.append h (JL.rep h k)
theorem Jpu {α:Type} (l:List α):l.eraseIdx (l.length - 1)=l.dropLast:=by
 induction l with
 | nil=>rfl
 | cons a r ih =>
  cases r with
  | nil=>rfl
  | cons b r =>
   have e:(a :: b :: r).length - 1=((b :: r).length - 1) + 1:=by
    have h1:(a :: b :: r).length=r.length + 2:=rfl;have h2:(b :: r).length=r.length + 1:=rfl;omega
   rw [e,List.eraseIdx_cons_succ,ih]
   all_goals rfl
theorem JlG (its:List Value):∀ (k:Nat) (acc:List Value),
  List.foldl (fun x1 x2=>x1 ++ x2) acc.toArray (List.replicate k its.toArray)=(acc ++ (List.replicate k its).flatten).toArray
 | 0,acc=>by simp
 | k + 1,acc=>by
  have e:acc.toArray ++ its.toArray=(acc ++ its).toArray:=by simp
  have e2:(acc ++ its) ++ (List.replicate k its).flatten=acc ++ (List.replicate (k + 1) its).flatten:=by
   rw [List.replicate_succ,List.flatten_cons,List.append_assoc]
  rw [← e2,← JlG its k (acc ++ its),← e,List.replicate_succ,List.foldl_cons]
section
variable {X:Cx} {pins:List (Addr×Obj)} {σ:St} {H:Hp} {s:Shared} {l b:Addr} {xs ys zs:List V}
theorem Jq.lset {its its':List Value} {n:Nat} {f:Array Value→Array Value} {t':Nat} (I:Jq X pins σ H s) (hH:H l=some (.lst xs))
  (e:s.heap.get? l=some { cls:=.type "list",data:=.seq its.toArray n }) (hf:f its.toArray=its'.toArray) (hv:JL ys its') (hz:ys.length≤sizeLine) :
  Jq X pins σ (upd H l (.lst ys)) { s with heap:=s.heap.update l (Obj.mapSeq f),toks:=t' }:=by
 have q:=PySem.IsL.update e f;rw [hf] at q;refine I.write (x:=l) (e:=l) (by rw [hH]; exact trivial) (.inl rfl) (fun b' u hb hu=>(Heap.get?_update_other s.heap (Obj.mapSeq f) (Ne.symm hb)).trans hu) ⟨_,q⟩ ?_;exact ⟨hz,its',_,hv,q⟩
theorem Jq.lnew {its:List Value} {t':Nat} (I:Jq X pins σ H s) (hv:JL ys its) (hz:ys.length≤sizeLine) :
  Jq X pins σ (upd H s.heap.objs.size (.lst ys)) { s with heap:=s.heap.push { cls:=.type "list",data:=.seq its.toArray },toks:=t' } :=
 I.laid (fun _ _ q=>Heap.get?_push_of_some _ q) (Nat.le_refl _) ⟨hz,its,0,hv,Heap.get?_push_size _ rfl⟩
theorem Jq.fresh (I:Jq X pins σ H s):H s.heap.objs.size=none:=I.hok.fresh (Nat.le_refl _)
theorem Jq.lstM (I:Jq X pins σ H s) (hH:H l=some (.lst xs)):xs.length≤sizeLine∧∃ (its:List Value) (n:Nat),JL xs its∧xs.length=its.length∧s.heap.get? l=some { cls:=.type "list",data:=.seq its.toArray n }:=by
 obtain ⟨z,its,n,r,e⟩:=I.hok l _ hH;exact ⟨z,its,n,r,r.length,e⟩
theorem Jr2 {n:Nat} (h:n≤sizeLine):Builtin.List.listTooLong n=false:=by
 unfold Builtin.List.listTooLong;exact decide_eq_false (by omega)
end
section
variable {X:Cx}
def Jtt:V→List V→Hp→VK→Prop:=fun x vs H Q=>∃ l xs y,x=.ref l∧vs=[y]∧H l=some (.lst xs)∧xs.length < sizeLine∧Q .non (upd H l (.lst (xs ++ [y])))
theorem YH:MtM X "list.append" Jtt:=by
 intro pins s σ H x vs v us Q I rx rv h;obtain ⟨l,xs,y,rfl,rfl,hH,hz,q⟩:=h;cases rx;obtain ⟨u,rfl,ru⟩:=rv.one;obtain ⟨z,its,n,r,hl,e⟩:=I.lstM hH;refine call_meets F.slot_list_append ⟨_,e,rfl⟩ F.entry_list_append (F.args_list_append_2 _ _) (PySem.list_append l its.toArray n u (by rw [List.size_toArray]; omega)) ⟨e,?_⟩;refine ⟨.non,_,I.lset (its':=its ++ [u]) hH e (by simp) (r.append (.cons ru .nil)) ?_,rfl,q⟩;rw [List.length_append,List.length_singleton];omega
def Jv3:V→List V→Hp→VK→Prop:=fun x vs H Q=>∃ l xs y,x=.ref l∧vs=[]∧H l=some (.lst xs)∧xs[xs.length - 1]?=some y∧Q y (upd H l (.lst xs.dropLast))
theorem JhF:MtM X "list.pop" Jv3:=by
 intro pins s σ H x vs v us Q I rx rv h;obtain ⟨l,xs,y,rfl,rfl,hH,hy,q⟩:=h;cases rx;have hus:=rv.zero;subst hus;obtain ⟨z,its,n,r,hl,e⟩:=I.lstM hH;obtain ⟨u,hu,ru⟩:=r.get hy;have hy':its.toArray[its.toArray.size - 1]?=some u:=by
  show its.toArray[its.length - 1]?=some u;rw [← Array.getElem?_toList,← hl];exact hu
 refine call_meets F.slot_list_pop ⟨_,e,rfl⟩ F.entry_list_pop (F.args_list_pop_1 _) (MeetsSeq.list_pop_last l its.toArray n u hy' (by rw [List.size_toArray]; omega)) ⟨e,?_⟩;refine ⟨y,_,I.lset (its':=its.dropLast) hH e ?_ r.dropLast ?_,ru,q⟩
 ·show its.toArray.eraseIdxIfInBounds (its.toArray.size - 1)=its.dropLast.toArray;rw [List.size_toArray,List.eraseIdxIfInBounds_toArray,Jpu]
 ·rw [List.length_dropLast];omega
def Jv6:R2:=fun x y H Q=>∃ l b xs zs,x=.ref l∧y=.ref b∧H l=some (.lst xs)∧H b=some (.lst zs)∧xs.length + zs.length≤sizeLine∧∀ p,H p=none→Q (.ref p) (upd H p (.lst (xs ++ zs)))
theorem JuD:ZT X (binaryOp .Add) Jv6:=by
 intro pins s σ H x y v u Q I rx ry h;obtain ⟨l,b,xs,zs,rfl,rfl,hH,hB,hz,q⟩:=h;cases rx;cases ry;obtain ⟨z,its,n,r,hl,e⟩:=I.lstM hH;obtain ⟨z2,its2,n2,r2,hl2,e2⟩:=I.lstM hB;refine PySem.P.add_list e e2 ?_ (by rw [List.size_toArray,List.size_toArray]; omega);have ea:its.toArray ++ its2.toArray=(its ++ its2).toArray:=by simp
 rw [ea];exact ⟨.ref _,_,I.lnew (t':=s.toks) (r.append r2) (by rw [List.length_append]; omega),rfl,q _ I.fresh⟩
def Jv2:R2:=fun x y H Q=>∃ l k xs,x=.ref l∧y=.int k∧H l=some (.lst xs)∧-(2 ^ 63)≤k∧k < 2 ^ 63∧xs.length * k.toNat≤sizeLine ∧
 ∀ p,H p=none→Q (.ref p) (upd H p (.lst (List.replicate k.toNat xs).flatten))
theorem JtQ {α:Type} (xs:List α) (k:Nat):(List.replicate k xs).flatten.length=k * xs.length:=by
 induction k with
 | zero=>simp
 | succ k ih=>rw [List.replicate_succ,List.flatten_cons,List.length_append,ih,Nat.succ_mul,Nat.add_comm]
theorem JuA:ZT X (binaryOp .Mult) Jv2:=by
 intro pins s σ H x y v u Q I rx ry h;obtain ⟨l,k,xs,rfl,rfl,hH,h1,h2,hz,q⟩:=h;cases rx;obtain ⟨t,rfl⟩:=ry;obtain ⟨z,its,n,r,hl,e⟩:=I.lstM hH;have hlen:its.toArray.size * k.toNat≤sizeLine:=by rw [List.size_toArray,← hl]; exact hz
 have hcap:¬ its.toArray.size * k.toNat > (2 ^ 63 - 1) / 8:=by
  have:(sizeLine:Nat)≤(2 ^ 63 - 1) / 8:=by decide
  omega
 have hfit:¬ (!Builtin.List.listFitsIndex k)=true:=by
  rw [fitsIndex_both h1 h2];exact Bool.false_ne_true
 have hlong:¬ Builtin.List.listTooLong (its.toArray.size * k.toNat)=true:=by
  rw [Jr2 hlen];exact Bool.false_ne_true
 have hnew:List.foldl (fun x1 x2=>x1 ++ x2) #[] (List.replicate (if its.toArray.isEmpty=true then 0 else k.toNat) its.toArray)=(List.replicate k.toNat its).flatten.toArray:=by
  have f0:∀ m:Nat,List.foldl (fun x1 x2=>x1 ++ x2) #[] (List.replicate m its.toArray)=(List.replicate m its).flatten.toArray:=fun m=>by
   have:=JlG its m [];rw [List.nil_append] at this;exact this
  rw [f0];cases its with
  | nil=>simp
  | cons a r'=>rw [if_neg (by simp)]
 refine wpAny_binaryOp_repeat_ref (T := "list") (U := "int") (by decide) ⟨_,e,rfl⟩ (fun s'=>typeIs_int s' k t) noFill_list_mul F.fills_int_mul F.slot_int_rmul repeat_list F.slot_int_index.lookup
  (call_meets F.slot_int_rmul (typeIs_int s k t) F.entry_int_rmul (F.args_int_rmul_2 _ _) (int___rmul___int_list k t l its.toArray n)
   ⟨e,rfl,⟨_,e,rfl⟩,call_meets F.slot_list_mul ⟨_,e,rfl⟩ F.entry_list_mul (F.args_list_mul_2 _ _) (AutoListH.list___mul___list_int_3 l its.toArray n k t hfit hcap hlong) ⟨e,?_⟩⟩)
 rw [hnew];exact ⟨.ref _,_,I.lnew (t':=s.toks) (r.rep k.toNat) (by rw [JtQ,Nat.mul_comm]; exact hz),rfl,q _ I.fresh⟩
end
end L2
namespace L2
open PySem PySem.Spec PyProof.Rows
section
variable {κ:Type} [DecidableEq κ]
def ZK (kvs:List (κ×V)) (k:κ):Option V:=(kvs.find? fun kv=>decide (kv.1=k)).map (·.2)
def JaQ (kvs:List (κ×V)) (k:κ) (v:V):List (κ×V) :=
 if (kvs.any fun kv=>decide (kv.1=k))=true then kvs.map (fun kv=>if kv.1=k then (kv.1,v) else kv) else kvs ++ [(k,v)]
def JsQ (kvs:List (κ×V)) (k:κ):List (κ×V):=kvs.filter fun kv=>decide (kv.1≠k)
theorem Z7 {p:κ×V} {r:List (κ×V)} {k:κ} (e:p.1=k):ZK (p :: r) k=some p.2:=by simp [ZK,List.find?_cons,e]
theorem Z8 {p:κ×V} {r:List (κ×V)} {k:κ} (e:¬ p.1=k):ZK (p :: r) k=ZK r k:=by simp [ZK,List.find?_cons,e]
theorem JgH (k:κ):∀ kvs:List (κ×V),(kvs.any fun kv=>decide (kv.1=k))=(ZK kvs k).isSome
 | []=>rfl
 | p :: r=>by
  rw [List.any_cons];by_cases e:p.1=k
  ·simp only [Z7 e,decide_eq_true e,Bool.true_or,Option.isSome_some]
  ·rw [Z8 e,decide_eq_false e,Bool.false_or]; exact JgH k r
theorem Jmj (k j:κ) (y:V):∀ kvs:List (κ×V),ZK (kvs.map fun kv=>if kv.1=k then (kv.1,y) else kv) j=(ZK kvs j).map fun x=>if j=k then y else x
 | []=>rfl
 | p :: r=>by
  have ih:=Jmj k j y r;rw [List.map_cons];by_cases h:p.1=k
  ·rw [if_pos h];by_cases e:p.1=j
   ·rw [Z7 (p:=(p.1,y)) e,Z7 e,Option.map_some,if_pos (e.symm.trans h)]
   ·rw [Z8 (p:=(p.1,y)) e,Z8 e,ih]
  ·rw [if_neg h];by_cases e:p.1=j
   ·rw [Z7 (p:=p) e,Z7 e,Option.map_some,if_neg (fun z=>h (e.trans z))]
   ·rw [Z8 (p:=p) e,Z8 e,ih]
theorem Jlp (k j:κ) (y:V):∀ kvs:List (κ×V),ZK kvs k=none→ZK (kvs ++ [(k,y)]) j=if j=k then some y else ZK kvs j
 | [],_=>by
  by_cases e:k=j
  ·rw [if_pos e.symm]; exact Z7 (p:=(k,y)) e
  ·rw [if_neg (fun z=>e z.symm)]; exact Z8 (p:=(k,y)) e
 | p :: r,hn=>by
  rw [List.cons_append];have hk:¬ p.1=k:=fun z=>by rw [Z7 z] at hn; cases hn
  rw [Z8 hk] at hn;have ih:=Jlp k j y r hn;by_cases e:p.1=j
  ·rw [Z7 e,Z7 e,if_neg (fun z=>hk (e.trans z))]
  ·rw [Z8 e,Z8 e,ih]
theorem JiK (kvs:List (κ×V)) (k j:κ) (y:V):ZK (JaQ kvs k y) j=if j=k then some y else ZK kvs j:=by
 unfold JaQ;by_cases a:(kvs.any fun kv=>decide (kv.1=k))=true
 ·rw [if_pos a,Jmj];rw [JgH] at a;by_cases e:j=k
  ·obtain ⟨x,hx⟩:=Option.isSome_iff_exists.mp a;rw [if_pos e,e,hx,Option.map_some,if_pos rfl]
  ·rw [if_neg e];cases ZK kvs j with
   | none=>rfl
   | some x=>rw [Option.map_some,if_neg e]
 ·rw [if_neg a];refine Jlp k j y kvs ?_;rw [JgH] at a;cases q:ZK kvs k with
  | none=>rfl
  | some x=>rw [q] at a; exact (a rfl).elim
theorem Jf6 (kvs:List (κ×V)) (k:κ) (v:V):(JaQ kvs k v).length≤kvs.length + 1:=by
 unfold JaQ;split
 ·rw [List.length_map]; omega
 ·rw [List.length_append,List.length_cons,List.length_nil]; omega
theorem Jbg.isSome_eq {o:Option V} {u:Option Value} (r:Jbg o u):o.isSome=u.isSome:=by
 cases o with
 | none=>cases u with
  | none=>rfl
  | some _=>exact (show False from r).elim
 | some _=>cases u with
  | none=>exact (show False from r).elim
  | some _=>rfl
theorem Jbg.getD {o:Option V} {u:Option Value} {d:V} {d':Value} (r:Jbg o u) (rd:JY d d'):JY (o.getD d) (u.getD d'):=by
 cases o with
 | none=>cases u with
  | none=>exact rd
  | some _=>exact (show False from r).elim
 | some _=>cases u with
  | none=>exact (show False from r).elim
  | some _=>exact r
theorem KV.val {kvs:List (κ×V)} {vs:List (κ×Value)} (r:KV kvs vs) (k:κ):Jbg (ZK kvs k) (valueAt vs k):=by
 unfold KV at r
 induction r with
 | nil=>exact True.intro
 | @cons p q ps qs h t ih =>
  obtain ⟨h1,h2⟩:=h;by_cases e:p.1=k
  ·have e':q.1=k:=h1.symm.trans e;have b:valueAt (q :: qs) k=some q.2:=by simp [valueAt,List.find?_cons,e']
   rw [Z7 e,b]; exact h2
  ·have e':¬ q.1=k:=fun z=>e (h1.trans z)
   have b:valueAt (q :: qs) k=valueAt qs k:=by simp [valueAt,List.find?_cons,e']
   rw [Z8 e,b]; exact ih
theorem KV.any {kvs:List (κ×V)} {vs:List (κ×Value)} (r:KV kvs vs) (k:κ):(kvs.any fun kv=>decide (kv.1=k))=vs.any fun kv=>decide (kv.1=k):=by
 unfold KV at r
 induction r with
 | nil=>rfl
 | cons h t ih=>rw [List.any_cons,List.any_cons,ih,h.1]
theorem KV.repl {kvs:List (κ×V)} {vs:List (κ×Value)} (r:KV kvs vs) (k:κ) {y:V} {u:Value} (ry:JY y u) :
  KV (kvs.map fun kv=>if kv.1=k then (kv.1,y) else kv) (vs.map fun kv=>if kv.1=k then (kv.1,u) else kv):=by
 unfold KV at r ⊢
 induction r with
 | nil=>exact .nil
 | @cons p q ps qs h t ih =>
  rw [List.map_cons,List.map_cons];refine .cons ?_ ih;obtain ⟨h1,h2⟩:=h;by_cases e:p.1=k
  ·rw [if_pos e,if_pos (h1.symm.trans e)]; exact ⟨h1,ry⟩
  ·rw [if_neg e,if_neg (fun z=>e (h1.trans z))]; exact ⟨h1,h2⟩
theorem KV.put {kvs:List (κ×V)} {vs:List (κ×Value)} (r:KV kvs vs) (k:κ) {y:V} {u:Value} (ry:JY y u):KV (JaQ kvs k y) (stored vs k u):=by
 unfold JaQ stored;rw [r.any k];by_cases e:(vs.any fun kv=>decide (kv.1=k))=true
 ·rw [if_pos e,if_pos e]; exact r.repl k ry
 ·rw [if_neg e,if_neg e]; exact Paired.snoc r ⟨rfl,ry⟩
theorem KV.drop {kvs:List (κ×V)} {vs:List (κ×Value)} (r:KV kvs vs) (k:κ):KV (JsQ kvs k) (without vs k):=by
 unfold KV at r ⊢;unfold JsQ without
 induction r with
 | nil=>exact .nil
 | @cons p q ps qs h t ih =>
  obtain ⟨h1,h2⟩:=h;rw [List.filter_cons,List.filter_cons];by_cases e:p.1=k
  ·have a:¬ decide (p.1≠k)=true:=by simp [e]
   have b:¬ decide (q.1≠k)=true:=by simp [h1.symm.trans e]
   rw [if_neg a,if_neg b]; exact ih
  ·have e':¬ q.1=k:=fun z=>e (h1.trans z)
   have a:decide (p.1≠k)=true:=by simp [e]
   have b:decide (q.1≠k)=true:=by simp [e']
   rw [if_pos a,if_pos b]; exact .cons ⟨h1,h2⟩ ih
theorem KV.keys {kvs:List (κ×V)} {vs:List (κ×Value)} (r:KV kvs vs):kvs.map (·.1)=vs.map (·.1):=by
 unfold KV at r
 induction r with
 | nil=>rfl
 | cons h t ih=>rw [List.map_cons,List.map_cons,ih,h.1]
theorem KV.length {kvs:List (κ×V)} {vs:List (κ×Value)} (r:KV kvs vs):kvs.length=vs.length:=Paired.length r
end
theorem JjT {P:Program} {w:World} {k:J5} {u:Value} (r:JY (kV k) u):(YF P w).is k u=true:=by
 cases k with
 | inl i=>obtain ⟨t,e⟩:=(show ∃ t,u=Value.int i t from r); subst e; exact Jn0 P w i t
 | inr x=>obtain ⟨t,e⟩:=(show ∃ t,u=Value.str x t from r); subst e; exact JbZ P w x t
theorem JlC {P:Program} {w:World}:∀ {ks:List J5} {us:List Value},JL (ks.map kV) us→ItemsAre (YF P w) ks us
 | [],_,r=>by rw [List.map_nil] at r; cases r; exact .nil
 | k :: ks,_,r=>by
  rw [List.map_cons] at r;cases r with
  | cons h t=>exact .cons (JjT h) (JlC t)
abbrev KT (H:Hp):List (List J5×V)→List (List J5×Addr×Value)→Prop:=Paired fun p q=>p.1=q.1∧H q.2.1=some (.tup (p.1.map kV))∧JY p.2 q.2.2
theorem KT.val {H:Hp} {kvs:List (List J5×V)} {xs:List (List J5×Addr×Value)} (r:KT H kvs xs) (k:List J5):Jbg (ZK kvs k) ((atKey xs k).map (·.2)):=by
 induction r with
 | nil=>exact True.intro
 | @cons p q ps qs h t ih =>
  obtain ⟨h1,_,h2⟩:=h;by_cases e:p.1=k
  ·have e':q.1=k:=h1.symm.trans e;have b:atKey (q :: qs) k=some q.2:=by simp [atKey,List.find?_cons,e']
   rw [Z7 e,b]; exact h2
  ·have e':¬ q.1=k:=fun z=>e (h1.trans z)
   have b:atKey (q :: qs) k=atKey qs k:=by simp [atKey,List.find?_cons,e']
   rw [Z8 e,b]; exact ih
theorem KT.repl {H:Hp} {kvs:List (List J5×V)} {xs:List (List J5×Addr×Value)} (r:KT H kvs xs) (k:List J5) {y:V} {u:Value} (ry:JY y u) :
  KT H (kvs.map fun kv=>if kv.1=k then (kv.1,y) else kv) (xs.map (putAt k u)):=by
 induction r with
 | nil=>exact .nil
 | @cons p q ps qs h t ih =>
  rw [List.map_cons,List.map_cons];refine .cons ?_ ih;obtain ⟨h1,h2,h3⟩:=h;unfold putAt;by_cases e:p.1=k
  ·rw [if_pos e,if_pos (h1.symm.trans e)]; exact ⟨h1,h2,ry⟩
  ·rw [if_neg e,if_neg (fun z=>e (h1.trans z))]; exact ⟨h1,h2,h3⟩
theorem KT.put {H:Hp} {kvs:List (List J5×V)} {xs:List (List J5×Addr×Value)} (r:KT H kvs xs) (k:List J5) {b:Addr} {y:V} {u:Value} (hb:H b=some (.tup (k.map kV))) (ry:JY y u) :
  KT H (JaQ kvs k y) (storedH xs k b u):=by
 have e:(kvs.any fun kv=>decide (kv.1=k))=(atKey xs k).isSome:=by
  rw [JgH,(r.val k).isSome_eq,Option.isSome_map]
 unfold JaQ storedH;rw [e];by_cases q:(atKey xs k).isSome=true
 ·rw [if_pos q,if_pos q]; exact r.repl k ry
 ·rw [if_neg q,if_neg q]; exact Paired.snoc r ⟨rfl,hb,ry⟩
theorem KT.keeps {H H':Hp} {kvs:List (List J5×V)} {xs:List (List J5×Addr×Value)} (r:KT H kvs xs) (ht:∀ b ys,H b=some (.tup ys)→H' b=some (.tup ys)):KT H' kvs xs :=
 Paired.mapP r fun _ _ z=>⟨z.1,ht _ _ z.2.1,z.2.2⟩
section
variable {P:Program} {w:World} {H:Hp} {h:Heap} {a:Addr}
theorem JsH {u:HO} (ok:Z2 P w H h) (e:Rd H a u):YO P w H h a u:=e.ok ok
theorem Jpw {kvs:List (J5×V)} (ok:Z2 P w H h) (e:Rd H a (.dK kvs)):kvs.length≤sizeLine∧(a == sysModules)=false∧∃ vs,KV kvs vs∧h.DictOf (YF P w) a vs :=
 show YO P w H h a (.dK kvs) from JsH ok e
theorem JsR {kvs:List (J5×V)} (ok:Z2 P w H h) (e:H a=some (.dK kvs)):kvs.length≤sizeLine∧(a == sysModules)=false∧∃ vs,KV kvs vs∧h.DictOf (YF P w) a vs:=Jpw ok (.inl e)
theorem Jna {ks:List J5} (ok:Z2 P w H h) (e:H a=some (.tup (ks.map kV))):(tupleKind (YF P w)).is h ks a:=by
 obtain ⟨_,its,r,o,h1,h2,n,h3⟩:=(show YO P w H h a (.tup (ks.map kV)) from ok a _ e)
 exact ⟨o,its.toArray,n,h1,h2,h3,by simpa using JlC r⟩
theorem Jpv {kvs:List (List J5×V)} (ok:Z2 P w H h) (e:Rd H a (.dT kvs)):kvs.length≤sizeLine∧(a == sysModules)=false ∧
  ∃ xs,KT H kvs xs∧h.DictOfH (tupleKind (YF P w)) a xs:=by
 obtain ⟨z,y,xs,r,o,es,ep,h1,h2,h3,h4,h5⟩:=(show YO P w H h a (.dT kvs) from JsH ok e)
 refine ⟨z,y,xs,r,o,es,ep,h1,h2,h3,h4,fun x hx=>?_,h5⟩;have all:∀ {l:List (List J5×V)} {m:List (List J5×Addr×Value)},KT H l m→∀ x∈m,(tupleKind (YF P w)).is h x.1 x.2.1:=by
  intro l m q
  induction q with
  | nil=>intro x hx; exact nomatch hx
  | @cons p q ps qs hq t ih =>
   intro x hx;rcases List.mem_cons.mp hx with e | hx
   ·subst e;exact Jna ok (by rw [← hq.1]; exact hq.2.1)
   ·exact ih x hx
 exact all r x hx
theorem JvA {kvs:List (List J5×V)} (ok:Z2 P w H h) (e:H a=some (.dT kvs)):kvs.length≤sizeLine∧(a == sysModules)=false ∧
  ∃ xs,KT H kvs xs∧h.DictOfH (tupleKind (YF P w)) a xs:=Jpv ok (.inl e)
end
def Jel (H:Hp) (a:Addr) (y:V) (r:Option V):Prop :=
 (∃ kvs k,Rd H a (.dK kvs)∧y=kV k∧r=ZK kvs k)∨∃ kvs k b,Rd H a (.dT kvs)∧y=.ref b∧H b=some (.tup (k.map kV))∧r=ZK kvs k
def Jjs (H:Hp) (a:Addr) (y v:V) (H':Hp):Prop :=
 (∃ kvs k,H a=some (.dK kvs)∧y=kV k∧kvs.length < sizeLine∧H'=upd H a (.dK (JaQ kvs k v))) ∨
 ∃ kvs k b,H a=some (.dT kvs)∧y=.ref b∧H b=some (.tup (k.map kV))∧kvs.length < sizeLine∧H'=upd H a (.dT (JaQ kvs k v))
theorem Jel.k {H:Hp} {a:Addr} {kvs:List (J5×V)} {k:J5} (e:H a=some (.dK kvs)):Jel H a (kV k) (ZK kvs k):=.inl ⟨kvs,k,.inl e,rfl,rfl⟩
theorem Jel.t {H:Hp} {a b:Addr} {kvs:List (List J5×V)} {k:List J5} (e:H a=some (.dT kvs)) (eb:H b=some (.tup (k.map kV))):Jel H a (.ref b) (ZK kvs k):=.inr ⟨kvs,k,b,.inl e,rfl,eb,rfl⟩
theorem Jjs.k {H:Hp} {a:Addr} {kvs:List (J5×V)} {k:J5} {v:V} (e:H a=some (.dK kvs)) (hl:kvs.length < sizeLine):Jjs H a (kV k) v (upd H a (.dK (JaQ kvs k v))):=.inl ⟨kvs,k,e,rfl,hl,rfl⟩
theorem Jjs.t {H:Hp} {a b:Addr} {kvs:List (List J5×V)} {k:List J5} {v:V} (e:H a=some (.dT kvs)) (eb:H b=some (.tup (k.map kV))) (hl:kvs.length < sizeLine) :
  Jjs H a (.ref b) v (upd H a (.dT (JaQ kvs k v))):=.inr ⟨kvs,k,b,e,rfl,eb,hl,rfl⟩
section
variable {X:Cx} {pins:List (Addr×Obj)} {σ:St} {H:Hp} {s:Shared} {a:Addr} {y v:V} {u r:Value} {o:Option V} {A:Around} {E:Value→Shared→Prop}
theorem Jq.big (I:Jq X pins σ H s):sysModules < s.heap.objs.size:=by
 have h:mainGlobals < s.heap.objs.size:=(I.mod.glob.keeps I.bk).lt;exact Nat.lt_trans (by decide) h
theorem JqQ {Q:Value→Shared→Prop} (hu:A.units + 1 < cLine) (I:Jq X pins σ H s) (g:Jel H a y (some v)) (ry:JY y u) (h:∀ w' s',Jq X pins σ H s'→JY v w'→Q w' s') :
  wpAny (model X.prog X.w) A (getItem (.ref a) u) Q E s:=by
 rcases g with ⟨kvs,k,e,ey,l⟩ | ⟨kvs,k,b,e,ey,eb,l⟩
 ·subst ey;obtain ⟨z,hd,vs,rel,dd⟩:=Jpw I.hok e;obtain ⟨w',hw,rw'⟩:=Jbg.some_of (v:=v) (o:=valueAt vs k) (by rw [l]; exact rel.val k);exact wpAny_getItem_of (JjT ry) dd.mapOf hw (h w' _ (I.tok _) rw')
 ·subst ey;cases (show u=Value.ref b from ry);obtain ⟨z,hd,xs,rel,dd⟩:=Jpv I.hok e;obtain ⟨w',hw,rw'⟩:=Jbg.some_of (v:=v) (o:=(atKey xs k).map (·.2)) (by rw [l]; exact rel.val k);obtain ⟨p,hp,hp2⟩:=Option.map_eq_some_iff.mp hw;refine wpAny_getItem_heap (tupleKind_room_in1 hu) (Jna I.hok eb) dd hp ?_;rw [hp2];exact h w' _ (I.tok _) rw'
theorem Jld {h':Heap} {t':Nat} {ob:HO} (I:Jq X pins σ H s) (mu:Mut (H a)) (hs:Heap.SameBut a s.heap h') (he:∃ q,h'.get? a=some q) (new:YO X.prog X.w (upd H a ob) h' a ob) :
  Jq X pins σ (upd H a ob) { s with heap:=h',toks:=t' } :=
 I.write (x:=a) (e:=a) mu (.inl rfl) (fun b q hb z=>(hs.2 b hb).trans z) he new
theorem JqM {P:Program} {w:World} {H':Hp} {h':Heap} {kvs:List (J5×V)} {vs:List (J5×Value)} (z:kvs.length≤sizeLine) (hd:(a == sysModules)=false) (rel:KV kvs vs) (dd:h'.DictOf (YF P w) a vs) :
  YO P w H' h' a (.dK kvs):=⟨z,hd,vs,rel,dd⟩
theorem JqP {H':Hp} {Q:Unit→Shared→Prop} (hu:A.units + 1 < cLine) (I:Jq X pins σ H s) (g:Jjs H a y v H') (ry:JY y u) (rv:JY v r) (h:∀ s',Jq X pins σ H' s'→Q () s') :
  wpAny (model X.prog X.w) A (setItem (.ref a) u r) Q E s:=by
 rcases g with ⟨kvs,k,e,ey,l,eH⟩ | ⟨kvs,k,b,e,ey,eb,l,eH⟩
 ·subst ey eH;obtain ⟨z,hd,vs,rel,dd⟩:=JsR I.hok e;have hz:vs.length≤sizeLine:=by rw [← rel.length]; exact z
  have hl:(JaQ kvs k v).length≤sizeLine:=by have:=Jf6 kvs k v; omega
  refine wpAny_setItem_pairs (hsz:=hz) (JjT ry) dd fun h' dd' hs=>h _ ?_
  have he:∃ q,h'.get? a=some q:=let ⟨q,_,_,hq,_⟩:=dd'; ⟨q,hq⟩;exact Jld I (by rw [e]; exact True.intro) hs he (JqM hl hd (rel.put k rv) dd')
 ·subst ey eH;cases (show u=Value.ref b from ry);obtain ⟨z,hd,xs,rel,dd⟩:=JvA I.hok e;have hz:xs.length≤sizeLine:=by rw [← Paired.length rel]; exact z
  have hl:(JaQ kvs k v).length≤sizeLine:=by have:=Jf6 kvs k v; omega
  refine wpAny_setItem_heap (hsz:=hz) (tupleKind_room_in1 hu) (Jna I.hok eb) dd fun h' dd' hs=>h _ ?_
  obtain ⟨q,es,ep,hq,h2,h3,h4,_,h5⟩:=dd';refine Jld I (by rw [e]; exact True.intro) hs ⟨q,hq⟩ ⟨hl,hd,_,(rel.put k eb rv).keeps fun c ys ec=>?_,q,es,ep,hq,h2,h3,h4,h5⟩;rw [JD (Jax ec e (fun z=>nomatch z))];exact ec
end
def Ju0 (i:Expr):Prop:=∀ ov iv,subscripted i false ov iv=operate [ov,iv] (getItem ov iv)
theorem Js1 {prog:Program} {w:World} {A:Around} {E:Value→Shared→Prop} {s:Shared} {env:Env} {value slice:Expr} {pos:Pos} {T id:String} {Q:Value→Shared→Prop}
  (hl:typeLookup (.type T) "__getitem__" = pure (some (.builtin id))) (hs:Ju0 slice)
  (h:wpAny (model prog w) A (eval value env) (fun o s₁=>wpAny (model prog w) A (eval slice env) (fun i s₂=>s₂.TypeIs o T∧wpAny (model prog w) A (getItem o i) Q E s₂) E s₁) E s) :
  wpAny (model prog w) A (eval (.Subscript value slice pos) env) Q E s:=by
 refine Subscript_ (wpAny_mono h (fun o s₁ h₁=>wpAny_mono h₁ (fun i s₂ h₂=>?_) fun _ _ x=>x) fun _ _ x=>x);obtain ⟨hT,h₂⟩:=h₂;unfold subscriptTail;refine wpAny_bind ?_;rw [getitemInPython_of_ne hT.not_modules];refine wpAny_bind (wpAny_specialOf hT hl ?_);have fin:wpAny (model prog w) A (subscripted slice false o i) (fun r s₃=>wpAny (model prog w) A (letTemporaryGo value o r >>= fun _=>pure r) Q E s₃) E s₂:=by
  rw [hs o i];exact wpAny_operating (wpAny_mono h₂ (fun r s₃ h₃=>wpAny_bind (wpAny_letTemporaryGo (wpAny_pure h₃))) fun _ _ x=>x)
 first
  | exact wpAny_pure (wpAny_bind fin)
  | exact wpAny_bind (wpAny_pure (wpAny_bind fin))
  | exact wpAny_bind fin
theorem Jn3 {X:Cx} {pins:List (Addr×Obj)} {σ:St} {H:Hp} {s:Shared} {a:Addr} {y:V} {o:Option V} (I:Jq X pins σ H s) (g:Jel H a y o):s.TypeIs (.ref a) "dict":=by
 rcases g with ⟨kvs,k,e,_,_⟩ | ⟨kvs,k,b,e,_,_,_⟩
 ·obtain ⟨_,_,vs,_,dd⟩:=Jpw I.hok e;exact dd.typeIs
 ·obtain ⟨_,_,xs,_,dd⟩:=Jpv I.hok e;exact dd.typeIs
def Jvd (td ty:TE):TE:=fun σ H Q=>td σ H fun x H1=>ty σ H1 fun y H2=>∃ a v,x=.ref a∧Jel H2 a y (some v)∧Q v H2
def Jvk (td ty tv:TE):TS:=fun D σ H=>tv σ H fun v H1=>td σ H1 fun x H2=>ty σ H2 fun y H3=>∃ a H4,x=.ref a∧Jjs H3 a y v H4∧D.nx σ H4
section
variable {X:Cx} {o i e value:Expr} {pos pos' tpos:Pos} {td ty tv:TE}
theorem JeC (hu:X.A.units + 1 < cLine) (ho:PE X o td) (hi:PE X i ty) (hs:Ju0 i):PE X (.Subscript o i pos) (Jvd td ty):=by
 intro pins s σ H Q I h;refine Js1 PySem.F.slot_dict_getitem.lookup hs (J2 (ho pins s σ H _ I h) fun u s1 ⟨x,H1,I1,rx,q1⟩=>J2 (hi pins s1 σ H1 _ I1 q1) fun iv s2 ⟨y,H2,I2,ry,a,v,ex,g,q2⟩=>?_);subst ex;obtain rfl:u=Value.ref a:=rx;exact ⟨Jn3 I2 g,JqQ hu I2 g ry fun w' s3 I3 rw'=>⟨v,H2,I3,rw',q2⟩⟩
theorem Jtu (hu:X.A.units + 1 < cLine) (ho:PE X o td) (hi:PE X i ty) (hv:PE X value tv) (hs:swapsWith value (some (.Subscript o i pos')) pos.line X.env=pure false) :
  PS X (.Assign [.Subscript o i pos'] value pos) (Jvk td ty tv):=by
 intro pins s σ H D I h;refine wpAny_Assign_Subscript (J2 (hv pins s σ H _ I h) fun r s1 ⟨v,H1,I1,rv,q1⟩=>J2 (ho pins s1 σ H1 _ I1 q1) fun u s2 ⟨x,H2,I2,rx,q2⟩=>J2 (hi pins s2 σ H2 _ I2 q2) fun iv s3 ⟨y,H3,I3,ry,a,H4,ex,g,q3⟩=>?_) hs;subst ex;obtain rfl:u=Value.ref a:=rx;exact JqP hu I3 g ry rv fun s4 I4=>⟨σ,H4,I4,q3⟩
end
theorem Jsn {P:Program} {w:World} {H:Hp} (h:Heap) (hb:sysModules < h.objs.size):YO P w H (h.push { cls:=.type "dict",data:=.dict #[] }) h.objs.size (.dK []) :=
 ⟨Nat.zero_le _,beq_eq_false_iff_ne.mpr (Ne.symm (Nat.ne_of_lt hb)),[],.nil,Heap.DictOf.new h⟩
theorem Jsm {P:Program} {w:World} {H:Hp} (h:Heap) (hb:sysModules < h.objs.size):YO P w H (h.push { cls:=.type "dict",data:=.dict #[] }) h.objs.size (.dT []) :=
 ⟨Nat.zero_le _,beq_eq_false_iff_ne.mpr (Ne.symm (Nat.ne_of_lt hb)),[],.nil,_,#[],0,Heap.get?_push_size _ rfl,⟨rfl,rfl,rfl⟩,rfl,rfl,List.nodup_nil⟩
def Jt7:TE:=fun _ H Q=>∀ p,H p=none→Q (.ref p) (upd H p (.dT []))
section
variable {X:Cx} {pos:Pos}
theorem JrU:PE X (.Dict [] [] pos) Jt7:=fun pins s σ H Q I h =>
 wpAny_Dict_empty ⟨.ref s.heap.objs.size,_,I.laid (a:=s.heap.objs.size) (o:=.dT []) (t':=s.toks) (fun _ _ q=>Heap.get?_push_of_some _ q) (Nat.le_refl _) (Jsm s.heap I.big),rfl,h _ (I.hok.fresh (Nat.le_refl _))⟩
end
def Jmn:List (TE×TE)→St→Hp→(List (V×V)→Hp→Prop)→Prop
 | [],_,H,Q=>Q [] H
 | (tk,tv) :: r,σ,H,Q=>tk σ H fun x H1=>tv σ H1 fun y H2=>Jmn r σ H2 fun ps H3=>Q ((x,y) :: ps) H3
abbrev VV:List (V×V)→List (Value×Value)→Prop:=Paired fun p q=>JY p.1 q.1∧JY p.2 q.2
def PPs (X:Cx) (pos:Pos) (keys:List (Option Expr)) (values:List Expr) (trs:List (TE×TE)):Prop :=
 ∀ (pins:List (Addr×Obj)) (s:Shared) (σ:St) (H:Hp) (Q:List (V×V)→Hp→Prop),Jq X pins σ H s→Jmn trs σ H Q →
  wpAny (model X.prog X.w) X.A (evalPairs (pairTrees keys values X.env pos)) (fun vs s'=>∃ ps H',Jq X pins σ H' s'∧VV ps vs∧Q ps H') X.xe s
theorem Jtv {X:Cx} {pos:Pos}:PPs X pos [] [] []:=fun pins s σ H Q I h=>pairTrees_nil_walk ⟨[],H,I,.nil,h⟩
theorem JmR {X:Cx} {pos:Pos} {k v:Expr} {ks:List (Option Expr)} {vs:List Expr} {tk tv:TE} {trs:List (TE×TE)} (hk:PE X k tk) (hv:PE X v tv) (hr:PPs X pos ks vs trs) :
  PPs X pos (some k :: ks) (v :: vs) ((tk,tv) :: trs):=fun pins s σ H Q I h =>
 pairTrees_cons_walk (J2 (hk pins s σ H _ I h) fun u s1 ⟨x,H1,I1,rx,q1⟩=>J2 (hv pins s1 σ H1 _ I1 q1) fun w2 s2 ⟨y,H2,I2,ry,q2⟩ =>
  J2 (hr pins s2 σ H2 _ I2 q2) fun ws s3 ⟨ps,H3,I3,rel,q3⟩=>⟨(x,y) :: ps,H3,I3,.cons ⟨rx,ry⟩ rel,q3⟩)
def JdJ (kvs more:List (J5×V)):List (J5×V):=more.foldl (fun acc kv=>JaQ acc kv.1 kv.2) kvs
theorem KV.merge:∀ {more:List (J5×V)} {rs:List (J5×Value)} {kvs:List (J5×V)} {vs:List (J5×Value)},KV more rs→KV kvs vs→KV (JdJ kvs more) (merged vs rs):=by
 intro more rs kvs vs r;unfold KV at r
 induction r generalizing kvs vs with
 | nil=>intro q; exact q
 | @cons p q ps qs h t ih =>
  intro r0;have e:KV (JaQ kvs p.1 p.2) (stored vs q.1 q.2):=by
   have:=r0.put p.1 h.2;rw [← h.1]; exact this
  exact ih e
theorem Jhd:∀ (more kvs:List (J5×V)),(JdJ kvs more).length≤kvs.length + more.length
 | [],kvs=>by show kvs.length≤kvs.length + 0; omega
 | p :: r,kvs=>by
  have h1:=Jhd r (JaQ kvs p.1 p.2);have h2:=Jf6 kvs p.1 p.2;show (JdJ (JaQ kvs p.1 p.2) r).length≤_;rw [List.length_cons]; omega
theorem Jj6 {P:Program} {w:World}:∀ {kvs:List (J5×V)} {ws:List (Value×Value)},VV (kvs.map fun kv=>(kV kv.1,kv.2)) ws→∃ rs,Carries (YF P w) ws rs∧KV kvs rs
 | [],_,r=>by rw [List.map_nil] at r; cases r; exact ⟨[],True.intro,.nil⟩
 | p :: kvs,_,r=>by
  rw [List.map_cons] at r;cases r with
  | @cons a b as bs h t =>
   obtain ⟨rs,c,q⟩:=Jj6 (P:=P) (w:=w) t;obtain ⟨b1,b2⟩:=b;exact ⟨(p.1,b2) :: rs,⟨JjT h.1,rfl,c⟩,.cons ⟨rfl,h.2⟩ q⟩
def Jvc (trs:List (TE×TE)):TE:=fun σ H Q=>∀ p,H p=none→Jmn trs σ (upd H p (.dK [])) fun ps H2=>H2 p=some (.dK [])∧∃ kvs:List (J5×V),ps=kvs.map (fun kv=>(kV kv.1,kv.2))∧kvs.length≤15∧Q (.ref p) (upd H2 p (.dK (JdJ [] kvs)))
theorem Jtx {X:Cx} {pos:Pos} {keys:List (Option Expr)} {values:List Expr} {trs:List (TE×TE)} (h:PPs X pos keys values trs) (hall:keys.all (·.isSome)=true) (hl:keys.length=values.length) (h0:keys≠[])
  (h15:keys.length≤15):PE X (.Dict keys values pos) (Jvc trs):=by
 intro pins s σ H Q I q;have hn:=I.hok.fresh (Nat.le_refl s.heap.objs.size);have I1:=I.laid (a:=s.heap.objs.size) (o:=.dK []) (h':=s.heap.push { cls:=.type "dict",data:=.dict #[] }) (t':=s.toks) (fun _ _ q=>Heap.get?_push_of_some _ q) (Nat.le_refl _) (Jsn s.heap I.big);refine wpAny_Dict_walk (knd:=YF X.prog X.w) hall hl h0 h15 (J2 (h pins _ σ _ _ I1 (q _ hn)) fun ws s2 ⟨ps,H2,I2,rel,e,kvs,ep,lk,q2⟩=>?_);subst ep;obtain ⟨rs,c,rk⟩:=Jj6 (P:=X.prog) (w:=X.w) rel;obtain ⟨z,hd,vs0,r0,dd⟩:=JsR I2.hok e;cases r0;refine ⟨rs,c,dd,fun h' dd' hs=>⟨.ref s.heap.objs.size,_,?_,rfl,q2⟩⟩;have hz:(JdJ [] kvs).length≤sizeLine:=by
  have h1:=Jhd kvs [];rw [List.length_nil] at h1;rw [sizeLine_eq]; omega
 have he:∃ q,h'.get? s.heap.objs.size=some q:=let ⟨q,_,_,hq,_⟩:=dd'; ⟨q,hq⟩;exact Jld I2 (by rw [e]; exact True.intro) hs he (JqM hz hd (rk.merge .nil) dd')
end L2
namespace Att
open PySem PySem.W PySem.Calls PyProof.Rows
theorem JjW {P:Params} {h:Heap}:∀ (ns:List Int) (vs:List Value),WellAll P h vs (ns.map WData.int)→IntsAre vs ns:=by
 intro ns
 induction ns with
 | nil =>
  intro vs w;rw [List.map_nil] at w;cases w;exact .nil
 | cons n ns ih =>
  intro vs w;rw [List.map_cons] at w;cases w with
  | cons a b =>
   cases a;exact .cons _ _ (ih _ b)
theorem Jp8 {l:OpenLaw} {n:Nat} (hn:l.most=some n) {P:Params} {h:Heap} {args:List WData} {vals:List Value}
  (hpre:l.row.toRowW.claim.pre args=true) (hwl:WellAll P h vals args) :
  ∃ a vs ns,vals=[Value.ref a]∧args=[WData.list (ns.map WData.int)]∧h.get? a=some { cls:=.type "list",data:=.seq vs.toArray }∧IntsAre vs ns∧ns.length≤n:=by
 have hsh:WShape.hasAll [] args [.list .int]=true:=(pre_splitW hpre).1;have hc:l.pre.holds [] { args:=args }=true:=(pre_splitW hpre).2;obtain ⟨d,r,rfl,h1,h2⟩:=hasAllW_cons hsh;obtain rfl:=hasAllW_nil h2;obtain ⟨xs,rfl,h3⟩:=hasW_list h1;obtain ⟨ns,rfl⟩:=items_int h3;have hlen:ns.length≤n:=by
  unfold OpenLaw.pre at hc;have h4:(WTm.not (.lt (.lit (.int (n:Int))) (.len (.arg 0)))).holds [] { args:=[.list (ns.map .int)] }=true:=by
   have h4:=(holds_andW hc).1;rw [hn] at h4;exact h4
  have h5:=condW_of h4 (w_not (w_lt w_lit (w_len_list (w_arg rfl))));rw [List.length_map] at h5;refine Nat.le_of_not_lt fun q=>?_
  have q':(n:Int) < ((ns.length:Nat):Int):=by omega
  first
   | (rw [decide_eq_true q'] at h5; exact absurd h5 (by decide))
   | (simp at h5; omega)
 cases hwl with
 | cons w1 w2 =>
  cases w2;cases w1 with
  | list ho hall=>exact ⟨_,_,ns,rfl,rfl,ho,JjW ns _ hall,hlen⟩
theorem Jqa (l:OpenLaw) (args:List WData):l.row.toRowW.claim.post args (.bool true) args=true :=
 postW_of (r:=l.row.toRowW) (X:=(true == true))
  (show WShape.has [] (.bool true) .bool=true by first | rfl | decide | simp [WShape.has,WShape.arms,WShape.armsAll])
  (show (WTm.eq .res (.lit (.bool true))).value [] { args:=args,res:=some (.bool true),after:=args }=some (.bool (true == true)) from w_eq_bool (w_res rfl) w_lit) rfl
theorem Jn5 {l:OpenLaw} {n:Nat} {q:Program} {loose:List Str} {XP:(Str→Option Value)→Heap→Prop} {YP:World→Heap→Prop} {d:DefRec}
  (hn:l.most=some n) (hdf:d.params.defaults=[])
  (call:∀ (w:World) (s₀ s₁:Shared) (mg mb:Str→Option Value) (fa:Addr) (o:Obj) (pm cd doc:Value) (a:Addr) (vs:List Value) (ns:List Int),
   Ground q loose [] XP w s₀ mg mb s₁.heap→YP w s₁.heap →
   s₁.heap.get? fa=some o→o.data=.func (docDef d.name d.params d.body d.scope pm cd doc)→s₁.heap.CodeRec cd d.name→mg d.name=some (.ref fa) →
   s₁.heap.get? a=some { cls:=.type "list",data:=.seq vs.toArray }→IntsAre vs ns→ns.length≤n→s₁.gens=#[] →
   codeAny (model l.prog w) callerA (.call (.ref fa) ⟨[.ref a],[]⟩) (fun r s'=>r=.ok (.ret (.bool true))∧OldK s₁.heap s'.heap∧s'.os=s₁.os∧AllBare s'.gens) s₁) :
  WalkO q loose XP YP l.row.toRowW d [] (fun f vs=>PySem.call f vs):=by
 intro w s₀ s₁ mg mb G Y fa o pm cd doc dV kV ho hd hcd hD hmg hg args vals as hpre hlay hrd hwl hlo;obtain rfl:dV=.none:=Dflts.none hD hdf;obtain rfl:kV=.none:=Dflts.noKw hD;obtain ⟨a,vs,ns,rfl,rfl,hobj,hints,hlen⟩:=Jp8 hn hpre hwl;refine enter_call (codeAny_mono (call w s₀ s₁ mg mb fa o pm cd doc a vs ns G Y ho (fd_plain hd) hcd hmg hobj hints hlen hg) fun r s' hq=>?_);obtain ⟨rfl,h2,h3,h4⟩:=hq;exact ⟨.inl ⟨.bool true,.bool true,[],rfl,fun _=>rfl,.bool true,Jqa l _,fun _=>⟨List.Pairwise.nil,fun _ hm=>(nomatch hm)⟩⟩,h2,h3,h4⟩
end Att
namespace L2
open PySem PySem.Spec PyProof.Rows
theorem Jlo:∀ {vs:List Value} {ns:List Int},IntsAre vs ns→JL (ns.map V.int) vs
 | _,_,.nil=>.nil
 | _,_,.cons n t h=>.cons ⟨t,rfl⟩ (Jlo h)
def Jsz (H:Hp):Prop:=∀ b,H b=none∨∃ o xs,H b=some (.frz o (.lst xs))
theorem Jr8 {P:Program} {w:World} {K:PySem.W.Frag} {mg mb:Str→Option Value} {CX:CXT} {k:Nat} {fa a:Addr} {fd:FuncData} {x:Str} {sp:Sp} {s₁:Shared} {vs:List Value} {ns:List Int}
  (KX:K.In s₁.heap) (hns:s₁.heap.Ns mainGlobals mg) (hb:s₁.heap.Ns builtinsNs mb) (hbb:∀ x:Str,x ≠ "__name__"→mb x=bootBuiltins x) (hlim:s₁.heap.NoLimit) (hg:s₁.gens=#[])
  (ha:s₁.heap.get? a=some { cls:=.type "list",data:=.seq vs.toArray }) (hi:IntsAre vs ns) (hl:ns.length≤sizeLine) (hr:Zm k callerA)
  (F:∀ base:Heap,K.In base→base.Ns mainGlobals mg→JM P w K mg base CX k fa fd [x] sp) (hbind:∀ (s:Shared) (u:Value),BindsTo s fd ⟨[u],[]⟩ [(x,u)])
  (hsp:∀ H:Hp,Jsz H→JA K H a (ns.map V.int)→sp [.ref a] H (fun v _=>v=.bl true) fun _ _ _=>False)
  (hCX:∀ H e s',CX [] H s₁ (fun _ _ _=>False) e s'→False) :
  codeAny (model P w) callerA (.call (.ref fa) ⟨[.ref a],[]⟩) (fun r s'=>r=.ok (.ret (.bool true))∧OldK s₁.heap s'.heap∧s'.os=s₁.os∧AllBare s'.gens) s₁:=by
 have rv:=Jlo hi;have lenV:=hi.length;have core:∀ H:Hp,Jsz H→JA K H a (ns.map V.int)→Z2 P w H s₁.heap→(∀ b,H b≠none→b=a)→(H a≠none→K.lookup a=none) →
   codeAny (model P w) callerA (.call (.ref fa) ⟨[.ref a],[]⟩) (fun r s'=>r=.ok (.ret (.bool true))∧OldK s₁.heap s'.heap∧s'.os=s₁.os∧AllBare s'.gens) s₁:=by
  intro H hO hS hok hA hK;have base_of:∀ {b:Addr} {o:Obj},s₁.heap.get? b=some o→H b=none→(JgU s₁.heap H).get? b=some o:=fun e n=>Jsb e n
  have noA:∀ {b:Addr} {o:Obj} {es:Array DictEntry} {ep:Nat},s₁.heap.get? b=some o→o.data=.dict es ep→H b=none:=fun {b o es ep} e d=>by
   cases q:H b with
   | none=>rfl
   | some u =>
    have e':b=a:=hA b (by rw [q]; simp);subst e';rw [ha] at e; cases e;have d':Data.seq vs.toArray _=Data.dict es ep:=d;cases d'
  have nsK:∀ {b:Addr} {m:Str→Option Value},s₁.heap.Ns b m→(JgU s₁.heap H).Ns b m:=fun {b m} ⟨o,es,ep,e,d,r⟩=>⟨o,es,ep,base_of e (noA e d),d,r⟩
  have hKb:K.In (JgU s₁.heap H):=fun b o e=>base_of (KX b o e) (by
   cases q:H b with
   | none=>rfl
   | some u =>
    have e':b=a:=hA b (by rw [q]; simp);subst e';rw [hK (by rw [q]; simp)] at e; cases e)
  have hM:Mod K mg (JgU s₁.heap H):=⟨hKb,nsK hns,⟨mb,nsK hb,hbb⟩,let ⟨mc,h1,h2⟩:=hlim; ⟨mc,nsK h1,h2⟩⟩
  have e0:Jgh P w K mg (JgU s₁.heap H) callerA [] s₁ H:=⟨rfl,hM,fun b o e=>JtI e,Nat.le_of_eq (JqD _ _),trivial,fun b hb=>absurd (show b∈([]:List Addr) from hb) (by simp),hok,.of_eq hg⟩
  refine codeAny_mono ((F _ hKb (nsK hns)).run callerA [] s₁ H ⟨[.ref a],[]⟩ [.ref a] [.ref a] _ _ hr e0 (hbind s₁ (.ref a)) (.cons rfl .nil) (hsp H hO hS)) fun r s' h=>?_
  cases r with
  | error e=>exact (hCX H e s' h).elim
  | ok fl =>
   cases fl with
   | next=>exact False.elim h
   | brk=>exact False.elim h
   | cont=>exact False.elim h
   | ret u =>
    obtain ⟨v,H',os,bare,un,hok',r',q⟩:=h;have q':v=.bl true:=q;subst q';obtain rfl:u=Value.bool true:=r';refine ⟨rfl,OldK.of_keep fun b o e=>?_,os,bare⟩;cases q:H b with
    | none=>exact un.keep b o e q (by intro z; exact absurd (show b∈([]:List Addr) from z) (by simp)) (by simp)
    | some u =>
     rcases hO b with z | ⟨ob,xs,z⟩
     ·rw [q] at z; cases z
     ·have z2:=un.frzs b ob _ z;obtain ⟨e1,_⟩:=hok b _ z;obtain ⟨e2,_⟩:=hok' b _ z2;rw [e] at e1; cases e1;exact e2
 cases hk:K.lookup a with
 | some o =>
  have e:=KX a o hk;rw [ha] at e;cases e;refine core (fun _=>none) (fun _=>.inl rfl) (.inr ⟨_,vs.toArray,_,hk,rfl,rfl,rfl,by rw [List.size_toArray,lenV]; exact hl,by simpa using rv⟩) (fun b u z=>by have z':(none:Option HO)=some u:=z; cases z') (fun b z=>absurd rfl z) fun z=>absurd rfl z
 | none =>
  refine core (fun b=>if b=a then some (.frz { cls:=.type "list",data:=.seq vs.toArray } (.lst (ns.map V.int))) else none) (fun b=>?_) (.inl (.inr ⟨{ cls:=.type "list",data:=.seq vs.toArray },if_pos rfl⟩)) (fun b u z=>?_) (fun b z=>?_) fun _=>hk
  ·by_cases hb:b=a
   ·exact .inr ⟨_,_,if_pos hb⟩
   ·exact .inl (if_neg hb)
  ·by_cases hb:b=a
   ·have z':=(if_pos hb).symm.trans z;cases z';subst hb;exact ⟨ha,by rw [List.length_map]; exact hl,vs,_,rv,ha⟩
   ·have z':=(if_neg hb).symm.trans z;cases z'
  ·by_cases hb:b=a
   ·exact hb
   ·exact absurd (if_neg hb) z
end L2
namespace L2
open PySem PySem.Spec PyProof.Rows
abbrev Yy:CXT:=fun _ _ _ _ _ _=>False
abbrev E0:XK:=fun _ _ _=>False
theorem Jp {X:Cx}:Ja4 Yy X E0:=fun _ _ _ _ _ _ _ h=>h.elim
structure Fun (K:PySem.W.Frag) (x qual:Str) (st:Stmt) (f:Addr) (fd:FuncData):Prop where
 ex:∃ (oc:Value) (od:Option Addr) (kV doc pm:Value) (an:Option Addr) (cdv ct:Value) (osl:Array (Option Value)),
  fd=PySem.W.fnOf x qual (JeH st) (JcC st) (Jn st) .none kV doc pm an cdv ct∧K.lookup f=some ⟨oc,od,.func fd,osl⟩∧PySem.W.codeIn K cdv qual=true
 kp:PySem.W.keepIn K (.ref f)=true
section
variable {P:Program} {w:World} {K:PySem.W.Frag} {mg:Str→Option Value} {base:Heap}
theorem Fun.ok {x qual:Str} {st:Stmt} {f:Addr} {fd:FuncData} {N ps:List Str} {k:Nat} {sp:Sp} (F:Fun K x qual st f fd) (S:Jt N ps (Jn st)) (len:∀ vs H Q E,sp vs H Q E→vs.length=ps.length)
  (hbody:∀ (cdv:Value) (A:Around) (outer:List Env) (s:Shared) (H:Hp) (vs:List V) (Q:VK) (E:XK),Zm k (A.deeper (envOfC qual (Jn st) s.heap.objs.size f cdv))→sp vs H Q E →
   ∃ t,PSs (Jah Yy P w K mg base N qual (Jn st) f cdv A outer s H E).nox (JcC st) t∧t { nx:=fun _ H'=>Q .non H',rt:=Q } (YZ N vs) H):JM P w K mg base Yy (k + 1) f fd ps sp:=by
 obtain ⟨oc,od,kV,doc,pm,an,cdv,ct,osl,rfl,lk,hcd⟩:=F.ex;refine JsO lk hcd S len fun A outer s H vs Q E hr hsp=>?_
 obtain ⟨t,h,q⟩:=hbody cdv A outer s H vs Q E hr hsp;exact ⟨t,h.nox,q⟩
theorem Fun.binds {x qual:Str} {st:Stmt} {f:Addr} {fd:FuncData} {ps:List Str} (F:Fun K x qual st f fd)
  (h:∀ (kV doc pm:Value) (an:Option Addr) (cdv ct:Value) (us:List Value),us.length=ps.length→bindArgs (PySem.W.fnOf x qual (JeH st) (JcC st) (Jn st) .none kV doc pm an cdv ct) ⟨us,[]⟩=pure (ps.zip us)):Jc2 K fd ps []:=by
 obtain ⟨oc,od,kV,doc,pm,an,cdv,ct,osl,rfl,lk,hcd⟩:=F.ex;exact .all (h kV doc pm an cdv ct)
end
theorem JgT {A:Around} {k:Nat} (hr:Zm k A):A.units + 1 < cLine:=Nat.lt_of_le_of_lt (Nat.add_le_add_left (by decide:1≤64) _) hr.units
section
variable {X:Cx}
theorem pv (i:Nat) {x:Str} {pos:Pos} (hN:X.N[i]?=some x:=by rfl) (hv:Vis X.env.scope x:=by first | exact Or.inl rfl | exact Or.inr (Or.inl rfl) | exact Or.inr (Or.inr rfl)) (hd:(x == ("__debug__" : Str))=false:=by decide)
  (hcd:(x == ("__classdict__" : Str))=false:=by decide):PE X (.Name x pos) (JoJ i):=JmT hN hv hd hcd
end
theorem Yk {A B:Prop} (h:B):if false=true then A else B:=by
 rw [if_neg Bool.false_ne_true];exact h
theorem YG {A B:Prop} (h:A):if true=true then A else B:=by
 rw [if_pos rfl];exact h
theorem YW {c A B:Prop} [Decidable c] (h1:c→A) (h2:¬ c→B):if c then A else B:=by
 by_cases h:c
 ·rw [if_pos h];exact h1 h
 ·rw [if_neg h];exact h2 h
def Jf (H H':Hp):Prop:=∀ b o,H b=some o→H' b=some o
theorem Jf.refl (H:Hp):Jf H H:=fun _ _ h=>h
theorem Jf.trans {H H1 H2:Hp} (a:Jf H H1) (b:Jf H1 H2):Jf H H2:=fun c o h=>b c o (a c o h)
theorem Jf.free {H H':Hp} (e:Jf H H') {l:Addr} (h:H' l=Option.none):H l=Option.none:=by
 cases q:H l with
 | none=>rfl
 | some o =>
  rw [e l o q] at h;cases h
theorem Jf.seq {K:PySem.W.Frag} {H H':Hp} {a:Addr} {xs:List V} (e:Jf H H') (h:JA K H a xs):JA K H' a xs:=by
 rcases h with (h | ⟨o,h⟩) | h
 ·exact .inl (.inl (e _ _ h))
 ·exact .inl (.inr ⟨o,e _ _ h⟩)
 ·exact .inr h
end L2
namespace L2
open PySem PySem.Spec PyProof.Rows
structure Df (K:PySem.W.Frag) (mg:Str→Option Value) (x:Str) (st:Stmt) (ps:List Str) (f:Addr) (fd:FuncData):Prop where
 F:Fun K x x st f fd
 b:Jc2 K fd ps []
 m:mg x=some (.ref f)
section
variable {X:Cx} {CX:CXT} {k:Nat} {f C:Addr} {fd:FuncData} {ps:List Str} {sp:Sp} {E:XK} {x m:Str} {p pos apos:Pos} {st:Stmt} {e o:Expr} {es:List Expr} {te ta:TE} {t:TA}
theorem Jj (D:Df X.K X.mg x st ps f fd) (G:JM X.prog X.w X.K X.mg X.base CX k f fd ps sp) (hr:Zm k X.A) (hx:Ja4 CX X E) (ha:PA X (e :: es) t)
  (hg:Gl X x:=by rfl) (hdb:(x == ("__debug__" : Str))=false:=by decide) (he:starEach (e :: es) X.env=(false,eval e X.env) :: starEach es X.env:=by rfl) (hpl:(backTo pos (starEach es X.env)).any (·.1)=false:=by rfl) :
  PE X (.Call (.Name x p) (e :: es) [] pos) (JsG sp [] E t):=Jty G hr hg D.m D.F.kp D.b .nil hx ha hdb he hpl
def Jpz:V→Value
 | .ty n=>.type n
 | .ref a=>.ref a
 | _=>.none
theorem Jb4:Yx X (.builtin "isinstance") (fun xs H Q=>∃ x c t b,xs=[x,c]∧(∃ n,c=.ty n∨∃ a,c=.ref a)∧Jdr X.K H x t∧PySem.W.kitOne X.K t (Jpz c)=some b∧Q (.bl b) H):=by
 intro pins s σ H xs us Q I r h;obtain ⟨x,c,t,b,rfl,hc,ty,e,q⟩:=h;cases r with
 | cons r rr =>
  cases rr with
  | cons r' rr =>
   cases rr;rename_i u u';have e':u'=Jpz c:=by
    obtain ⟨n,rfl | ⟨a,rfl⟩⟩:=hc
    ·exact r'
    ·exact r'
   subst e';exact Jqz I r ty e fun tk=>⟨.bl b,H,I.tok _,rfl,q⟩
def Jvv (S C:String):Option Bool:=if (Value.type S == Value.type C)=true then some true else if PySem.W.kitMeta C=true then (fastBuiltinMro S).map (·.contains (Value.type C)) else none
theorem JhL {K:PySem.W.Frag} {S C:String} {b:Bool} (h:Jvv S C=some b):PySem.W.kitOne K (.type S) (.type C)=some b:=h
theorem JuL {K:PySem.W.Frag}:PySem.W.kitOne K (.type "int") (.type "int")=some true:=JhL (by decide +kernel)
theorem JuM {K:PySem.W.Frag}:PySem.W.kitOne K (.type "int") (.type "bool")=some false:=JhL (by decide +kernel)
theorem JuK {K:PySem.W.Frag}:PySem.W.kitOne K (.type "int") (.type "str")=some false:=JhL (by decide +kernel)
theorem Jqu {K:PySem.W.Frag}:PySem.W.kitOne K (.type "str") (.type "str")=some true:=JhL (by decide +kernel)
theorem Jqt {K:PySem.W.Frag}:PySem.W.kitOne K (.type "tuple") (.type "tuple")=some true:=JhL (by decide +kernel)
end
def JiL (t:TS):TS:=fun D σ H=>@Jh7.rec (fun _=>Prop) (fun nx rt bk ct=>∃ R:St→Hp→Prop,t ⟨R,rt,bk,ct⟩ σ H∧∀ σ' H',R σ' H'→nx σ' H') D
theorem Yc {X:Cx} {st:Stmt} {t:TS} (h:PS X st t):PS X st (JiL t):=by
 intro pins s σ H D I ⟨R,q,n⟩;refine J2 (h pins s σ H _ I q) fun f s1 z=>?_
 cases f with
 | next =>
  obtain ⟨σ',H',I',r⟩:=z;exact ⟨σ',H',I',n _ _ r⟩
 | brk=>exact z
 | cont=>exact z
 | ret u=>exact z
theorem Jf.upd {H:Hp} {p:Addr} {o:HO} (h:H p=none):Jf H (upd H p o):=fun b u e=>by
 rw [JD (JC e h)];exact e
theorem Jf.tup {K:PySem.W.Frag} {H H':Hp} {a:Addr} {xs:List V} (e:Jf H H') (h:JH K H a xs):JH K H' a xs:=by
 rcases h with (h | ⟨o,h⟩) | h
 ·exact .inl (.inl (e _ _ h))
 ·exact .inl (.inr ⟨o,e _ _ h⟩)
 ·exact .inr h
theorem YI {c:Bool} {A B:Prop} (hc:c=true) (h:A):if c=true then A else B:=by rw [if_pos hc]; exact h
theorem Yi {c:Bool} {A B:Prop} (hc:c=false) (h:B):if c=true then A else B:=by rw [hc,if_neg Bool.false_ne_true]; exact h
section
variable {X:Cx} {x:Str} {pos:Pos}
theorem Je6 {S:String} (hg:Gl X x) (hm:X.mg x=none) (hv:bootBuiltins x=some (.type S)) (hn:x ≠ "__name__":=by decide) (hd:(x == ("__debug__" : Str))=false:=by decide):PE X (.Name x pos) (tC (.ty S)):=Jtz hg hm hv rfl hn hd
theorem ZR {a:Addr} (hg:Gl X x) (hm:X.mg x=some (.ref a)) (hd:(x == ("__debug__" : Str))=false:=by decide):PE X (.Name x pos) (tC (.ref a)):=Ja6 hg hm rfl hd
end
end L2
namespace L2
open PySem PySem.Spec PyProof.Rows
structure ExC (K:PySem.W.Frag) (C:Addr):Prop where
 ex:PySem.W.excIn K C [.type "ValueError",.type "Exception",.type "BaseException",.type "object"] "ValueError.__new__" = true
 ga:PySem.W.findIn K (.ref C) "__getattribute__" = some (some (.builtin "BaseException.__getattribute__"))
 gt:PySem.W.findIn K (.ref C) "__getattr__" = some none
 cl:PySem.W.findIn K (.ref C) "__class__" = some (some (.builtin "object.__class__"))
 sp:PySem.W.specialIn K (.builtin "object.__class__") "__get__" = some (some (.builtin "getset_descriptor.__get__"))
 tk:PySem.W.takesIn K (.builtin "object.__class__")=some true
 mo:PySem.W.mroIn K C (.type "object")=some true
 mb:PySem.W.mroIn K C (.type "BaseException")=some true
 ci:(PySem.W.clsIn K C).isSome=true
section
variable {prog:Program} {w:World} {A:Around} {E:Value→Shared→Prop} {s:Shared} {K:PySem.W.Frag} {e C:Addr} {oe:Obj}
def Jjp (h:Heap) (e C:Addr):Prop:=∃ oe,h.get? e=some oe∧oe.cls=.ref C
theorem Jjp.type {h:Heap} {M:Model} (I:Jjp h e C):PySem.W.Looks M h (typeOf (.ref e)) (.ref C):=by
 obtain ⟨oe,h1,h2⟩:=I;exact h2 ▸ (PySem.W.Looks.ld h1).andThen .now
theorem Jsj {M:Model} {h:Heap} (XC:ExC K C) (X:K.In h):PySem.W.Looks M h (Builtin.ObjectAttr.find (.ref e) (.ref C) "__class__") (.bind (.builtin "getset_descriptor.__get__") (.builtin "object.__class__")):=by
 have L1:=PySem.W.looks_findIn (M:=M) X XC.cl;have L2:=PySem.W.looks_specialIn (M:=M) X XC.sp;have L3:=PySem.W.looks_takesIn (M:=M) X XC.tk;unfold Builtin.ObjectAttr.find;refine L1.andThen (L2.andThen ?_);exact (show PySem.W.Looks M h (Builtin.ObjectAttr.dataDescriptor? (some (.builtin "object.__class__")) (some (.builtin "getset_descriptor.__get__"))) (some (.builtin "getset_descriptor.__get__",.builtin "object.__class__")) from L3.andThen .now).andThen (PySem.W.Looks.tag .now)
theorem Jsk {tp:Value} {R:Result→Shared→Prop} (XC:ExC K C) (X:K.In s.heap) (I:Jjp s.heap e C)
  (h:R (.ok (.ret (.ref C))) s):codeAny (model prog w) A (.call (.builtin "getset_descriptor.__get__") ⟨[.builtin "object.__class__",.ref e,tp],[]⟩) R s:=by
 obtain ⟨hh,g,dr,t,os⟩:=s;have L0:=I.type (M:=model prog w);have L1:=PySem.W.looks_mroIn (M:=model prog w) X XC.mo;refine codeAny_call_builtin PySem.W.KF.slot_gs.plain PySem.W.KF.entry_gs (PySem.W.KF.slot_gs.check _ _ _ _ _ _ _ _ PySem.W.KF.type_class (PySem.W.KF.args_gs _ _ _) ?_);unfold Builtin.«getset_descriptor.__get__» Builtin.Getset_descriptor.descrGet;rw [PySem.W.dga_obj];refine wpAny_bind (wpAny_pure ?_);unfold Builtin.Getset_descriptor.descrGetter Builtin.Getset_descriptor.descrCheckInstance Builtin.Getset_descriptor.descrNameAndClass isInstance;simp only [PySem.W.KF.owner_class]
 repeat lk
 refine ⟨Code.quiet_builtin _ (by decide +kernel),codeAny_builtin PySem.W.KF.entry_class ?_⟩;unfold Builtin.«object.__class__» shownTypeOf
 repeat lk
 exact h
theorem Jn2 {tk:Tok} {R:Result→Shared→Prop} (XC:ExC K C) (X:K.In s.heap) (I:Jjp s.heap e C) (h:R (.ok (.ret (.ref C))) s) :
  codeAny (model prog w) A (.call (.builtin "BaseException.__getattribute__") ⟨[.ref e,.str "__class__" tk],[]⟩) R s:=by
 obtain ⟨hh,g,d,t,os⟩:=s;have L0:=I.type (M:=model prog w);have LB:=PySem.W.looks_mroIn (M:=model prog w) X XC.mb;have L1:=Jsj (M:=model prog w) (e:=e) XC X;have hk:builtinKind "BaseException.__getattribute__" = some .slot:=by decide +kernel
 have hsplit:splitId "BaseException.__getattribute__" = some ("BaseException", "__getattribute__"):=by decide +kernel
 have ha:=F.args_bexc_ga (.ref e) (.str "__class__" tk);refine codeAny_call_builtin F.attr_ValueError.ga.plain F.entry_bexc_ga ?_;simp only [checkBuiltinCall,hk,hsplit];refine wpAny_bind ?_;unfold isInstance;refine wpAny_bind (L0.at (LB.at ?_));simp only [Bool.not_true,Bool.false_eq_true,if_false];have hc:wpAny (model prog w) A.in1 (Builtin.«object.__getattribute__» ⟨[.ref e,.str "__class__" tk],[]⟩) (fun fin s'=>match fin with | .done f=>R (.ok f) s' | .again c'=>c'.quiet=true∧codeAny (model prog w) A c' R s') (fun e s'=>R (.error e) s') ⟨hh,g,d,t,os⟩:=by
  unfold Builtin.«object.__getattribute__»;refine wpAny_bind (m:=slotArgs _ _ _) (wpAny_pure ?_);refine wpAny_bind (m:=Builtin.ObjectAttr.attrName _) (wpAny_pure ?_);refine wpAny_bind (L0.at (wpAny_bind (L1.at ?_)));show wpAny _ _ (holding [.builtin "object.__class__"] (call (.builtin "getset_descriptor.__get__") [.builtin "object.__class__",.ref e,.ref C]) >>= ret) _ _ _;refine wpAny_bind (wpAny_holding (wpAny_call (Jsk (s:=⟨hh,g,d,t,os⟩) XC X I ?_)));exact wpAny_pure h
 repeat (any_goals (first | assumption | wp_step))
theorem JqI {Q:Option Value→Shared→Prop} (XC:ExC K C) (X:K.In s.heap) (I:Jjp s.heap e C) (h:Q (some (.ref C)) { s with toks:=s.toks + 1 }):wpAny (model prog w) A (getAttr? (.ref e) "__class__") Q E s:=by
 obtain ⟨hh,g,d,t,os⟩:=s;have L0:=I.type (M:=model prog w);have L1:=PySem.W.looks_findIn (M:=model prog w) X XC.ga;have L2:=PySem.W.looks_findIn (M:=model prog w) X XC.gt;have f3:=F.attr_ValueError.ga.bind (.ref e);unfold getAttr? getAttrBy? getAttrBy;refine wpAny_bind (wpAny_mkText (wpAny_bind (wpAny_attempt (wpAny_holding (wpAny_bind (L0.at (wpAny_bind (L1.at ?_))))))));have hx2:(onTheHeap (Value.ref C) && Value.builtin "BaseException.__getattribute__" == Value.builtin "object.__getattribute__")=false:=by
  rw [show (Value.builtin "BaseException.__getattribute__" == Value.builtin "object.__getattribute__")=false by decide +kernel,Bool.and_false]
 dsimp only;rw [hx2,if_neg Bool.false_ne_true];unfold getAttrByItsOwn hookBefore;rw [if_pos (show onTheHeap (Value.ref C)=true from rfl)];refine wpAny_bind (L2.at ?_);refine wpAny_bind (wpAny_attempt (wpAny_holding ?_));unfold callGetattribute boundAndCalled;rw [Bool.false_and,if_neg Bool.false_ne_true];refine wpAny_bind (wpAny_of_eq f3 ?_);refine wpAny_call (Jn2 (s:=⟨hh,g,d,t + 1,os⟩) XC X I ?_);exact PySem.W.handed_on rfl (wpAny_pure h)
theorem Jr9 (XC:ExC K C):PySem.W.KitX K (.ref e) (.ref C) (fun h=>Jjp h e C) where
 ty:=fun _ _ _ I=>I.type
 it:=fun _ _ X _=>by
  obtain ⟨cd,hc⟩:=Option.isSome_iff_exists.mp XC.ci;unfold PySem.W.clsIn at hc;split at hc
  ·rename_i c' d' cd' sl' ho;intro A' Q' E' s' k q;unfold isType loadHead;exact wpAny_bind (wpAny_loadPart (k _ _ (X _ _ ho)) (wpAny_pure q))
  ·cases hc
 ne:=fun h tp dd its n sl X htp=>by
  obtain ⟨cd,hc⟩:=Option.isSome_iff_exists.mp XC.ci;refine Bool.eq_false_iff.mpr fun q=>?_
  have e:C=tp:=Value.ref.inj (beq_iff_eq.mp q);subst e;unfold PySem.W.clsIn at hc;split at hc
  ·rename_i c' d' cd' sl' ho;have z:=(X _ _ ho).symm.trans htp;cases z
  ·cases hc
 ca:=fun X I k=>JqI XC X I k
end
structure JpH (P:Program) (w:World) (outer:List Env) (H:Hp) (h:Heap) (ea C:Addr) (B:Heap) (H':Hp) (h':Heap):Prop where
 fly:∃ a0,Heap.FlyingW B outer ea (.ref C) a0 h'
 hok:Z2 P w H' B
 keep:∀ b o,h.get? b=some o→H b=none→b∉frs outer→B.get? b=some o
 there:∀ b o,h.get? b=some o→b∉frs outer→∃ o',B.get? b=some o'
 slot:∀ b o,h.get? b=some o→b∈frs outer→∃ sl,h'.get? b=some { o with slots:=sl }
 free:∀ b o,h.get? b=some o→H b=none→H' b=none
 tups:∀ b xs,H b=some (.tup xs)→H' b=some (.tup xs)
 frzs:∀ b o u,H b=some (.frz o u)→H' b=some (.frz o u)
 tbls:∀ b ps,H b=some (.tbl ps)→∃ more,H' b=some (.tbl (ps ++ more))
theorem JpH.un {P:Program} {w:World} {outer:List Env} {H H':Hp} {h h' h'' B:Heap} {ea C:Addr} (F:JpH P w outer H h ea C B H' h') (st:B.StaysIn h'') (sl:∀ b o,h.get? b=some o→b∈frs outer→∃ sl,h''.get? b=some { o with slots:=sl }) :
  Un (frs outer) [] H H' h h'' where
 keep:=fun b o e n hb _=>st b o (F.keep b o e n hb)
 slot:=fun b o e n hb _=>sl b o e hb
 free:=fun b o e n _=>F.free b o e n
 there:=fun b o e _=>by
  by_cases hb:b∈frs outer
  ·obtain ⟨s,q⟩:=sl b o e hb;exact ⟨_,q⟩
  ·obtain ⟨o',q⟩:=F.there b o e hb;exact ⟨o',st b o' q⟩
 tups:=F.tups
 frzs:=F.frzs
 tbls:=F.tbls
theorem JiO {h' h'' base:Heap} {l:List Env} (hl:h'.FunFrames base l) (k:h'.UpToSlots h'') {b:Addr} {o:Obj} {sl:Array (Option Value)} (e:h'.get? b=some { o with slots:=sl }) (hb:b∈frs l):∃ sl,h''.get? b=some { o with slots:=sl }:=by
 obtain ⟨_,o',ho',hd⟩:=hl.mem hb;rw [e] at ho';cases ho';obtain ⟨s,q⟩:=k b _ e hd;exact ⟨s,q⟩
abbrev Zg (P:Program) (w:World):CXT:=fun outer H s E e s'=>∃ (ea C:Addr) (B:Heap) (H':Hp),e=.ref ea∧s'.os=s.os∧AllBare s'.gens∧JpH P w outer H s.heap ea C B H' s'.heap∧E (.ref C) none H'
def Jq3 (X:Cx) (E:XK):Prop:=∀ (pins:List (Addr×Obj)) (σ:St) (H:Hp) (s:Shared) (ea C:Addr) (vs:List Value) (h':Heap),Jq X pins σ H s→Heap.MadeExcOf s.heap h' ea (.ref C) vs→E (.ref C) none H→X.xe (.ref ea) { s with heap:=h' }
section
variable {P:Program} {w:World} {K:PySem.W.Frag} {mg:Str→Option Value} {base:Heap} {N:List Str} {qual:Str} {sc:Scope} {f:Addr} {cd:Value} {A:Around} {outer:List Env} {s:Shared} {H:Hp} {E:XK}
theorem Jcu:Jq3 (Jah (Zg P w) P w K mg base N qual sc f cd A outer s H E) E:=by
 intro pins σ H1 s1 ea C vs h' I hx q;have hstk:frs (Jah (Zg P w) P w K mg base N qual sc f cd A outer s H E).stack=s.heap.objs.size :: frs outer:=rfl;have hin:∀ env∈(Jah (Zg P w) P w K mg base N qual sc f cd A outer s H E).stack,∀ a,env.frame=some a→a∈frs (Jah (Zg P w) P w K mg base N qual sc f cd A outer s H E).stack:=fun env he a ha=>List.mem_filterMap.mpr ⟨env,he,ha⟩
 have notin:∀ {b:Addr} {o:Obj},s.heap.get? b=some o→b∉frs outer→b∉frs (Jah (Zg P w) P w K mg base N qual sc f cd A outer s H E).stack:=fun {b o} e hb hm=>by
  rw [hstk] at hm;rcases List.mem_cons.mp hm with z | z
  ·exact absurd (Heap.lt_size e) (by rw [z]; exact Nat.lt_irrefl _)
  ·exact hb z
 have noex:∀ b:Addr,b∉(Jah (Zg P w) P w K mg base N qual sc f cd A outer s H E).ex:=fun b z=>absurd (show b∈([]:List Addr) from z) (by simp)
 refine wpAny_leaves_madeW (base:=PySem.W.hideAll s1.heap (frs (Jah (Zg P w) P w K mg base N qual sc f cd A outer s H E).stack)) (h:=s1.heap) I.ok.frames rfl (fun b o e=>PySem.W.of_hideAll _ e) (PySem.W.funFrames_hide I.stack hin) hx fun h'' t x1 x2 x3 x4=>?_
 have hF0:s1.heap.FunFrames base outer:=I.funs;have hF1:h'.FunFrames base outer:=hF0.of_keeps fun b o e _=>⟨o,hx.keeps b o e,rfl⟩
 refine ⟨ea,C,_,H1,rfl,I.os,I.bare,⟨⟨_,x1⟩,fun a o e=>?_,fun b o e n hb=>?_,fun b o e hb=>?_,fun b o e hb=>?_,fun b o e n=>I.base.free b o e n (noex b),I.base.tups,I.base.frzs,I.base.tbls⟩,q⟩
 ·have tin:∀ b u,H1 b=some u→∀ o,s1.heap.get? b=some o→(PySem.W.hideAll s1.heap (frs (Jah (Zg P w) P w K mg base N qual sc f cd A outer s H E).stack)).get? b=some o:=fun b u hu o ho=>PySem.W.hideAll_get _ ho fun hm=>by
   rw [I.stkFree b hm] at hu; cases hu
  refine (I.hok a o e).stay (fun b u hb hq=>?_) (fun _ z=>z) fun _ _ z=>z
  rcases hb with rfl | hb
  ·exact tin _ _ e u hq
  ·exact tin _ _ hb u hq
 ·exact PySem.W.hideAll_get _ (I.base.keep b o e n hb (noex b)) (notin e hb)
 ·obtain ⟨o',e'⟩:=I.base.there b o e (noex b);exact ⟨o',PySem.W.hideAll_get _ e' (notin e hb)⟩
 ·obtain ⟨sl,e1⟩:=I.base.slot b o e (I.ok.frf b hb) hb (noex b);exact JiO hF1 x4 (hx.keeps _ _ e1) hb
theorem Yw:Ja4 (Zg P w) (Jah (Zg P w) P w K mg base N qual sc f cd A outer s H E) E:=by
 intro pins σ H1 s1 e s' I hq;obtain ⟨ea,C,B,H2,rfl,os,bare,fl,q⟩:=hq;have hstk:frs (Jah (Zg P w) P w K mg base N qual sc f cd A outer s H E).stack=s.heap.objs.size :: frs outer:=rfl;have sub:∀ {b:Addr},b∈frs outer→b∈frs (Jah (Zg P w) P w K mg base N qual sc f cd A outer s H E).stack:=fun hb=>by rw [hstk]; exact List.mem_cons_of_mem _ hb
 have notin:∀ {b:Addr} {o:Obj},s.heap.get? b=some o→b∉frs outer→b∉frs (Jah (Zg P w) P w K mg base N qual sc f cd A outer s H E).stack:=fun {b o} e hb hm=>by
  rw [hstk] at hm;rcases List.mem_cons.mp hm with z | z
  ·exact absurd (Heap.lt_size e) (by rw [z]; exact Nat.lt_irrefl _)
  ·exact hb z
 have noex:∀ b:Addr,b∉(Jah (Zg P w) P w K mg base N qual sc f cd A outer s H E).ex:=fun b z=>absurd (show b∈([]:List Addr) from z) (by simp)
 obtain ⟨a0,fly⟩:=fl.fly;refine wpAny_leaves_onW I.ok.frames rfl fly fun h'' x1 x2=>?_
 refine ⟨ea,C,B,H2,rfl,os.trans I.os,bare,⟨⟨_,x1⟩,fl.hok,fun b o e n hb=>?_,fun b o e hb=>?_,fun b o e hb=>?_,fun b o e n=>?_,fun b xs e=>fl.tups b xs (I.base.tups b xs e),fun b o u e=>fl.frzs b o u (I.base.frzs b o u e),fun b ps e=>?_⟩,q⟩
 ·exact fl.keep b o (I.base.keep b o e n hb (noex b)) (I.base.free b o e n (noex b)) (notin e hb)
 ·obtain ⟨o',e'⟩:=I.base.there b o e (noex b);exact fl.there b o' e' (notin e hb)
 ·obtain ⟨sl,e1⟩:=I.base.slot b o e (I.ok.frf b hb) hb (noex b);obtain ⟨sl',e2⟩:=fl.slot b _ e1 (sub hb);exact JiO fly.2.2.1 x2 e2 (sub hb)
 ·obtain ⟨o',e'⟩:=I.base.there b o e (noex b);exact fl.free b o' e' (I.base.free b o e n (noex b))
 ·obtain ⟨m1,e1⟩:=I.base.tbls b ps e;obtain ⟨m2,e2⟩:=fl.tbls b _ e1;exact ⟨m1 ++ m2,by rw [e2,Array.append_assoc]⟩
theorem Fun.ok1 {x:Str} {st:Stmt} {fd:FuncData} {ps:List Str} {k:Nat} {sp:Sp} (F:Fun K x qual st f fd) (S:Jt N ps (Jn st)) (len:∀ vs H Q E,sp vs H Q E→vs.length=ps.length)
  (hbody:∀ (cdv:Value) (A:Around) (outer:List Env) (s:Shared) (H:Hp) (vs:List V) (Q:VK) (E:XK),Zm k (A.deeper (envOfC qual (Jn st) s.heap.objs.size f cdv))→sp vs H Q E →
   ∃ t,PSs (Jah (Zg P w) P w K mg base N qual (Jn st) f cdv A outer s H E) (JcC st) t∧t { nx:=fun _ H'=>Q .non H',rt:=Q } (YZ N vs) H):JM P w K mg base (Zg P w) (k + 1) f fd ps sp:=by
 obtain ⟨oc,od,kV,doc,pm,an,cdv,ct,osl,rfl,lk,hcd⟩:=F.ex;exact JsO lk hcd S len fun A outer s H vs Q E hr hsp=>hbody cdv A outer s H vs Q E hr hsp
end
section
variable {X:Cx} {x:Str} {C:Addr} {e:Expr} {te:TE} {np cpos pos:Pos} {E:XK}
def Jmm (C:Addr) (E:XK) (te:TE):TS:=fun D σ H=>te σ H fun v H'=>E (.ref C) none H'
theorem JtA {K:PySem.W.Frag} {h:Heap} {bmB:List Value} {newId:String} (X:K.In h) (q:PySem.W.excIn K C bmB newId=true):OwnCls x C bmB newId (fun _=>some (.ref C)) h:=by
 refine ⟨rfl,?_⟩;unfold PySem.W.excIn at q;split at q
 ·rename_i dd cd sl ho;split at q
  ·rename_i C' bm k0 k1 k2 k3 n k5 hm hs;simp only [Bool.and_eq_true,beq_iff_eq,Bool.not_eq_true'] at q;obtain ⟨⟨⟨⟨⟨rfl,rfl⟩,hdel⟩,ht⟩,hok⟩,hni⟩:=q;obtain ⟨nm,bs,mro,ns,qn,hd,sn,sub,ab,col,del⟩:=cd;dsimp only at hm hdel hok hni;subst hm hdel;have hsl:sl=#[k0,k1,k2,k3,some (.builtin n),k5]:=by
    obtain ⟨l⟩:=sl;simp only at hs;rw [hs]
   subst hsl;exact ⟨bm,ns,nm,qn,bs,hd,sn,sub,ab,col,dd,k0,k1,k2,k3,k5,_,X _ _ ho,.of_isNs (PySem.W.isNs_of_in X hok),PySem.W.nsMap_none_of_in X hok hni,PySem.W.tail_of_in X ht⟩
  ·cases q
 ·cases q
theorem Jbu (XC:ExC X.K C) (hm:X.mg x=some (.ref C)) (hr:Jq3 X E) (he:PE X e te) (hc:X.calm=true:=by rfl) (hg:Gl X x:=by rfl) (hd:(x == ("__debug__" : Str))=false:=by decide)
  (hs:starEach [e] X.env=[(false,eval e X.env)]:=by rfl):PS X (.Raise (some (.Call (.Name x np) [e] [] cpos)) none pos) (Jmm C E te):=by
 intro pins s σ H D I h;obtain ⟨tl,N,nm,q,bs,hdct,sn,sub,ab,col,dd,k0,k1,k2,k3,k5,mN,hC,hN,hni,T⟩:=(JtA (x:=x) I.mod.kin XC.ex).obj;refine wpAny_Raise_call_subU (C:=C) (nm:=nm) (q:=q) (N:=N) (bs:=bs) (bm:=tl) (hdct:=hdct) (sn:=sn) (sub:=sub) (ab:=ab) (col:=col) (dd:=dd) (k0:=k0) (k1:=k1) (k2:=k2) (k3:=k3) (k5:=k5) (mN:=mN)
  F.excBase_ValueError F.excBase_ValueError.hasB F.excBase_ValueError (T.hasType F.excBase_ValueError.hasBase) (I.ok.hd hc) (by rw [hs]; rfl) hni (Jgz I hg hm ⟨rfl,?_⟩ hd)
 rw [hs];refine Calls.evalArgs_plain (Calls.spliced_cons (J2 (he pins s σ H _ I h) fun u s1 ⟨v,H1,I1,r1,q1⟩=>?_));exact Calls.spliced_nil ⟨rfl,by show 1≤sizeLine; decide,I1.bk _ _ hC,hN.keeps I1.bk,T.keeps I1.bk,fun h' ea hx=>hr pins σ H1 s1 ea C _ h' I1 hx q1⟩
end
theorem YO.at_ {P:Program} {w:World} {H:Hp} {h:Heap} {a:Addr} {o:HO} (x:YO P w H h a o):∃ ob,h.get? a=some ob:=by
 cases o with
 | lst xs=>obtain ⟨_,_,_,_,e⟩:=x; exact ⟨_,e⟩
 | tup xs=>obtain ⟨_,_,_,ob,e,_⟩:=x; exact ⟨_,e⟩
 | dK kvs=>obtain ⟨_,_,_,_,o,_,_,e,_⟩:=x; exact ⟨_,e⟩
 | dT kvs=>obtain ⟨_,_,_,_,o,_,_,e,_⟩:=x; exact ⟨_,e⟩
 | set S n=>obtain ⟨o,_,_,_,e,_⟩:=x; exact ⟨_,e⟩
 | ins C dx fs=>obtain ⟨_,_,_,e,_⟩:=x; exact ⟨_,e⟩
 | own y=>obtain ⟨_,e⟩:=x; exact ⟨_,e⟩
 | xd fs=>obtain ⟨_,⟨_,_,_,e,_⟩,_⟩:=x; exact ⟨_,e⟩
 | rng lo hi=>obtain ⟨_,_,_,e⟩:=x; exact ⟨_,e⟩
 | frz ob u=>obtain ⟨e,_⟩:=x; exact ⟨_,e⟩
 | tbl ps=>exact ⟨_,(show h.get? a=some _ from x)⟩
 | met f y=>exact ⟨_,(show h.get? a=some _ from x)⟩
 | ext φ=>obtain ⟨_,⟨_,e⟩,_⟩:=x; exact ⟨_,e⟩
section
variable {X:Cx} {pins:List (Addr×Obj)} {σ:St} {H:Hp} {s:Shared}
theorem JfO {M:Model} {A:Around} {E:Value→Shared→Prop} {i:Nat} {x:Str} {pos:Pos} {Q:Unit→Shared→Prop} (I:Jq X pins σ H s) (hN:X.N.Nodup) (hi:X.N[i]?=some x) (hk:X.env.scope.names.lookup x=some .local)
  (h:∀ s',Jq X pins (σ.set i none) H s'→Q () s'):wpAny M A (do bindName X.env x .none; unbindBehindTheSuite X.env x pos) Q E s:=by
 obtain ⟨m,hn,hl⟩:=id I.loc;have hcls:(X.env.scope.kind == .class || (X.env.scope.kind == .module && X.env.locals != X.env.globals))=false:=by rw [I.ok.kind]; rfl
 have hiσ:i < σ.length:=by rw [I.len]; exact (List.getElem?_eq_some_iff.mp hi).1
 have cne:=I.cne;have tracked:∀ {a:Addr} {h':Heap},(∃ o,s.heap.get? a=some o∧H a=none)→Heap.SameBut a s.heap h'→Z2 X.prog X.w H h':=fun {a h'} ha hs b ob e=>by
  obtain ⟨_,_,hfree⟩:=ha;refine (I.hok b ob e).stay (fun c w' hc q=>(hs.2 c ?_).trans q) (fun _ q=>q) fun _ _ q=>q
  rintro rfl;rcases hc with rfl | hc
  ·rw [hfree] at e; cases e
  ·rw [hfree] at hc; cases hc
 refine wpAny_nameGoes_keeps hk hn hcls (fun h' v0 hn' hs=>?_);obtain ⟨oL,_,_,hoL,_⟩:=id hn;refine h _ ⟨I.ok,I.os,I.bare,⟨fun b o e n hb hx=>?_,fun b o e n hb hx=>?_,I.base.free,fun b o e hx=>?_,I.base.tups,I.base.frzs,I.base.tbls⟩,⟨_,hn',fun j y v' e1 e2 e3=>?_⟩,fun y c e=>?_,I.free,I.freeC,fun p hp=>?_,tracked ⟨oL,hoL,I.free⟩ hs,by simpa using I.len⟩
 ·exact (hs.2 b (Nat.ne_of_lt (Nat.lt_of_lt_of_le (Heap.lt_size e) I.ok.above))).trans (I.base.keep b o e n hb hx)
 ·obtain ⟨sl,e1⟩:=I.base.slot b o e n hb hx;exact ⟨sl,(hs.2 b (Nat.ne_of_lt (Nat.lt_of_lt_of_le (Heap.lt_size e) I.ok.above))).trans e1⟩
 ·obtain ⟨o',e1⟩:=I.base.there b o e hx;exact ⟨o',(hs.2 b (Nat.ne_of_lt (Nat.lt_of_lt_of_le (Heap.lt_size e) I.ok.above))).trans e1⟩
 ·by_cases hj:j=i
  ·subst hj;rw [List.getElem?_set_self hiσ] at e2;cases e2
  ·rw [List.getElem?_set_ne (Ne.symm hj)] at e2;obtain ⟨u',r',q⟩:=hl j y v' e1 e2 e3;refine ⟨u',r',?_⟩;rcases q with ⟨k,e⟩ | ⟨k,c,e,z⟩
   ·refine .inl ⟨k,?_⟩;have:y≠x:=fun e=>hj (JiZ hN e1 (e ▸ hi))
    simp [this,e]
   ·exact .inr ⟨k,c,e,z.sameBut hs (cne y c e)⟩
 ·obtain ⟨w',z⟩:=I.cell y c e;exact ⟨w',z.sameBut hs (cne y c e)⟩
 ·obtain ⟨e,n,ne,nf,d⟩:=I.pin p hp;exact ⟨(hs.2 p.1 ne).trans e,n,ne,nf,d⟩
theorem Jq.turn_to {A:Around} {calm:Bool} {pn pins':List (Addr×Obj)} {xe:Value→Shared→Prop} {σ':St} (I:Jq X pins σ H s) (hf:A.frames=X.A.frames) (hc:calm=true→A.handled=none) (hp:∀ p∈pn ++ pins',p∈X.pn ++ pins∨(s.heap.get? p.1=some p.2∧H p.1=none∧p.1≠X.env.locals∧p.1∉X.fs∧∀ v,p.2.data≠.cell v))
  (hl:σ'.length=σ.length) (wk:∀ (i:Nat) v,σ'[i]?=some (some v)→σ[i]?=some (some v)):Jq { X with A:=A,calm:=calm,pn:=pn,xe:=xe } pins' σ' H s :=
 ⟨⟨I.ok.mod,I.ok.kind,I.ok.glob,I.ok.blt,I.ok.above,I.ok.inj,I.ok.has,I.ok.cab,hc,hf.trans I.ok.frames,I.ok.stk,I.ok.exf,I.ok.bs,I.ok.bsz,I.ok.noex,I.ok.exfs,I.ok.funs,I.ok.frf⟩,I.os,I.bare,I.base,
  let ⟨m,hn,hl'⟩:=I.loc; ⟨m,hn,fun i x v e1 e2 e3=>hl' i x v e1 (wk i v e2) e3⟩,I.cell,I.free,I.freeC,fun p q=>(hp p q).elim (fun z=>I.pin p z) fun z=>z,I.hok,hl.trans I.len⟩
end
def JvR (K:PySem.W.Frag) (Ch:Addr) (i n:Nat) (E:XK) (tb:TS) (th:Addr→Addr→TS):TS:=fun D σ H=>tb D σ H∧∀ ea C H',E (.ref C) none H'→PySem.W.exmOne K (.ref C) (.ref Ch)=some true ∧
 th ea C { nx:=fun σ' H''=>D.nx (σ'.set i none) H'',rt:=D.rt,bk:=fun σ' H''=>D.bk (σ'.set i none) H'',ct:=fun σ' H''=>D.ct (σ'.set i none) H'' } ((List.replicate n none).set i (some (.ref ea))) H'
theorem Juv {X:Cx} {body:List Stmt} {x nm:Str} {i:Nat} {Ch:Addr} {h0:Stmt} {hs:List Stmt} {tb:TS} {th:Addr→Addr→TS} {np hpos pos:Pos} (E:XK) (hN:X.N.Nodup) (hm:X.mg x=some (.ref Ch)) (hi:X.N[i]?=some nm)
  (hb:∀ (pn:List (Addr×Obj)) (xe:Value→Shared→Prop),Ja4 (Zg X.prog X.w) { X with A:=X.A,calm:=X.calm,pn:=pn,xe:=xe } E→PSs { X with A:=X.A,calm:=X.calm,pn:=pn,xe:=xe } body tb)
  (hh:∀ (ea C:Addr) (oe:Obj) (A:Around) (pn:List (Addr×Obj)),(ea,oe)∈pn→oe.cls=.ref C→PSs { X with A:=A,calm:=false,pn:=pn,xe:=fun _ _=>False } (h0 :: hs) (th ea C))
  (hl:X.env.scope.names.lookup nm=some .local:=by rfl) (hg:Gl X x:=by rfl) (hst:X.stack=X.env :: X.outer:=by rfl) (hfr:X.env.frame=some X.env.locals:=by rfl) (hd:(x == ("__debug__" : Str))=false:=by decide) :
  PS X (.Try body [.ExceptHandler (some (.Name x np)) (some nm) (h0 :: hs) hpos] [] [] pos) (JvR X.K Ch i X.N.length E tb th):=by
 intro pins s σ H D I ⟨hbq,hhq⟩;let XE:Value→Shared→Prop:=fun e s'=>∃ pins' σ' H1 s1,Jq { X with A:=X.A,calm:=X.calm,pn:=X.pn ++ pins,xe:=fun _ _=>False } pins' σ' H1 s1∧Zg X.prog X.w X.stack H1 s1 E e s'
 have I1:Jq { X with A:=X.A,calm:=X.calm,pn:=X.pn ++ pins,xe:=XE } [] σ H s:=I.turn_to rfl I.ok.hd (fun p hp=>.inl (by simpa using hp)) rfl fun _ _ e=>e
 have hpass:Ja4 (Zg X.prog X.w) { X with A:=X.A,calm:=X.calm,pn:=X.pn ++ pins,xe:=XE } E:=fun pins' σ' H1 s1 e s' I' hq=>⟨pins',σ',H1,s1,I'.turn_to (X:={ X with A:=X.A,calm:=X.calm,pn:=X.pn ++ pins,xe:=XE }) rfl I'.ok.hd (fun p hp=>.inl hp) rfl fun _ _ e=>e,hq⟩
 have back:∀ {A:Around} {calm:Bool} {pn:List (Addr×Obj)} {xe:Value→Shared→Prop} {σ':St} {H':Hp} {s':Shared},(∀ p∈X.pn ++ pins,p∈pn ++ [])→Jq { X with A:=A,calm:=calm,pn:=pn,xe:=xe } [] σ' H' s'→Jq X pins σ' H' s':=fun hp I' =>
  ⟨I.ok,I'.os,I'.bare,I'.base,I'.loc,I'.cell,I'.free,I'.freeC,fun p q=>I'.pin p (hp p q),I'.hok,I'.len⟩
 refine wpAny_Try_except (wpAny_mono (hb _ _ hpass [] s σ H D I1 hbq) (fun f s1 z=>?_) fun e s1 z=>?_)
 ·have bk:=fun {σ' H' s'}=>back (A:=X.A) (calm:=X.calm) (pn:=X.pn ++ pins) (xe:=XE) (σ':=σ') (H':=H') (s':=s') (fun p hp=>by simpa using hp)
  cases f with
  | next=>obtain ⟨σ',H',I',q⟩:=z; exact wpAny_execs_nil ⟨σ',H',bk I',q⟩
  | brk=>obtain ⟨σ',H',I',q⟩:=z; exact ⟨σ',H',bk I',q⟩
  | cont=>obtain ⟨σ',H',I',q⟩:=z; exact ⟨σ',H',bk I',q⟩
  | ret u=>obtain ⟨v,σ',H',I',r,q⟩:=z; exact ⟨v,σ',H',bk I',r,q⟩
 ·obtain ⟨pins',σ',H1,s0,I',ea,C,B,H2,rfl,os,bare,fl,q⟩:=z;obtain ⟨hexm,hth⟩:=hhq ea C H2 q;obtain ⟨a0,fly⟩:=fl.fly;have fly':Heap.FlyingW B (X.env :: X.outer) ea (.ref C) a0 s1.heap:=by rw [← hst]; exact fly
  refine wpAny_looks_onW (env:=X.env) (outer:=X.outer) (by rw [← hst]; exact I.ok.frames) hfr fly' fun h4 held4 sm4=>?_
  refine wpAny_landsW held4 fun h5 fly5 sm5=>?_
  have mk:∀ {h6:Heap} {t:Nat},Heap.FlyingW B (X.env :: X.outer) ea (.ref C) a0 h6→s1.heap.UpToSlots h6→Jq { X with A:=X.A,calm:=X.calm,pn:=X.pn ++ pins,xe:=fun _ _=>False } pins' σ' H2 { s1 with heap:=h6,toks:=t }:=fun {h6 t} f6 u6=>by
   refine I'.call' (s':={ s1 with heap:=h6,toks:=t }) (ch:=[]) os (fl.un f6.1 fun b o e hb=>?_) (fl.hok.kept fun b u e=>f6.1 b u e) bare (fun b z=>nomatch z);obtain ⟨sl,e1⟩:=fl.slot b o e hb;exact JiO fly.2.2.1 u6 e1 hb
  have I5:Jq { X with A:=X.A.mark (some (.ref ea)),calm:=false,pn:=X.pn ++ pins,xe:=fun _ _=>False } [] (List.replicate X.N.length none) H2 { s1 with heap:=h5 } :=
   (mk (t:=s1.toks) fly5 (sm4.trans sm5)).turn_to rfl (fun z=>by cases z) (fun p hp=>.inl (List.mem_append_left _ (by simpa using hp))) (by rw [List.length_replicate]; exact I'.len.symm) fun j v e=>by
    rw [List.getElem?_replicate] at e;split at e <;> cases e
  refine wpAny_handleBy_cons (codeAny_handlers_test (Jgz I5 hg hm ?_ hd)) (by intro q; cases q);obtain ⟨ob,hob,hobc⟩:=fly5.there;refine PySem.W.exm_one (M:=model X.prog X.w) I5.kIn (Jjp.type ⟨ob,hob,hobc⟩) hexm _ _ _ _ (fun _ _ e=>e) ?_;refine codeAny_handlers_suite_as (lands_againW fly5 fun h6 fly6 sm6=>?_);obtain ⟨oe,ws,hoe,hoec,hoed,hoe0⟩:=fly6.first;have u6:=(sm4.trans sm5).trans sm6;have n2:H2 ea=none:=by
   cases z:H2 ea with
   | none=>rfl
   | some u =>
    obtain ⟨ob,zz⟩:=(fl.hok ea u z).at_;rw [fly6.2.1] at zz; cases zz
  have nL:ea≠X.env.locals:=fun z=>by
   obtain ⟨_,⟨L,o,hf,_,ho,hdd⟩,_⟩:=fly6.2.2.1;rw [hfr] at hf; cases hf;rw [← z,hoe] at ho; cases ho;exact hdd _ hoed
  have nF:ea∉X.fs:=fun z=>by
   obtain ⟨_,o,ho,hdd⟩:=fly6.2.2.1.2.2.mem z;rw [hoe] at ho; cases ho;exact hdd _ hoed
  have I6:Jq { X with A:=X.A.mark (some (.ref ea)),calm:=false,pn:=X.pn ++ pins ++ [(ea,oe)],xe:=fun _ _=>False } [] (List.replicate X.N.length none) H2 { s1 with heap:=h6 } :=
   (mk (t:=s1.toks) fly6 u6).turn_to rfl (fun z=>by cases z) (fun p hp=>by
    rw [List.append_nil] at hp;rcases List.mem_append.mp hp with z | z
    ·exact .inl (List.mem_append_left _ z)
    ·have z':p=(ea,oe):=by simpa using z
     subst z';exact .inr ⟨hoe,n2,nL,nF,fun v z=>by rw [hoed] at z; cases z⟩) (by rw [List.length_replicate]; exact I'.len.symm) fun j v e=>by
    rw [List.getElem?_replicate] at e;split at e <;> cases e
  refine JiM (X:={ X with A:=X.A.mark (some (.ref ea)),calm:=false,pn:=X.pn ++ pins ++ [(ea,oe)],xe:=fun _ _=>False }) I6 hN hi (Or.inl hl) (v:=.ref ea) rfl (fun s7 I7=>?_) (Or.inr hl);have run:=hh ea C oe (X.A.mark (some (.ref ea))) (X.pn ++ pins ++ [(ea,oe)]) (by simp) hoec [] s7 _ H2 _ I7 hth;refine wpAny_mono run (fun f s8 z=>?_) fun _ _ z=>z.elim
  have bk:=fun {σ' H' s'}=>back (A:=X.A.mark (some (.ref ea))) (calm:=false) (pn:=X.pn ++ pins ++ [(ea,oe)]) (xe:=fun _ _=>False) (σ':=σ') (H':=H') (s':=s') (fun p hp=>by rw [List.append_nil]; exact List.mem_append_left _ hp)
  cases f with
  | next=>obtain ⟨σ8,H8,I8,q8⟩:=z; exact JfO (bk I8) hN hi hl fun s9 I9=>⟨_,H8,I9,q8⟩
  | brk=>obtain ⟨σ8,H8,I8,q8⟩:=z; exact JfO (bk I8) hN hi hl fun s9 I9=>⟨_,H8,I9,q8⟩
  | cont=>obtain ⟨σ8,H8,I8,q8⟩:=z; exact JfO (bk I8) hN hi hl fun s9 I9=>⟨_,H8,I9,q8⟩
  | ret u=>obtain ⟨v8,σ8,H8,I8,r8,q8⟩:=z; exact JfO (bk I8) hN hi hl fun s9 I9=>⟨v8,_,H8,I9,r8,q8⟩
def JcL (K:PySem.W.Frag) (ea C:Addr):List V→Hp→VK→Prop:=fun xs H Q=>∃ c b,xs=[.ref ea,c]∧(∃ n,c=.ty n∨∃ a,c=.ref a)∧ExC K C∧PySem.W.kitOne K (.ref C) (Jpz c)=some b∧Q (.bl b) H
theorem Zd {X:Cx} {ea C:Addr} {oe:Obj} (hp:(ea,oe)∈X.pn) (hc:oe.cls=.ref C):Yx X (.builtin "isinstance") (JcL X.K ea C):=by
 intro pins s σ H xs us Q I r h;obtain ⟨c,b,rfl,hcc,XC,e,q⟩:=h;cases r with
 | cons r rr =>
  cases rr with
  | cons r' rr =>
   cases rr;rename_i u u';have e':u'=Jpz c:=by
    obtain ⟨n,rfl | ⟨a,rfl⟩⟩:=hcc
    ·exact r'
    ·exact r'
   subst e';cases (show u=Value.ref ea from r);obtain ⟨h1,_⟩:=I.pin (ea,oe) (List.mem_append_left _ hp);exact PySem.W.kia_one (Jr9 XC) I.kIn ⟨oe,h1,hc⟩ e (fun z=>nomatch z) fun tk=>⟨.bl b,H,I.tok _,rfl,q⟩
end L2
namespace L2
open PySem PySem.Spec PyProof.Rows
theorem PE.imp {X:Cx} {e:Expr} {t t':TE} (h:PE X e t) (i:∀ σ H Q,t' σ H Q→t σ H Q):PE X e t':=fun pins s σ H Q I q=>h pins s σ H Q I (i _ _ _ q)
theorem PS.imp {X:Cx} {e:Stmt} {t t':TS} (h:PS X e t) (i:∀ D σ H,t' D σ H→t D σ H):PS X e t':=fun pins s σ H D I q=>h pins s σ H D I (i _ _ _ q)
theorem Jj5 {sc:Scope} {env:Env} (h:∀ y∈sc.names,y.2=.free→∃ c,env.cells.lookup y.1=some c) :
  ∃ cl,closureFor sc env=pure cl∧(∀ x c,cl.lookup x=some c→env.cells.lookup x=some c)∧∀ y∈sc.names,y.2=.free→∃ c,cl.lookup y.1=some c:=by
 have gen:∀ (names:List (Str×NameKind)) (acc:List (Str×Addr)),(∀ y∈names,y.2=.free→∃ c,env.cells.lookup y.1=some c)→(∀ x c,acc.lookup x=some c→env.cells.lookup x=some c) →
   ∃ cl,(forIn names acc fun x cs=>(do
    if x.2 == NameKind.free then
     let c ← cellOf env x.1
     pure (ForInStep.yield ((x.1,c) :: cs))
    else pure (ForInStep.yield cs)):Sem (List (Str×Addr)))=pure cl∧(∀ x c,cl.lookup x=some c→env.cells.lookup x=some c)∧(∀ x c,acc.lookup x=some c→∃ c,cl.lookup x=some c)∧∀ y∈names,y.2=.free→∃ c,cl.lookup y.1=some c:=by
  intro names
  induction names with
  | nil=>intro acc _ ha; exact ⟨acc,rfl,ha,fun x c e=>⟨c,e⟩,fun y hy=>nomatch hy⟩
  | cons n r ih =>
   intro acc hn ha;obtain ⟨x,k⟩:=n;by_cases hk:k=.free
   ·subst hk;obtain ⟨c,hc⟩:=hn (x,.free) List.mem_cons_self rfl;obtain ⟨cl,e1,e2,e3,e4⟩:=ih ((x,c) :: acc) (fun y hy=>hn y (List.mem_cons_of_mem _ hy)) (fun y d e=>by
     rw [List.lookup_cons] at e;split at e
     ·rename_i q;cases e;rw [beq_iff_eq.mp q];exact hc
     ·exact ha y d e)
    refine ⟨cl,?_,e2,fun y d e=>?_,fun y hy hf=>?_⟩
    ·rw [List.forIn_cons];have z:cellOf env x=pure c:=by unfold cellOf; rw [hc]
     simp only [beq_self_eq_true,if_true,z,pure_bind];exact e1
    ·refine e3 y (if y == x then c else d) ?_;rw [List.lookup_cons];split
     ·rename_i q; simp [q]
     ·rename_i q; simp [q,e]
    ·rcases List.mem_cons.mp hy with rfl | hy
     ·exact e3 x c (by rw [List.lookup_cons]; simp)
     ·exact e4 y hy hf
   ·obtain ⟨cl,e1,e2,e3,e4⟩:=ih acc (fun y hy=>hn y (List.mem_cons_of_mem _ hy)) ha;refine ⟨cl,?_,e2,e3,fun y hy hf=>?_⟩
    ·rw [List.forIn_cons];have z:(k == NameKind.free)=false:=by simpa using hk
     simp only [z,Bool.false_eq_true,if_false,pure_bind];exact e1
    ·rcases List.mem_cons.mp hy with rfl | hy
     ·exact absurd hf hk
     ·exact e4 y hy hf
 obtain ⟨cl,e1,e2,_,e4⟩:=gen sc.names [] h (fun x c e=>by simp at e);refine ⟨cl,?_,e2,e4⟩;unfold closureFor;rw [← bind_pure (pure cl:Sem (List (Str×Addr))),← e1]
def Zl (X:Cx) (Nc:List Str) (sc:Scope) (cl:List (Str×Addr)) (fp:List Addr) (s:Shared) (H:Hp):Cx :=
 { X with N:=Nc,s₀:=s,H₀:=H,env:=compEnvC sc cl s.heap.objs.size X.env,outer:=X.stack,stack:=X.stack,ex:=fp,fn:=fun _=>false,pn:=[],xe:=fun _ _=>False }
def Jh0 (js:List Nat) (σ:St):St:=js.map fun j=>(σ[j]?).join
def Jip (N:List Str) (names:List (Str×NameKind)) (nt:Nat) (Nc:List Str) (sc:Scope) (js:List Nat):Bool :=
 decide Nc.Nodup && decide (Nc.length=nt + js.length) && ((Nc.drop nt).zip js).all (fun p=>N[p.2]? == some p.1 && sc.names.lookup p.1 == some NameKind.free && names.lookup p.1 == some NameKind.cell) &&
  sc.names.all (fun y=>(y.2 == NameKind.local && sc.names.lookup y.1 == some NameKind.local) || (y.2 == NameKind.free && names.lookup y.1 == some NameKind.cell) || (y.2 != NameKind.local && y.2 != NameKind.free && y.2 != NameKind.cell)) && sc.kind == .function
def JfW (σ σ':St):Prop:=σ'.length=σ.length∧∀ (i:Nat) v,σ[i]?=some (some v)→σ'[i]?=some (some v)
theorem JfW.refl (σ:St):JfW σ σ:=⟨rfl,fun _ _ e=>e⟩
theorem JfW.set {σ σ':St} {i:Nat} {x:Option V} (h:JfW σ σ') (e:σ[i]?=some none):JfW σ (σ'.set i x):=by
 refine ⟨by rw [List.length_set]; exact h.1,fun j v q=>?_⟩;by_cases hj:j=i
 ·subst hj; rw [e] at q; cases q
 ·rw [List.getElem?_set_ne (Ne.symm hj)]; exact h.2 j v q
def Jev (J:It) (g:TG) (tc:TT) (te:TE) (σc:St) (D:Addr) (H1:Hp) (Q:Hp→Prop):Prop :=
 ∃ W:Nat→Nat→List V→Hp→Prop,(∃ m,W 0 m [] (upd H1 D (.lst [])))∧∀ i m ys H,W i m ys H→H D=some (.lst ys) ∧
  ((J.stop i H∧Q H)∨(J.go i H∧∃ N:List V→Hp→Prop,(∀ zs H',N zs H'→∃ m',m' < m∧W (i + 1) m' zs H')∧∀ x H',J.yld i H x H'→g x σc H' fun σ2 H2=>JfW σc σ2 ∧
   tc σ2 H2 fun b H3=>if b=true then te σ2 H3 fun v H4=>H4 D=some (.lst ys)∧ys.length < sizeLine∧N (ys ++ [v]) (upd H4 D (.lst (ys ++ [v]))) else N ys H3))
def JnH (X:Cx) (ifs:List Expr) (tc:TT):Prop:=∀ (pins:List (Addr×Obj)) (s:Shared) (σ:St) (H:Hp) (Q:Bool→Hp→Prop),Jq X pins σ H s→tc σ H Q →
 wpAny (model X.prog X.w) X.A (forIn ifs true fun c r=>if r=true then do let ok ← isTrue c X.env (eval c X.env); pure (ForInStep.yield ok) else pure (ForInStep.yield r)) (TP X pins σ Q) X.xe s
def JeM:TT:=fun _ H Q=>Q true H
theorem Jez {X:Cx}:JnH X [] JeM:=fun _ _ _ H _ I q=>wpAny_tests_nil ⟨H,I,q⟩
theorem Jig {X:Cx} {c:Expr} {tc:TT} (h:PT X c tc):JnH X [c] tc:=fun pins s σ H Q I q=>wpAny_tests_one (h pins s σ H Q I q)
theorem Jpy {prog:Program} {w:World} {A:Around} {R:Result→Shared→Prop} {s:Shared} {elt target iter:Expr} {ifs:List Expr} {scope:Scope} {pos:Pos} {it acc:Value} {env:Env} (I:Nat→Shared→Prop)
  (turn:∀ n s,I n s→wpAny (model prog w) A (pyNext it) (fun r s₁=>match r with
   | none=>R (.ok .next) s₁
   | some v=>wpAny (model prog w) A (letOwnedTupleGo target it v) (fun _ s₁'=>wpAny (model prog w) A (assign target env v) (fun _ s₂ =>
     wpAny (model prog w) A (forIn ifs true fun c r=>if r=true then do let ok ← isTrue c env (eval c env); pure (ForInStep.yield ok) else pure (ForInStep.yield r)) (fun ok s₃ =>
      if ok=true then wpAny (model prog w) A (eval elt env) (fun x s₄ =>
       wpAny (model prog w) A (call (.builtin "list.append") [acc,x]) (fun _ s₅=>∃ m,m < n∧I m s₅) (fun _ _=>False) s₄) (fun _ _=>False) s₃
      else ∃ m,m < n∧I m s₃) (fun _ _=>False) s₂) (fun _ _=>False) s₁') (fun _ _=>False) s₁) (fun _ _=>False) s)
  (n:Nat) (h:I n s) :
  codeAny (model prog w) A (.compLoop (.ListComp elt [⟨target,iter,ifs,0⟩] scope pos) 0 it acc env) R s:=by
 refine codeAny_loop rfl I (fun n s hI=>?_) n h;show wpAny _ A ((compTurn (.ListComp elt [⟨target,iter,ifs,0⟩] scope pos) 0 it acc env).onRaise (fun x=>do noteFrame x env; theTreesLotGoes x)) _ _ s;refine wpAny_noted ?_;rw [compTurn_list];refine wpAny_bind (wpAny_standAt (wpAny_bind (wpAny_mono (turn n s hI) (fun r s₁ h₁=>?_) fun _ _ h'=>h'.elim)));cases r with
 | none=>exact wpAny_pure h₁
 | some v =>
  refine wpAny_bind (wpAny_mono h₁ (fun _ s₁' h₁'=>?_) fun _ _ h'=>h'.elim);refine wpAny_bind (wpAny_mono h₁' (fun _ s₂ h₂=>wpAny_bind (wpAny_mono h₂ (fun ok s₃ h₃=>?_) fun _ _ h'=>h'.elim)) fun _ _ h'=>h'.elim);cases ok with
  | false=>exact wpAny_pure ⟨rfl,h₃⟩
  | true =>
   exact wpAny_bind (wpAny_bind (wpAny_mono h₃ (fun x s₄ h₄=>wpAny_bind (wpAny_mono h₄ (fun _ s₅ h₅=>wpAny_pure (wpAny_pure ⟨rfl,h₅⟩)) fun _ _ h'=>h'.elim)) fun _ _ h'=>h'.elim))
theorem Je3 {env:Env}:∀ {names:List (Str×NameKind)} {x:Str} {k':NameKind},
  (names.map fun (n,k)=>if (k == NameKind.free && env.scope.kind == .function && env.kindOf n == some .cell) then (n,NameKind.cell) else (n,k)).lookup x=some k'→∃ k,names.lookup x=some k∧(k'=k∨(k=.free∧k'=.cell))
 | [],x,k',h=>by simp at h
 | (n,k) :: r,x,k',h=>by
  rw [List.map_cons] at h;by_cases hx:x=n
  ·subst hx;by_cases hc:(k == NameKind.free && env.scope.kind == .function && env.kindOf x == some .cell)=true
   ·have h:List.lookup x ((if (k == NameKind.free && env.scope.kind == .function && env.kindOf x == some .cell)=true then (x,NameKind.cell) else (x,k)) :: _)=some k':=h;rw [if_pos hc] at h;simp only [Bool.and_eq_true,beq_iff_eq] at hc;exact ⟨k,by simp [List.lookup_cons],.inr ⟨hc.1.1,by simpa [List.lookup_cons] using h.symm⟩⟩
   ·have h:List.lookup x ((if (k == NameKind.free && env.scope.kind == .function && env.kindOf x == some .cell)=true then (x,NameKind.cell) else (x,k)) :: _)=some k':=h;rw [if_neg hc] at h;exact ⟨k,by simp [List.lookup_cons],.inl (by simpa [List.lookup_cons] using h.symm)⟩
  ·have hb:(x == n)=false:=beq_eq_false_iff_ne.mpr hx;have h:List.lookup x ((if (k == NameKind.free && env.scope.kind == .function && env.kindOf n == some .cell)=true then (n,NameKind.cell) else (n,k)) :: _)=some k':=h;have h2:(r.map fun (n,k)=>if (k == NameKind.free && env.scope.kind == .function && env.kindOf n == some .cell) then (n,NameKind.cell) else (n,k)).lookup x=some k':=by
    by_cases hc:(k == NameKind.free && env.scope.kind == .function && env.kindOf n == some .cell)=true
    ·rw [if_pos hc] at h; simpa [List.lookup_cons,hb] using h
    ·rw [if_neg hc] at h; simpa [List.lookup_cons,hb] using h
   obtain ⟨k0,e,z⟩:=Je3 h2;exact ⟨k0,by simpa [List.lookup_cons,hb] using e,z⟩
theorem Je4 {env:Env}:∀ {names:List (Str×NameKind)} {x:Str},names.lookup x=some .free →
  (names.map fun (n,k)=>if (k == NameKind.free && env.scope.kind == .function && env.kindOf n == some .cell) then (n,NameKind.cell) else (n,k)).lookup x=some .cell∨(names.map fun (n,k)=>if (k == NameKind.free && env.scope.kind == .function && env.kindOf n == some .cell) then (n,NameKind.cell) else (n,k)).lookup x=some .free
 | [],x,h=>by simp at h
 | (n,k) :: r,x,h=>by
  rw [List.map_cons];show List.lookup x ((if (k == NameKind.free && env.scope.kind == .function && env.kindOf n == some .cell)=true then (n,NameKind.cell) else (n,k)) :: _)=_∨List.lookup x ((if (k == NameKind.free && env.scope.kind == .function && env.kindOf n == some .cell)=true then (n,NameKind.cell) else (n,k)) :: _)=_;by_cases hx:x=n
  ·subst hx;have hk:k=.free:=by simpa [List.lookup_cons] using h
   subst hk;split
   ·exact .inl (by simp [List.lookup_cons])
   ·exact .inr (by simp [List.lookup_cons])
  ·have hb:(x == n)=false:=beq_eq_false_iff_ne.mpr hx;have ih:=Je4 (env:=env) (names:=r) (x:=x) (by simpa [List.lookup_cons,hb] using h);split
   ·simpa [List.lookup_cons,hb] using ih
   ·simpa [List.lookup_cons,hb] using ih
section
variable {X:Cx} {pins:List (Addr×Obj)} {σ:St} {H2:Hp} {s2:Shared}
theorem Jj4 {elt tg iter:Expr} {ifs:List Expr} {sc:Scope} {pos:Pos} {nt:Nat} {Nc:List Str} {js:List Nat} {J:It} {fp:List Addr} {it:Addr} {tn:Nat→Heap→Prop} {g:TG} {tc:TT} {te:TE} {Q:Addr→Hp→Prop} {E:Value→Shared→Prop}
  {N:List Str} {names:List (Str×NameKind)} (hcap:Jip N names nt Nc sc js=true) (hNX:X.N=N) (hsX:X.env.scope.names=names)
  (hg:∀ (cl:List (Str×Addr)) (fp:List Addr) (s:Shared) (H:Hp),PG (Zl X Nc sc cl fp s H) tg g) (hc:∀ (cl:List (Str×Addr)) (fp:List Addr) (s:Shared) (H:Hp),JnH (Zl X Nc sc cl fp s H) ifs tc)
  (he:∀ (cl:List (Str×Addr)) (fp:List Addr) (s:Shared) (H:Hp),PE (Zl X Nc sc cl fp s H) elt te) (calm:X.calm=true)
  (I2:Jq X pins σ H2 s2) (T:Jlg X.prog X.w X.K tg J fp it tn) (st2:tn 0 s2.heap) (f2:∀ b∈fp,JfD X pins H2 b)
  (hw:∀ D,H2 D=none→Jev J g tc te (List.replicate nt none ++ Jh0 js σ) D H2 (Q D)) {cl:List (Str×Addr)} (hcl:closureFor sc X.env=pure cl) (hcl1:∀ x c,cl.lookup x=some c→X.env.cells.lookup x=some c) (hcl2:∀ y∈sc.names,y.2=.free→∃ c,cl.lookup y.1=some c) :
  wpAny (model X.prog X.w) X.A (newList []) (fun acc s₃=>wpAny (model X.prog X.w) X.A (newFunctionEnv sc X.env.globals cl [] X.env.qual none .none (some X.env)) (fun cenv s₄ =>
   codeAny (model X.prog X.w) X.A (.compStart (.ListComp elt [⟨tg,iter,ifs,0⟩] sc pos) 0 (.ref it) acc { cenv with scope:=relabel sc X.env }) (fun r s'=>(∃ f,r=.ok f)∧∃ D H',acc=.ref D∧Jq X pins σ H' s'∧(∃ m,s'.heap.Ns cenv.locals m)∧JfD X pins H' cenv.locals∧Q D H') s₄) E s₃) E s2:=by
 simp only [Jip,Bool.and_eq_true,decide_eq_true_eq,List.all_eq_true,beq_iff_eq] at hcap;obtain ⟨⟨⟨⟨nd,hlen⟩,all1⟩,all2⟩,hkind⟩:=hcap;subst hNX hsX;have hcell:∀ y∈sc.names,y.2≠.cell:=fun y hy z=>by
  have q:=all2 y hy;rw [z] at q;simp at q
 refine wpAny_newObj_type (wpAny_newFunctionEnv hcell (by intro y hy; simp at hy) (fun h₁ hns₁ hsb₁=>?_) hkind);have n2:H2 s2.heap.objs.size=none:=I2.hok.fresh (Nat.le_refl _);have I3:Jq X pins σ (upd H2 s2.heap.objs.size (.lst [])) { s2 with heap:=s2.heap.push { cls:=.type "list",data:=.seq ([]:List Value).toArray },toks:=s2.toks } :=
  I2.laid (fun b u e=>Heap.get?_push_of_some _ e) (Nat.le_refl _) ⟨Nat.zero_le _,[],0,.nil,Heap.get?_push_size _ rfl⟩
 obtain ⟨W,⟨m0,w0⟩,step⟩:=hw s2.heap.objs.size n2;generalize eH3:upd H2 s2.heap.objs.size (.lst [])=H3 at I3 w0;generalize es3:({ s2 with heap:=s2.heap.push { cls:=.type "list",data:=.seq ([]:List Value).toArray },toks:=s2.toks }:Shared)=s3 at I3;have e3:s2.heap.push { cls:=.type "list",data:=.seq ([]:List Value).toArray }=s3.heap:=by rw [← es3]
 have old3:∀ b o,s2.heap.get? b=some o→s3.heap.get? b=some o:=fun b o e=>by rw [← e3]; exact Heap.get?_push_of_some _ e
 have old4:∀ b o,s3.heap.get? b=some o→h₁.get? b=some o:=fun b o e=>by
  refine hsb₁.extBut b o ?_ (Heap.get?_push_of_some _ (by rw [← e3] at e; exact e));have:=Heap.lt_size e;rw [← e3] at this;exact Nat.ne_of_lt this
 have eC:(s2.heap.push { cls:=.type "list",data:=.seq ([]:List Value).toArray }).objs.size=s3.heap.objs.size:=by rw [e3]
 have fpold:∀ b∈fp,b < s3.heap.objs.size:=fun b hb=>by
  obtain ⟨o,e,_⟩:=T.obj 0 _ st2 b hb;exact Heap.lt_size (old3 b o e)
 have ok:(Zl X Nc sc cl fp s3 H3).Ok:=⟨I3.mod,hkind,I3.ok.glob,I3.ok.blt,Nat.le_refl _,fun x y c e1 e2=>I3.ok.inj x y c (hcl1 _ _ e1) (hcl1 _ _ e2),fun x hx=>?_,fun x c z=>(by cases z),fun _=>I3.ok.hd calm,I3.ok.frames,.inl rfl,
  fun b hb=>⟨Nat.ne_of_lt (fpold b hb),fun x c e=>(f2 b hb).2.2.2.2.1 x c (hcl1 _ _ e)⟩,I3.bs,Nat.le_trans I3.ok.bsz I3.sz,fun b o e hb=>?_,fun b hb hm=>?_,I3.stack,I3.stkFree⟩
 rotate_left
 ·have hx:(relabel sc X.env).names.lookup x=some .cell∨(relabel sc X.env).names.lookup x=some .free:=hx;have k:sc.names.lookup x=some .free:=by
   rcases hx with hx | hx
   ·obtain ⟨k,e,z⟩:=Je3 hx;rcases z with z | z
    ·subst z; exact absurd rfl (hcell _ (PySem.mem_of_lookup e))
    ·rw [z.1] at e; exact e
   ·obtain ⟨k,e,z⟩:=Je3 hx;rcases z with z | z
    ·subst z; exact e
    ·cases z.2
  exact hcl2 _ (PySem.mem_of_lookup k) rfl
 ·rcases (f2 b hb).2.2.2.1 with z | z
  ·exact I3.ok.noex b o e z
  ·exact absurd (Nat.lt_of_lt_of_le (Heap.lt_size (I3.ok.bs b o e).1) z) (Nat.lt_irrefl _)
 ·rcases List.mem_cons.mp (I3.stkSub b hm) with z | z
  ·exact (f2 b hb).2.1 z
  ·exact (f2 b hb).2.2.1 z
 have Ic:Jq (Zl X Nc sc cl fp s3 H3) [] (List.replicate nt none ++ Jh0 js σ) H3 { s3 with heap:=h₁,toks:=s3.toks + ([]:List (Str×Value)).length }:=by
  refine ⟨ok,rfl,I3.bare,Un.kept old4,⟨_,(by have z:=hns₁; rw [eC] at z; exact z),fun i x v e1 e2 e3'=>?_⟩,fun x c e=>?_,I3.hok.fresh (Nat.le_refl _),fun x c e=>I3.freeC x c (hcl1 _ _ e),(fun p hp=>nomatch hp),I3.hok.kept old4,?_⟩
  ·have hi:nt≤i:=by
    refine Nat.le_of_not_lt fun z=>?_
    rw [List.getElem?_append_left (by simpa using z),List.getElem?_replicate] at e2;split at e2 <;> cases e2
   obtain ⟨k,rfl⟩:∃ k,i=nt + k:=⟨i - nt,by omega⟩
   rw [List.getElem?_append_right (by simp),List.length_replicate,Nat.add_sub_cancel_left] at e2;unfold Jh0 at e2;rw [List.getElem?_map] at e2;cases hj:js[k]? with
   | none=>rw [hj] at e2; cases e2
   | some j =>
    rw [hj] at e2;have e2':(σ[j]?).join=some v:=Option.some.inj e2;have e2'':σ[j]?=some (some v):=by
     cases q:σ[j]? with
     | none=>rw [q] at e2'; cases e2'
     | some o=>rw [q] at e2'; rw [show o=some v from e2']
    have hz:(x,j)∈(Nc.drop nt).zip js:=by
     refine List.mem_of_getElem? (i:=k) ?_;rw [List.getElem?_zip_eq_some];exact ⟨by rw [List.getElem?_drop]; exact e1,hj⟩
    obtain ⟨⟨q1,q2⟩,q3⟩:=all1 _ hz;obtain ⟨m,hn,hl⟩:=I3.loc;obtain ⟨u,r,look⟩:=hl j x v q1 e2'' (Or.inr (Or.inl q3));refine ⟨u,r,.inr ⟨Je4 q2,?_⟩⟩;obtain ⟨c',hc'⟩:=hcl2 _ (PySem.mem_of_lookup q2) rfl;rcases look with ⟨z,_⟩ | ⟨_,c,z1,z2⟩
    ·have z:X.env.scope.names.lookup x=some .local:=z;rw [q3] at z; cases z
    ·have z3:=hcl1 _ _ hc';rw [z1] at z3;cases z3;obtain ⟨o,ho,hd⟩:=z2;exact ⟨_,hc',o,old4 _ _ ho,hd⟩
  ·obtain ⟨v,o,ho,hd⟩:=I3.cell x c (hcl1 _ _ e);exact ⟨v,o,old4 _ _ ho,hd⟩
  ·show (List.replicate nt none ++ Jh0 js σ).length=Nc.length;unfold Jh0;rw [List.length_append,List.length_replicate,List.length_map,hlen]
 have fpok:∀ {H:Hp},(∀ b∈fp,H b=none)→∀ b∈fp,JfD (Zl X Nc sc cl fp s3 H3) [] H b:=fun hn b hb =>
  ⟨hn b hb,Nat.ne_of_lt (fpold b hb),ok.exfs b hb,.inl hb,fun x c e=>(f2 b hb).2.2.2.2.1 x c (hcl1 _ _ e),(fun p hp=>nomatch hp)⟩
 have fr0:∀ b∈fp,H3 b=none:=fun b hb=>by
  rw [← eH3,JD (Nat.ne_of_lt (by obtain ⟨o,e,_⟩:=T.obj 0 _ st2 b hb; exact Heap.lt_size e))];exact (f2 b hb).1
 have st4:tn 0 h₁:=T.keep 0 _ _ st2 fun b hb o e=>old4 b o (old3 b o e)
 have back:∀ {σ':St} {H:Hp} {s':Shared} {pn:List (Addr×Obj)},Jq (Zl X Nc sc cl fp s3 H3) pn σ' H s'→Jq X pins σ H s':=fun {σ' H s' pn} Jv =>
  I3.call' (ch:=fp) Jv.os Jv.base Jv.hok Jv.bare fun b hb=>⟨(f2 b hb).2.2.2.1,(f2 b hb).2.1,(f2 b hb).2.2.2.2.1,(f2 b hb).2.2.2.2.2⟩
 have loop:codeAny (model X.prog X.w) X.A (.compLoop (.ListComp elt [⟨tg,iter,ifs,0⟩] sc pos) 0 (.ref it) (.ref s2.heap.objs.size) (compEnvC sc cl s3.heap.objs.size X.env))
   (fun r s'=>(∃ f,r=.ok f)∧∃ D H',(Value.ref s2.heap.objs.size)=.ref D∧Jq X pins σ H' s'∧(∃ m,s'.heap.Ns s3.heap.objs.size m)∧JfD X pins H' s3.heap.objs.size∧Q D H') { s3 with heap:=h₁,toks:=s3.toks + ([]:List (Str×Value)).length }:=by
  refine Jpy (fun n s'=>∃ i ys H,Jq (Zl X Nc sc cl fp s3 H3) [] (List.replicate nt none ++ Jh0 js σ) H s'∧tn i s'.heap∧(∀ b∈fp,H b=none)∧W i n ys H) ?_ m0 ⟨0,[],H3,Ic,st4,fr0,w0⟩;rintro n s' ⟨i,ys,H,I,st,fr,w⟩;obtain ⟨hD,⟨stop,qn⟩ | ⟨go,Nx,hNx,stepx⟩⟩:=step i n ys H w
  ·refine J2 (T.done (Zl X Nc sc cl fp s3 H3) rfl rfl rfl calm i [] s' _ H _ I (fpok fr) st stop) fun r s1 ⟨hr,I1⟩=>?_
   subst hr;obtain ⟨m,hn,_⟩:=I1.loc;exact ⟨⟨_,rfl⟩,_,H,rfl,back I1,⟨m,hn⟩,I3.fpOk (Nat.le_refl _) I1.free,qn⟩
  ·refine J2 (T.item (Zl X Nc sc cl fp s3 H3) rfl rfl rfl calm i [] s' _ H _ I (fpok fr) st go) fun r s1 ⟨u,hr,h4⟩=>?_
   subst hr;refine J2 h4 fun _ s5 ⟨x,H5,I5,r5,y5,st5,fr5⟩=>?_
   have I5':=I5.pinned (fpok fr5) (T.obj _ _ st5);refine J2 (hg cl fp s3 H3 _ s5 _ H5 x u _ I5' r5 (stepx x H5 y5)) fun _ s6 ⟨σ6,H6,I6,ag,q6⟩=>?_
   have again:∀ {H7:Hp} {s7:Shared} {m':Nat} {zs:List V},Jq (Zl X Nc sc cl fp s3 H3) ([] ++ Jhs fp s5.heap) σ6 H7 s7→m' < n→W (i + 1) m' zs H7→∃ m,m < n∧∃ i ys H,Jq (Zl X Nc sc cl fp s3 H3) [] (List.replicate nt none ++ Jh0 js σ) H s7∧tn i s7.heap∧(∀ b∈fp,H b=none)∧W i m ys H:=fun {H7 s7 m' zs} I7 hm w7=>by
    refine ⟨m',hm,i + 1,zs,H7,I7.unpinned.weak ag.1.symm ag.2,T.keep _ _ _ st5 fun b hb o e=>(I7.pin (b,o) (List.mem_append_right _ (List.mem_append_right _ (Jet hb e)))).1,fun b hb=>?_,w7⟩;obtain ⟨o,e,d⟩:=T.obj _ _ st5 b hb;exact (I7.pin (b,o) (List.mem_append_right _ (List.mem_append_right _ (Jet hb e)))).2.1
   refine J2 (hc cl fp s3 H3 _ s6 σ6 H6 _ I6 q6) fun bk s7 ⟨H7,I7,q7⟩=>?_
   cases bk with
   | false =>
    rw [if_neg Bool.false_ne_true] at q7 ⊢;obtain ⟨m',hm,w7⟩:=hNx _ _ q7;exact again I7 hm w7
   | true =>
    rw [if_pos rfl] at q7 ⊢;refine J2 (he cl fp s3 H3 _ s7 σ6 H7 _ I7 q7) fun xv s8 ⟨v,H8,I8,r8,hD8,hlen8,qN⟩=>?_
    obtain ⟨m',hm,w8⟩:=hNx _ _ qN;refine J2 (YH _ s8 σ6 H8 (.ref s2.heap.objs.size) [v] (.ref s2.heap.objs.size) [xv] (fun _ H9=>H9=upd H8 s2.heap.objs.size (.lst (ys ++ [v]))) I8 rfl (.cons r8 .nil) ?_) fun _ s9 ⟨_,H9,I9,_,e9⟩=>?_
    ·exact ⟨_,_,_,rfl,rfl,hD8,hlen8,rfl⟩
    ·subst e9;exact again I9 hm w8
 rw [eC] at *;exact codeAny_compStart_list loop (T.self _ 0 _ _ _ st4 loop)
def tLC (wi:TI) (g:TG) (tc:TT) (te:TE) (nt:Nat) (js:List Nat):TE:=fun σ H Q=>wi σ H fun J H1=>∀ D,H1 D=none→Jev J g tc te (List.replicate nt none ++ Jh0 js σ) D H1 fun H'=>Q (.ref D) H'
theorem JlL {N:List Str} {names:List (Str×NameKind)} {nt:Nat} {Nc:List Str} {sc:Scope} {js:List Nat} (h:Jip N names nt Nc sc js=true):(∀ y∈sc.names,y.2=.local→sc.names.lookup y.1=some .local)∧(∀ y∈sc.names,y.2=.free→names.lookup y.1=some .cell)∧sc.kind=.function:=by
 simp only [Jip,Bool.and_eq_true,decide_eq_true_eq,List.all_eq_true,beq_iff_eq] at h;obtain ⟨⟨⟨⟨nd,hlen⟩,all1⟩,all2⟩,hkind⟩:=h;refine ⟨fun y hy hl=>?_,fun y hy hl=>?_,hkind⟩
 ·have q:=all2 y hy;rw [hl] at q;simpa using q
 ·have q:=all2 y hy;rw [hl] at q;simpa using q
theorem JgR {elt tg iter:Expr} {ifs:List Expr} {sc:Scope} {pos:Pos} {nt:Nat} {Nc:List Str} {js:List Nat} {wi:TI} {g:TG} {tc:TT} {te:TE} {N:List Str} {names:List (Str×NameKind)}
  (hcap:Jip N names nt Nc sc js=true) (hi:PI X tg iter wi)
  (hg:∀ (cl:List (Str×Addr)) (fp:List Addr) (s:Shared) (H:Hp),PG (Zl X Nc sc cl fp s H) tg g) (hc:∀ (cl:List (Str×Addr)) (fp:List Addr) (s:Shared) (H:Hp),JnH (Zl X Nc sc cl fp s H) ifs tc)
  (he:∀ (cl:List (Str×Addr)) (fp:List Addr) (s:Shared) (H:Hp),PE (Zl X Nc sc cl fp s H) elt te) (hNX:X.N=N:=by rfl) (hsX:X.env.scope.names=names:=by rfl) (calm:X.calm=true:=by rfl)
  (hs:∀ x,foldedSetIterable iter X.env x=pure x:=by intro _; rfl):PE X (.ListComp elt [⟨tg,iter,ifs,0⟩] sc pos) (tLC wi g tc te nt js):=by
 intro pins s σ H Q I h;obtain ⟨hn1,hn2,hkind⟩:=JlL hcap;obtain ⟨cl,hcl,hcl1,hcl2⟩:=Jj5 (sc:=sc) (env:=X.env) fun y hy hf=>I.ok.has y.1 (.inl (by show X.env.scope.names.lookup y.1=_; rw [hsX]; exact hn2 y hy hf))
 rw [eval_ListComp];refine wpAny_comprehension_free (use:=none) rfl hs hcl hkind hn1 (J2 (hi pins s σ H _ I h) fun v s1 h1=>J2 h1 fun itv s2 h2=>?_);obtain ⟨it,fp,tn,J,H2,e,I2,T,st2,f2,hw⟩:=h2;subst e;refine wpAny_mono (Jj4 (E:=fun _ _=>False) (Q:=fun D H'=>Q (.ref D) H') hcap hNX hsX hg hc he calm I2 T st2 f2 hw hcl hcl1 hcl2) (fun acc s3 h3=>wpAny_mono h3 (fun cenv s4 h4=>codeAny_mono h4 fun r s' hr=>?_) fun _ _ z=>z.elim) fun _ _ z=>z.elim
 obtain ⟨⟨f,rfl⟩,D,H',rfl,Jv,⟨m,hn⟩,fC,q⟩:=hr;obtain ⟨f0,f1,f2',f3,f4,f5⟩:=fC;exact ⟨m,hn,fun h' hs'=>⟨.ref D,H',Jv.turned (t':=s'.toks) (fun b o hb e=>(hs'.2 b hb).trans e) f0 f1 f3 f4 f5,rfl,q⟩⟩
theorem Jo3 {elt tg iter:Expr} {ifs:List Expr} {sc:Scope} {pos spos py:Pos} {y:Str} {i:Nat} {nt:Nat} {Nc:List Str} {js:List Nat} {wi:TI} {g:TG} {tc:TT} {te:TE} {N:List Str} {names:List (Str×NameKind)}
  (hcap:Jip N names nt Nc sc js=true) (hN:X.N.Nodup) (hiy:X.N[i]?=some y) (hi:PI X tg iter wi)
  (hg:∀ (cl:List (Str×Addr)) (fp:List Addr) (s:Shared) (H:Hp),PG (Zl X Nc sc cl fp s H) tg g) (hc:∀ (cl:List (Str×Addr)) (fp:List Addr) (s:Shared) (H:Hp),JnH (Zl X Nc sc cl fp s H) ifs tc)
  (he:∀ (cl:List (Str×Addr)) (fp:List Addr) (s:Shared) (H:Hp),PE (Zl X Nc sc cl fp s H) elt te) (hNX:X.N=N:=by rfl) (hsX:X.env.scope.names=names:=by rfl) (calm:X.calm=true:=by rfl)
  (hsw:swapsWith (.ListComp elt [⟨tg,iter,ifs,0⟩] sc pos) (some (.Name y py)) spos.line X.env=pure true:=by rfl) (hy:X.env.scope.names.lookup y=some .local:=by rfl)
  (hs:∀ x,foldedSetIterable iter X.env x=pure x:=by intro _; rfl):PS X (.Assign [.Name y py] (.ListComp elt [⟨tg,iter,ifs,0⟩] sc pos) spos) (Jrb (tLC wi g tc te nt js) (JbK i)):=by
 intro pins s σ H D0 I h;obtain ⟨hn1,hn2,hkind⟩:=JlL hcap;obtain ⟨cl,hcl,hcl1,hcl2⟩:=Jj5 (sc:=sc) (env:=X.env) fun y hy hf=>I.ok.has y.1 (.inl (by show X.env.scope.names.lookup y.1=_; rw [hsX]; exact hn2 y hy hf))
 rw [exec_Assign_Name_used _ _ _ _ hsw];refine wpAny_bind (wpAny_standAt (wpAny_bind ?_));show wpAny _ X.A (do let _ ← comprehension (.ListComp elt [⟨tg,iter,ifs,0⟩] sc pos) sc X.env _ (newList []) false (eval iter X.env) (some (assign (.Name y py) X.env))) _ _ s;refine wpAny_bind (wpAny_mono (wpAny_comprehension_free (use:=some (assign (.Name y py) X.env)) (Q:=fun _ s'=>SP X pins D0 .next s') rfl hs hcl hkind hn1
  (J2 (hi pins s σ H _ I h) fun v s1 h1=>J2 h1 fun itv s2 h2=>?_)) (fun _ s' hq=>wpAny_pure (wpAny_pure hq)) fun _ _ e=>e)
 obtain ⟨it,fp,tn,J,H2,e,I2,T,st2,f2,hw⟩:=h2;subst e;refine wpAny_mono (Jj4 (E:=fun _ _=>False) (Q:=fun D H'=>JbK i (.ref D) σ H' D0.nx) hcap hNX hsX hg hc he calm I2 T st2 f2 hw hcl hcl1 hcl2) (fun acc s3 h3=>wpAny_mono h3 (fun cenv s4 h4=>codeAny_mono h4 fun r s' hr=>?_) fun _ _ z=>z.elim) fun _ _ z=>z.elim
 obtain ⟨⟨f,rfl⟩,D,H',rfl,Jv,⟨m,hn⟩,fC,q⟩:=hr;obtain ⟨f0,f1,f2',f3,f4,f5⟩:=fC;show wpAny _ X.A (assign (.Name y py) X.env (.ref D)) _ _ _;refine wpAny_assign_Name (Jlq Jv hN hiy (Or.inl hy) (v:=.ref D) rfl (fun s'' I'' ⟨a,hsame,ha⟩=>?_) (Or.inr hy));refine ⟨m,hn.sameBut hsame ?_,fun h' hs'=>⟨_,H',I''.turned (t':=s''.toks) (fun b o hb e=>(hs'.2 b hb).trans e) f0 f1 f3 f4 f5,q⟩⟩;rcases ha with rfl | ha
 ·exact f1
 ·exact (f4 y a ha).symm
end
section
variable {X:Cx} {Nc:List Str} {sc:Scope} {cl:List (Str×Addr)} {fp:List Addr} {s:Shared} {H:Hp} {x:Str} {pos:Pos}
theorem Jbv (i:Nat) (hN:Nc[i]?=some x:=by rfl) (hf:sc.names.lookup x=some .free:=by rfl) (hd:(x == ("__debug__" : Str))=false:=by decide) (hcd:(x == ("__classdict__" : Str))=false:=by decide):PE (Zl X Nc sc cl fp s H) (.Name x pos) (JoJ i) :=
 JmT hN (Or.inr (Je4 hf)) hd hcd
theorem Jaa (i:Nat) (hN:Nc[i]?=some x:=by rfl) (hl:sc.names.lookup x=some .local:=by rfl) (hd:(x == ("__debug__" : Str))=false:=by decide) (hcd:(x == ("__classdict__" : Str))=false:=by decide):PE (Zl X Nc sc cl fp s H) (.Name x pos) (JoJ i) :=
 JmT hN (Or.inl (lookup_relabel_local hl)) hd hcd
theorem JaX (i:Nat) (nd:Nc.Nodup) (hN:Nc[i]?=some x:=by rfl) (hl:sc.names.lookup x=some .local:=by rfl):PG (Zl X Nc sc cl fp s H) (.Name x pos) (JbK i) :=
 JT nd hN (Or.inl (lookup_relabel_local hl)) (Or.inr (lookup_relabel_local hl))
end
section
variable {tc:TT} {te:TE} {σc:St} {D:Addr} {H1:Hp} {Q:Hp→Prop}
theorem Jle {J:It} {n:Nat} {X1:Nat→V→Prop} (Pv:Nat→List V→Hp→Prop) (h00:σc[0]?=some none) (hgo:∀ i H,i < n→(∃ ys,Pv i ys H)→J.go i H∧∀ x H',J.yld i H x H'→H'=H∧X1 i x) (hstop:∀ H,(∃ ys,Pv n ys H)→J.stop n H)
  (h0:Pv 0 [] (upd H1 D (.lst []))) (hl:∀ i ys H,Pv i ys H→H D=some (.lst ys))
  (hs:∀ i x ys H,i < n→X1 i x→Pv i ys H→tc (σc.set 0 (some x)) H fun b H3=>if b=true then te (σc.set 0 (some x)) H3 fun v H4=>H4 D=some (.lst ys)∧ys.length < sizeLine∧Pv (i + 1) (ys ++ [v]) (upd H4 D (.lst (ys ++ [v]))) else Pv (i + 1) ys H3)
  (hd:∀ ys H,Pv n ys H→Q H):Jev J (JbK 0) tc te σc D H1 Q:=by
 refine ⟨fun i m ys H=>m=n - i∧i≤n∧Pv i ys H,⟨n,by simp,Nat.zero_le _,h0⟩,?_⟩;rintro i m ys H ⟨rfl,hi,p⟩;refine ⟨hl _ _ _ p,?_⟩;by_cases hlt:i < n
 ·obtain ⟨g1,g2⟩:=hgo i H hlt ⟨_,p⟩;refine .inr ⟨g1,Pv (i + 1),fun zs H' p'=>⟨n - (i + 1),by omega,rfl,hlt,p'⟩,fun x H' y=>?_⟩;obtain ⟨e,y1⟩:=g2 x H' y;subst e;exact ⟨(JfW.refl _).set h00,hs i x ys _ hlt y1 p⟩
 ·have e:i=n:=by omega
  subst e;exact .inl ⟨hstop H ⟨_,p⟩,hd _ _ p⟩
theorem Jj2 {lo:Int} {n:Nat} (Pv:Nat→List V→Hp→Prop) (h00:σc[0]?=some none) (h0:Pv 0 [] (upd H1 D (.lst []))) (hl:∀ i ys H,Pv i ys H→H D=some (.lst ys))
  (hs:∀ i ys H,i < n→Pv i ys H→tc (σc.set 0 (some (.int (lo + i)))) H fun b H3=>if b=true then te (σc.set 0 (some (.int (lo + i)))) H3 fun v H4=>H4 D=some (.lst ys)∧ys.length < sizeLine∧Pv (i + 1) (ys ++ [v]) (upd H4 D (.lst (ys ++ [v]))) else Pv (i + 1) ys H3)
  (hd:∀ ys H,Pv n ys H→Q H):Jev (Itr lo n) (JbK 0) tc te σc D H1 Q :=
 Jle (n:=n) (X1:=fun i x=>x=.int (lo + i)) Pv h00 (fun i H hi _=>⟨hi,fun x H' y=>y⟩) (fun H _=>Nat.le_refl _) h0 hl (fun i x ys H hi hx p=>by subst hx; exact hs i ys H hi p) hd
end
end L2
namespace L2
open PySem PySem.Spec PyProof.Rows
section
variable {X:Cx} {e v1 v2:Expr} {es:List Expr} {te:TE} {pos:Pos}
def Jt4 (te:TE):TE:=fun σ H Q=>te σ H fun v H1=>∃ z,v=.str z∧(reprText z).length≤sizeLine∧Q (.str (reprText z)) H1
theorem JgQ (he:PE X e te):PE X (.FormattedValue e 114 none pos) (Jt4 te):=by
 intro pins s σ H Q I h;refine wpAny_FormattedValue_repr (J2 (he pins s σ H _ I h) fun v s1 ⟨x,H1,I1,r1,z,ez,hz,q⟩=>?_);subst ez;obtain ⟨t,rfl⟩:=r1;refine pyReprObj_str (PyProof.Rows.formatField_str (fun t' tk=>?_) hz) hz;exact ⟨.str (reprText z),H1,(I1.tok _).tok _,⟨_,rfl⟩,q⟩
def JoK (te:TE):TE:=fun σ H Q=>te σ H fun v H1=>∃ i:Int,v=.int i∧i.natAbs.log2 < 1920∧Q (.str (toString i)) H1
theorem Jof (he:PE X e te):PE X (.FormattedValue e (-1) none pos) (JoK te):=by
 intro pins s σ H Q I h;refine PyProof.Rows.FormattedValue_plain (J2 (he pins s σ H _ I h) fun v s1 ⟨x,H1,I1,r1,i,ei,hi,q⟩=>?_);subst ei;obtain ⟨t,rfl⟩:=r1;exact PyProof.Rows.formatField_int_small hi ⟨.str (toString i),H1,I1.tok _,⟨_,rfl⟩,q⟩
def Jjw:List TE→Str→TE
 | [],acc=>fun _ H Q=>acc.length≤sizeLine∧Q (.str acc) H
 | t :: r,acc=>fun σ H Q=>t σ H fun v H1=>∃ y,v=.str y∧(acc ++ y).length≤sizeLine∧Jjw r (acc ++ y) σ H1 Q
inductive PJ (X:Cx):List Expr→List TE→Prop
 | nil:PJ X [] []
 | cons {e:Expr} {t:TE} {es:List Expr} {ts:List TE}:PE X e t→PJ X es ts→PJ X (e :: es) (t :: ts)
theorem Jnc {pins:List (Addr×Obj)} {σ:St} {Q:VK}:∀ {es:List Expr} {ts:List TE} {acc:Str} {s:Shared} {H:Hp},PJ X es ts→Jq X pins σ H s→Jjw ts acc σ H Q →
  Joins (model X.prog X.w) X.A X.xe (es.map fun e=>eval e X.env) acc (fun out s₁=>out.length≤sizeLine∧EP X pins σ Q (.str out s₁.toks) { s₁ with toks:=s₁.toks + 1 }) s
 | _,_,acc,s,H,.nil,I,h=>⟨h.1,.str acc,H,I.tok _,⟨_,rfl⟩,h.2⟩
 | _,_,acc,s,H,.cons p r,I,h=>by
  refine J2 (p pins s σ H _ I h) fun v s1 ⟨x,H1,I1,r1,y,ey,hy,q⟩=>?_
  subst ey;obtain ⟨t,rfl⟩:=r1;exact ⟨y,t,rfl,hy,Jnc r I1 q⟩
theorem JeB {ts:List TE} (h:PJ X (v1 :: v2 :: es) ts) (he:evalEach (v1 :: v2 :: es) X.env=(v1 :: v2 :: es).map fun e=>eval e X.env:=by rfl):PE X (.JoinedStr (v1 :: v2 :: es) pos) (Jjw ts Str.empty):=by
 intro pins s σ H Q I hq;refine wpAny_JoinedStr ?_;rw [he];exact Jnc h I hq
end
theorem Jj7:bootBuiltins "ValueError" = some (.type "ValueError"):=by decide +kernel
section
variable {X:Cx}
theorem Jlu:ZT X (compareOp .LtE) (fun x y H Q=>∃ i j,x=.str i∧y=.str j∧Q (.bl (!decide (j.cps.toList < i.cps.toList))) H):=by
 intro pins s σ H x y v u Q I rx ry h;obtain ⟨i,j,rfl,rfl,q⟩:=h;obtain ⟨t,rfl⟩:=rx;obtain ⟨t',rfl⟩:=ry;exact PySem.P.le_str ⟨.bl _,H,I,rfl,q⟩
theorem Jkn:∀ {ys:List Str} {us:List Value},JL (ys.map V.str) us→StrsAre us ys
 | [],_,r=>by cases r; exact .nil
 | y :: ys,_,r=>by
  cases r with
  | cons r rr =>
   obtain ⟨t,rfl⟩:=r;exact .cons y t (Jkn rr)
theorem JtL:MtR X "str.join" (fun x xs H Q=>∃ z l ys,x=.str z∧xs=[.ref l]∧JA X.K H l (ys.map V.str)∧(ys.map (·.length)).sum + ys.length * z.length≤16777216∧Q (.str (Txt.join z ys)) H):=by
 intro pins s σ H x xs v us Q I rx rs h;obtain ⟨z,l,ys,rfl,rfl,hl,hz,q⟩:=h;obtain ⟨t,rfl⟩:=rx;obtain ⟨u,rfl,ru⟩:=JL.one rs;cases ru;obtain ⟨its,r,pl,_⟩:=I.list hl;exact PyProof.Rows.join_list pl.isList (by simpa using Jkn r) hz fun t' k=>⟨.str (Txt.join z ys),H,I.tok _,⟨_,rfl⟩,q⟩
end
def Its (z:Str):It:=⟨fun i _=>i < z.length,fun i H x H'=>H'=H∧∃ c,z.cps[i]?=some c∧x=.str ⟨#[c]⟩,fun i _=>z.length≤i⟩
theorem Jmk {P:Program} {w:World} {K:PySem.W.Frag} {tg:Expr} (it:Addr) (z:Str) (t:Tok) (ty:String) (hty:ty = "str_ascii_iterator"∨ty = "str_iterator") (W:∀ A':Around,A'.handled=none→Walks P w A' it [it] [it] z.cps.size (SignAt z) (fun i h=>h.IsStrIter it ty z t i)) :
  Jlg P w K tg (Its z) [it] it (fun i h=>i≤z.cps.size∧h.IsStrIter it ty z t i) where
 mem:=by simp
 obj:=fun i h st b hb=>by
  have e:b=it:=by simpa using hb
  subst e;obtain ⟨_,o,e,c,d⟩:=st;exact ⟨o,e,fun v z=>by rw [d] at z; cases z⟩
 keep:=fun i h h' st k=>let ⟨hi,o,e,r⟩:=st; ⟨hi,o,k it (by simp) o e,r⟩
 item:=by
  intro X hP hw hK hc i pins s σ H E I hf st hg;subst hP hw hK;obtain ⟨f0,f1,f2,f3,f4,f5⟩:=hf it (by simp);have hi:i < z.cps.size:=hg;refine (W X.A (I.ok.hd hc)).item i s _ _ hi st.2 fun v h' tk hv st' kk=>?_
  obtain ⟨c,u,hc',rfl⟩:=hv;have I1:Jq X pins σ H { s with heap:=h',toks:=tk }:=I.turned (fun b o hb e=>kk b o (by simpa using hb) e) f0 f1 f3 f4 f5;obtain ⟨o,e,hcl,d⟩:=id st';exact ⟨_,rfl,Jme (s:={ s with heap:=h',toks:=tk }) (n:=ty) e hcl d (by rcases hty with rfl | rfl <;> decide) ⟨.str ⟨#[c]⟩,H,I1,⟨u,rfl⟩,⟨rfl,c,hc',rfl⟩,⟨hi,st'⟩,fun b hb=>(hf b hb).1⟩⟩
 done:=by
  intro X hP hw hK hc i pins s σ H E I hf st hg;subst hP hw hK;obtain ⟨f0,f1,f2,f3,f4,f5⟩:=hf it (by simp);have hi:z.cps.size≤i:=hg;obtain rfl:i=z.cps.size:=Nat.le_antisymm st.1 hi;exact (W X.A (I.ok.hd hc)).done s _ _ st.2 fun h' tk kk=>⟨rfl,I.turned (fun b o hb e=>kk b o (by simpa using hb) e) f0 f1 f3 f4 f5⟩
 self:=fun A i s Q E st h=>by
  rcases hty with rfl | rfl
  ·exact wpAny_pyIter_striter_ascii st.2 h
  ·exact wpAny_pyIter_striter_wide st.2 h
section
variable {X:Cx} {tg:Expr}
def Jv9 (tl:TE):TI:=fun σ H R=>tl σ H fun x H1=>∃ z,x=.str z∧R (Its z) H1
theorem Juw {l:Expr} {tl:TE} (hl:PE X l tl):PI X tg l (Jv9 tl):=by
 intro pins s σ H R I h;refine J2 (hl pins s σ H _ I h) fun v s1 ⟨x,H1,I1,r1,z,ez,q⟩=>?_
 subst ez;obtain ⟨t,rfl⟩:=r1;have fp:∀ b∈[s1.heap.objs.size],JfD X pins H1 b:=fun b hb=>by
  have e:b=s1.heap.objs.size:=by simpa using hb
  subst e;exact I1.fpOk (Nat.le_refl _) (I1.hok.fresh (Nat.le_refl _))
 cases ha:z.cps.all (· < 128)
 ·refine wpAny_pyIter_wide ha ?_;exact ⟨s1.heap.objs.size,[s1.heap.objs.size],_,_,H1,rfl,I1.kept (t':=s1.toks) fun b o e=>Heap.get?_push_of_some _ e,Jmk _ z t "str_iterator" (.inr rfl) (fun A' hA=>Walks.strWide hA _ z t),⟨Nat.zero_le _,_,Heap.get?_push_size _ rfl,rfl,rfl⟩,fp,q⟩
 ·refine wpAny_pyIter_ascii ha ?_;exact ⟨s1.heap.objs.size,[s1.heap.objs.size],_,_,H1,rfl,I1.kept (t':=s1.toks) fun b o e=>Heap.get?_push_of_some _ e,Jmk _ z t "str_ascii_iterator" (.inl rfl) (fun A' hA=>Walks.strAscii hA _ z t),⟨Nat.zero_le _,_,Heap.get?_push_size _ rfl,rfl,rfl⟩,fp,q⟩
end
section
variable {X:Cx}
theorem JsY {bs:List Bool}:∀ {us:List Value},JL (bs.map V.bl) us→us=bs.map Value.bool:=by
 induction bs with
 | nil=>intro us r; cases r; rfl
 | cons b bs ih =>
  intro us r;cases r with
  | cons r rr =>
   cases (show _=Value.bool b from r);rw [ih rr]; rfl
theorem Jst (hc:X.calm=true):Yx X (.builtin "all") (fun xs H Q=>∃ (l:Addr) (bs:List Bool),xs=[.ref l]∧JA X.K H l (bs.map V.bl)∧Q (.bl (bs.all id)) H):=by
 intro pins s σ H xs us Q I r h;obtain ⟨l,bs,rfl,hl,q⟩:=h;obtain ⟨u,rfl,ru⟩:=JL.one r;cases ru;obtain ⟨its,rv,pl,hz⟩:=I.list hl;have e:=JsY rv;subst e;refine call_all_walk (wpAny_pyIter_list pl.isList ?_);have hlt:l < s.heap.objs.size:=by obtain ⟨o,n,e,_⟩:=pl; exact Heap.lt_size e
 refine ⟨_,_,_,_,_,_,fun i=>(bs[i]?).getD true,rfl,Walks.list (A:=X.A.in1) (I.ok.hd hc) s.heap.objs.size l (Nat.ne_of_lt hlt) (bs.map Value.bool).toArray,?_,?_,fun h' tk kk=>?_⟩
 ·exact ⟨⟨_,Heap.get?_push_size _ rfl,rfl,rfl⟩,(by obtain ⟨o,n,e,c,d1,d2⟩:=pl; exact ⟨o,Heap.get?_push_of_some _ e,c,n,d2⟩)⟩
 ·intro i v s' Q' E' hP hQ;have hP:(bs.map Value.bool).toArray[i]?=some v:=hP;rw [List.getElem?_toArray,List.getElem?_map] at hP;cases hb:bs[i]? with
  | none=>rw [hb] at hP; cases hP
  | some b =>
   rw [hb] at hP;cases hP;have hQ:Q' ((bs[i]?).getD true) s':=hQ;rw [hb] at hQ;exact wpAny_truthy_bool hQ
 ·have e:(List.range (bs.map Value.bool).toArray.size).all (fun i=>(bs[i]?).getD true)=bs.all id:=by
   rw [List.size_toArray,List.length_map,Bool.eq_iff_iff,List.all_eq_true,List.all_eq_true];constructor
   ·intro h b hb;obtain ⟨i,hi,rfl⟩:=List.mem_iff_getElem.mp hb;have z:=h i (List.mem_range.mpr hi);rw [List.getElem?_eq_getElem hi] at z;exact z
   ·intro h i hi;have hi':=List.mem_range.mp hi;rw [List.getElem?_eq_getElem hi'];exact h _ (List.getElem_mem hi')
  rw [e];exact ⟨.bl _,H,I.kept fun b o e=>kk b o (fun z=>absurd (Heap.lt_size e) (by rw [List.mem_singleton.mp z]; exact Nat.lt_irrefl _)) (Heap.get?_push_of_some _ e),rfl,q⟩
end
end L2
namespace L2
open PySem PySem.Spec PyProof.Rows
def tm (n:Nat) (z:Str):Prop:=z.length≤n∧∀ c∈z.cps.toList,c < 16 ^ 8
theorem tm.mono {n m:Nat} {z:Str} (h:tm n z) (l:n≤m):tm m z:=⟨Nat.le_trans h.1 l,h.2⟩
theorem JtN {xs:List V} {lo hi:Option Int} {x:V} (h:x∈ZB xs lo hi):x∈xs:=List.mem_of_mem_drop (List.mem_of_mem_take h)
end L2
namespace L2
open PySem PySem.Spec PyProof.Rows
section
variable {te:TE} {σc:St} {D:Addr} {H1:Hp} {Q:Hp→Prop}
theorem JhZ {J:It} {n:Nat} {X1:Nat→V→Prop} (F:Nat→V→Prop) (h00:σc[0]?=some none) (hgo:∀ i H,i < n→Jf H1 H→J.go i H∧∀ x H',J.yld i H x H'→H'=H∧X1 i x) (hstop:∀ H,Jf H1 H→J.stop n H)
  (hD:H1 D=none) (hlen:n≤sizeLine) (he:∀ i x H,i < n→X1 i x→Jf H1 H→∀ Q':VK,(∀ v,F i v→Q' v H)→te (σc.set 0 (some x)) H Q')
  (hd:∀ ys H,Jf H1 H→H D=some (.lst ys)→ys.length=n→(∀ i v,ys[i]?=some v→F i v)→Q H):Jev J (JbK 0) JeM te σc D H1 Q:=by
 refine Jle (n:=n) (X1:=X1) (fun i ys H=>Jf H1 H∧H D=some (.lst ys)∧ys.length=i∧∀ j v,ys[j]?=some v→F j v) h00 (fun i H hi ⟨ys,p⟩=>hgo i H hi p.1) (fun H ⟨ys,p⟩=>hstop H p.1)
  ⟨Jf.upd hD,Jh,rfl,fun j v e=>by simp at e⟩ (fun i ys H p=>p.2.1) (fun i x ys H hi hx p=>?_) (fun ys H p=>hd ys H p.1 p.2.1 p.2.2.1 p.2.2.2)
 obtain ⟨e,hy,hl,hf⟩:=p;simp only [JeM,if_true];refine he i x H hi hx e _ fun v hv=>⟨hy,by omega,fun b u q=>?_,Jh,by simp [hl],fun j u q=>?_⟩
 ·rw [JD (JC q hD)];exact e b u q
 ·by_cases hj:j < ys.length
  ·rw [List.getElem?_append_left hj] at q;exact hf j u q
  ·rw [List.getElem?_append_right (by omega)] at q;have hj2:j - ys.length < 1:=(List.getElem?_eq_some_iff.mp q).1;have e1:j=i:=by omega
   have e2:j - ys.length=0:=by omega
   rw [e2] at q;cases q;rw [e1];exact hv
theorem JlK {K:PySem.W.Frag} {a:Addr} {xs:List V} (F:Nat→V→Prop) (h00:σc[0]?=some none) (hS:JA K H1 a xs) (hD:H1 D=none) (hlen:xs.length≤sizeLine)
  (he:∀ i x H,xs[i]?=some x→Jf H1 H→∀ Q':VK,(∀ v,F i v→Q' v H)→te (σc.set 0 (some x)) H Q')
  (hd:∀ ys H,Jf H1 H→H D=some (.lst ys)→ys.length=xs.length→(∀ i v,ys[i]?=some v→F i v)→Q H):Jev (Itl K a) (JbK 0) JeM te σc D H1 Q :=
 JhZ (n:=xs.length) (X1:=fun i x=>xs[i]?=some x) F h00 (fun i H hi e=>⟨⟨xs,xs[i],e.seq hS,by simp [hi]⟩,fun x H' y=>⟨y.1,y.2 xs (e.seq hS)⟩⟩) (fun H e=>⟨xs,e.seq hS,Nat.le_refl _⟩) hD hlen (fun i x H _ hx e=>he i x H hx e) hd
theorem Jmb {z:Str} (F:Nat→V→Prop) (h00:σc[0]?=some none) (hD:H1 D=none) (hlen:z.length≤sizeLine)
  (he:∀ i c H,z.cps[i]?=some c→Jf H1 H→∀ Q':VK,(∀ v,F i v→Q' v H)→te (σc.set 0 (some (.str ⟨#[c]⟩))) H Q')
  (hd:∀ ys H,Jf H1 H→H D=some (.lst ys)→ys.length=z.length→(∀ i v,ys[i]?=some v→F i v)→Q H):Jev (Its z) (JbK 0) JeM te σc D H1 Q :=
 JhZ (n:=z.length) (X1:=fun i x=>∃ c,z.cps[i]?=some c∧x=.str ⟨#[c]⟩) F h00 (fun i H hi _=>⟨hi,fun x H' y=>y⟩) (fun H _=>Nat.le_refl _) hD hlen (fun i x H hi hx e=>by obtain ⟨c,hc,rfl⟩:=hx; exact he i c H hc e) hd
end
end L2
namespace HS
open PySem PySem.SetTable
def adv (m:Nat) (p:Probe):Probe :=
 if p.more > 0 then ⟨p.j + 1,p.more - 1,p.i,p.perturb,p.dummy⟩
 else ⟨(leap m p.i p.perturb).1,runEnd m (leap m p.i p.perturb).1 - (leap m p.i p.perturb).1,(leap m p.i p.perturb).1,(leap m p.i p.perturb).2,p.dummy⟩
theorem Jka (t:SetTable) (p:Probe):t.advance p=adv t.mask p:=by
 unfold SetTable.advance adv;split <;> rfl
def st (m i q:Nat):Probe:=⟨i,runEnd m i - i,i,q,none⟩
def YZ (m:Nat) (h:Int):Probe:=st m (bits h % (m + 1)) (bits h)
def YD (m:Nat):Nat→Probe→Probe
 | 0,p=>p
 | k + 1,p=>YD m k (adv m p)
theorem JeF (m:Nat):∀ a b p,YD m (a + b) p=YD m b (YD m a p)
 | 0,b,p=>by rw [Nat.zero_add]; rfl
 | a + 1,b,p=>by
  have e:a + 1 + b=(a + b) + 1:=by omega
  rw [e];exact JeF m a b (adv m p)
theorem JhO (m:Nat):∀ k p,(YD m k p).dummy=p.dummy
 | 0,_=>rfl
 | k + 1,p=>by
  show (YD m k (adv m p)).dummy=p.dummy;rw [JhO m k];unfold adv;split <;> rfl
theorem JeE {m i q:Nat}:∀ {d:Nat},d≤runEnd m i - i→YD m d (st m i q)=⟨i + d,runEnd m i - i - d,i,q,none⟩
 | 0,_=>rfl
 | d + 1,h=>by
  rw [JeF m d 1,JeE (d:=d) (by omega)];show adv m _=_;unfold adv;rw [if_pos (by show runEnd m i - i - d > 0; omega)];show Probe.mk _ _ _ _ _=_;congr 1
theorem Jne {m i q:Nat}:YD m (runEnd m i - i + 1) (st m i q)=st m (leap m i q).1 (leap m i q).2:=by
 rw [JeF m _ 1,JeE (Nat.le_refl _)];show adv m _=_;unfold adv;rw [if_neg (by show ¬ runEnd m i - i - (runEnd m i - i) > 0; omega)];rfl
theorem Joe (m i:Nat):runEnd m i - i≤9:=by unfold runEnd; split <;> omega
theorem Jp9 {m i:Nat} (h:i≤m):runEnd m i≤m:=by unfold runEnd; split <;> omega
theorem JkN (m i q:Nat):(leap m i q).1≤m:=Nat.le_of_lt_succ (Nat.mod_lt _ (Nat.succ_pos _))
def Jag (m:Nat):Nat→Nat×Nat→Nat×Nat
 | 0,x=>x
 | L + 1,x=>Jag m L (leap m x.1 x.2)
theorem Je2 (m:Nat):∀ a b x,Jag m (a + b) x=Jag m b (Jag m a x)
 | 0,b,x=>by rw [Nat.zero_add]; rfl
 | a + 1,b,x=>by
  have e:a + 1 + b=(a + b) + 1:=by omega
  rw [e];exact Je2 m a b _
theorem Jq1 (m:Nat):∀ L i q,∃ k,k≤10 * L∧YD m k (st m i q)=st m (Jag m L (i,q)).1 (Jag m L (i,q)).2
 | 0,i,q=>⟨0,Nat.le_refl _,rfl⟩
 | L + 1,i,q=>by
  obtain ⟨k,hk,e⟩:=Jq1 m L (leap m i q).1 (leap m i q).2;have r:=Joe m i;refine ⟨runEnd m i - i + 1 + k,by omega,?_⟩;rw [JeF,Jne,e];rfl
theorem JmM (m:Nat):∀ L i q,(Jag m L (i,q)).2=q / 32 ^ L
 | 0,i,q=>by simp [Jag]
 | L + 1,i,q=>by
  show (Jag m L ((leap m i q).1,(leap m i q).2)).2=_;rw [JmM m L];show q / 32 / 32 ^ L=_;rw [Nat.div_div_eq_div_mul,Nat.pow_succ,Nat.mul_comm]
theorem Jod (m:Nat):∀ L i q,i≤m→(Jag m L (i,q)).1≤m
 | 0,i,q,h=>h
 | L + 1,i,q,h=>Jod m L _ _ (JkN m i q)
def Jo6 (m:Nat):Nat→Nat→List Nat
 | 0,i=>[i]
 | L + 1,i=>i :: Jo6 m L ((i * 5 + 1) % (m + 1))
theorem Jhv (m:Nat):∀ n i j,j∈Jo6 m n i→∃ L,L≤n∧(Jag m L (i,0)).1=j
 | 0,i,j,h=>⟨0,Nat.le_refl _,(List.mem_singleton.mp h).symm⟩
 | n + 1,i,j,h=>by
  rcases List.mem_cons.mp h with rfl | h
  ·exact ⟨0,Nat.zero_le _,rfl⟩
  ·obtain ⟨L,hL,e⟩:=Jhv m n _ j h;refine ⟨L + 1,by omega,?_⟩;show (Jag m L (leap m i 0)).1=j;have e2:leap m i 0=((i * 5 + 1) % (m + 1),0):=by unfold leap; simp
   rw [e2];exact e
def Msk (m:Nat):Prop:=m=7∨m=31∨m=127
def JsS (m:Nat):Bool:=((List.range (m + 1)).all fun j=>(Jo6 m m 0).contains j) && decide (Jag m (m + 1) (0,0)=(0,0))
theorem Jsw {m:Nat} (h:Msk m):JsS m=true:=by
 rcases h with rfl | rfl | rfl <;> decide +kernel
theorem Jum (m:Nat) (L i:Nat):Jag m L (i,0)=((Jag m L (i,0)).1,0):=Prod.ext rfl (by rw [JmM]; exact Nat.zero_div _)
theorem Jqe {m i j:Nat} (h:Msk m) (hi:i≤m) (hj:j≤m):∃ L,L≤m∧(Jag m L (i,0)).1=j:=by
 have z:=Jsw h;unfold JsS at z;rw [Bool.and_eq_true] at z;obtain ⟨z1,z2⟩:=z;have per:Jag m (m + 1) (0,0)=(0,0):=of_decide_eq_true z2;obtain ⟨a,ha,ea⟩:=Jhv m m 0 i (List.contains_iff_mem.mp (List.all_eq_true.mp z1 i (List.mem_range.mpr (by omega))));obtain ⟨b,hb,eb⟩:=Jhv m m 0 j (List.contains_iff_mem.mp (List.all_eq_true.mp z1 j (List.mem_range.mpr (by omega))));have ei:Jag m a (0,0)=(i,0):=by rw [Jum,ea]
 by_cases hab:a≤b
 ·refine ⟨b - a,by omega,?_⟩;rw [← ei,← Je2,show a + (b - a)=b by omega];exact eb
 ·refine ⟨m + 1 - a + b,by omega,?_⟩;rw [← ei,← Je2,show a + (m + 1 - a + b)=(m + 1) + b by omega,Je2,per];exact eb
theorem JqR {m i q j:Nat} (h:Msk m) (hi:i≤m) (hq:q < 2 ^ 64) (hj:j≤m):∃ L,L≤13 + m∧(Jag m L (i,q)).1=j:=by
 have e:Jag m 13 (i,q)=((Jag m 13 (i,q)).1,0):=by
  refine Prod.ext rfl ?_;rw [JmM];exact Nat.div_eq_of_lt (Nat.lt_trans hq (by decide))
 obtain ⟨L,hL,e2⟩:=Jqe h (Jod m 13 i q hi) hj;refine ⟨13 + L,by omega,?_⟩;rw [Je2,e];exact e2
theorem JoC (h:Int):bits h < 2 ^ 64:=by
 unfold bits;have h1:=Int.emod_lt_of_pos h (b:=(2 ^ 64:Int)) (by decide);have h0:=Int.emod_nonneg h (b:=(2 ^ 64:Int)) (by decide);omega
theorem Jib (m:Nat) (h:Int):bits h % (m + 1)≤m:=Nat.le_of_lt_succ (Nat.mod_lt _ (Nat.succ_pos _))
theorem JjV {m:Nat}:∀ {k p},p.j + p.more≤m→(YD m k p).j + (YD m k p).more≤m
 | 0,p,h=>h
 | k + 1,p,h=>by
  refine JjV (k:=k) (p:=adv m p) ?_;unfold adv;split
  ·show p.j + 1 + (p.more - 1)≤m;omega
  ·show (leap m p.i p.perturb).1 + (runEnd m (leap m p.i p.perturb).1 - (leap m p.i p.perturb).1)≤m;have a:=JkN m p.i p.perturb;have b:=Jp9 a;omega
theorem JiN (m:Nat) (h:Int):(YZ m h).j + (YZ m h).more≤m:=by
 have a:=Jib m h;have b:=Jp9 a;show bits h % (m + 1) + (runEnd m (bits h % (m + 1)) - bits h % (m + 1))≤m;omega
def Jc0 (m:Nat) (occ:Nat→Bool) (p:Probe) (k:Nat):Prop:=occ (YD m k p).j=false∧∀ k',k' < k→occ (YD m k' p).j=true
theorem Jsf {m:Nat} {occ:Nat→Bool} {p:Probe}:∀ {k:Nat},occ (YD m k p).j=false→∃ k',k'≤k∧Jc0 m occ p k':=by
 intro k
 induction k using Nat.strongRecOn with
 | _ k ih =>
  intro h;by_cases hx:∃ k',k' < k∧occ (YD m k' p).j=false
  ·obtain ⟨k',h1,h2⟩:=hx;obtain ⟨k2,h3,h4⟩:=ih k' h1 h2;exact ⟨k2,by omega,h4⟩
  ·refine ⟨k,Nat.le_refl _,h,fun k' hk=>?_⟩;cases hb:occ (YD m k' p).j with
   | true=>rfl
   | false=>exact absurd ⟨k',hk,hb⟩ hx
theorem Jsg {m:Nat} {occ:Nat→Bool} {h:Int} {j:Nat} (hm:Msk m) (hj:j≤m) (ho:occ j=false):∃ k,k < 10 * (m + 15)∧Jc0 m occ (YZ m h) k:=by
 obtain ⟨L,hL,e⟩:=JqR hm (Jib m h) (JoC h) hj;obtain ⟨k,hk,e2⟩:=Jq1 m L (bits h % (m + 1)) (bits h);have e3:(YD m k (YZ m h)).j=j:=by
  show (YD m k (st m _ _)).j=j;rw [e2];exact e
 obtain ⟨k',h1,h2⟩:=Jsf (occ:=occ) (by rw [e3]; exact ho);exact ⟨k',by omega,h2⟩
theorem Jc0.step {m:Nat} {occ:Nat→Bool} {p:Probe} {k:Nat} (h:Jc0 m occ p (k + 1)):occ p.j=true∧Jc0 m occ (adv m p) k:=⟨h.2 0 (Nat.succ_pos _),h.1,fun k' hk=>h.2 (k' + 1) (by omega)⟩
theorem Jon {t:SetTable} {hashAt:Nat→Int} {h:Int} {occ:Nat→Bool} (ho:∀ j,occ j=true→∃ i,t.slot j=.live i) (hf:∀ j,occ j=false→t.slot j=.empty):∀ (k fuel:Nat) (p:Probe),k < fuel→Jc0 t.mask occ p k→p.dummy=none →
  (∃ n i,n < k∧t.slot (YD t.mask n p).j=.live i∧hashAt i=h∧(∀ n' i',n' < n→t.slot (YD t.mask n' p).j=.live i'→hashAt i'≠h)∧probe.go t hashAt h fuel p=some (.candidate (YD t.mask n p).j i (YD t.mask (n + 1) p))) ∨
  ((∀ n i,n < k→t.slot (YD t.mask n p).j=.live i→hashAt i≠h)∧probe.go t hashAt h fuel p=some (.empty (YD t.mask k p).j none))
 | 0,fuel + 1,p,_,hF,hd=>by
  refine .inr ⟨fun n i hn=>absurd hn (Nat.not_lt_zero _),?_⟩;have hz:t.slot p.j=.empty:=hf _ hF.1;unfold probe.go;rw [hz,hd];rfl
 | k + 1,fuel + 1,p,hk,hF,hd=>by
  obtain ⟨h1,h2⟩:=hF.step;obtain ⟨i,hi⟩:=ho _ h1;by_cases hh:hashAt i=h
  ·refine .inl ⟨0,i,Nat.succ_pos _,hi,hh,fun n' i' hn=>absurd hn (Nat.not_lt_zero _),?_⟩;unfold probe.go;rw [hi];simp only [hh,beq_self_eq_true,if_true,Jka];rfl
  ·have e:probe.go t hashAt h (fuel + 1) p=probe.go t hashAt h fuel (adv t.mask p):=by
    rw [probe.go];rw [hi];have hb:(hashAt i == h)=false:=by simpa using hh
    simp only [hb,Bool.false_eq_true,if_false,Jka]
   have hd2:(adv t.mask p).dummy=none:=by
    have z:=JhO t.mask 1 p;exact z.trans hd
   rcases Jon ho hf k fuel (adv t.mask p) (by omega) h2 hd2 with ⟨n,i2,a1,a2,a3,a4,a5⟩ | ⟨a1,a2⟩
   ·refine .inl ⟨n + 1,i2,by omega,a2,a3,fun n' i' hn hs=>?_,by rw [e,a5]; rfl⟩;cases n' with
    | zero =>
     have z:t.slot p.j=.live i':=hs;rw [hi] at z;cases z;exact hh
    | succ n'=>exact a4 n' i' (by omega) hs
   ·refine .inr ⟨fun n i2 hn hs=>?_,by rw [e,a2]; rfl⟩;cases n with
    | zero =>
     have z:t.slot p.j=.live i2:=hs;rw [hi] at z;cases z;exact hh
    | succ n=>exact a1 n i2 (by omega) hs
def Ris (xs:Array Nat):Prop:=∀ a b,a < b→b < xs.size→xs.getD a 0 < xs.getD b 0
theorem Jjm {xs:Array Nat} {j:Nat} (hr:Ris xs):∀ (fuel lo hi:Nat),hi - lo≤fuel→lo≤hi→hi≤xs.size→(∀ k,k < lo→xs.getD k 0 < j)→(∀ k,hi≤k→k < xs.size→j≤xs.getD k 0) →
  below.go xs j fuel lo hi≤xs.size∧(∀ k,k < below.go xs j fuel lo hi→xs.getD k 0 < j)∧(∀ k,below.go xs j fuel lo hi≤k→k < xs.size→j≤xs.getD k 0)
 | 0,lo,hi,hf,hl,hz,h1,h2=>by
  have e:lo=hi:=by omega
  subst e;unfold below.go;exact ⟨hz,h1,h2⟩
 | fuel + 1,lo,hi,hf,hl,hz,h1,h2=>by
  unfold below.go;by_cases hlt:lo < hi
  ·rw [if_pos hlt];have hm1:lo≤(lo + hi) / 2:=by omega
   have hm2:(lo + hi) / 2 < hi:=by omega
   have e:xs.getD ((lo + hi) / 2) j=xs.getD ((lo + hi) / 2) 0:=by
    have hlt2:(lo + hi) / 2 < xs.size:=by omega
    simp [Array.getD,hlt2]
   dsimp only;rw [e];by_cases hc:xs.getD ((lo + hi) / 2) 0 < j
   ·rw [if_pos hc];refine Jjm hr fuel _ hi (by omega) (by omega) hz (fun k hk=>?_) h2;by_cases hk2:k=(lo + hi) / 2
    ·rw [hk2]; exact hc
    ·exact Nat.lt_trans (hr k _ (by omega) (by omega)) hc
   ·rw [if_neg hc];refine Jjm hr fuel lo _ (by omega) hm1 (by omega) h1 (fun k hk hks=>?_);by_cases hk2:k=(lo + hi) / 2
    ·rw [hk2]; omega
    ·have:=hr _ k (show (lo + hi) / 2 < k by omega) hks;omega
  ·rw [if_neg hlt];have e:lo=hi:=by omega
   subst e;exact ⟨hz,h1,h2⟩
theorem Jj8 {xs:Array Nat} (hr:Ris xs) (j:Nat):below xs j≤xs.size∧(∀ k,k < below xs j→xs.getD k 0 < j)∧(∀ k,below xs j≤k→k < xs.size→j≤xs.getD k 0) :=
 Jjm hr xs.size 0 xs.size (by omega) (Nat.zero_le _) (Nat.le_refl _) (fun k hk=>absurd hk (Nat.not_lt_zero _)) fun k hk hks=>by omega
def Zj (place:Array Nat) (j:Nat):Bool:=place.toList.contains j
theorem Jgu {place:Array Nat} {j:Nat}:Zj place j=true↔∃ a,a < place.size∧place.getD a 0=j:=by
 unfold Zj;rw [List.contains_iff_mem,List.mem_iff_getElem];constructor
 ·rintro ⟨a,ha,e⟩;have ha':a < place.size:=by simpa using ha
  exact ⟨a,ha',by simpa [Array.getD,ha'] using e⟩
 ·rintro ⟨a,ha,e⟩;exact ⟨a,by simpa using ha,by simpa [Array.getD,ha] using e⟩
theorem Jhi {t:SetTable} (hr:Ris t.place) {a:Nat} (ha:a < t.place.size):t.slot (t.place.getD a 0)=.live a:=by
 obtain ⟨b1,b2,b3⟩:=Jj8 hr (t.place.getD a 0);have e:below t.place (t.place.getD a 0)=a:=by
  rcases Nat.lt_trichotomy (below t.place (t.place.getD a 0)) a with h | h | h
  ·have:=b3 _ (Nat.le_refl _) (by omega);have:=hr _ a h ha;omega
  ·exact h
  ·have:=b2 a h;omega
 unfold SetTable.slot;dsimp only;rw [e];have e2:t.place[a]?=some (t.place.getD a 0):=by simp [Array.getD,ha]
 rw [e2];simp
theorem Jjz {t:SetTable} (hr:Ris t.place) (hd:t.dummies=#[]) {j:Nat} (h:Zj t.place j=false):t.slot j=.empty:=by
 unfold SetTable.slot;dsimp only;have hn:(t.place[below t.place j]? == some j)=false:=by
  cases hb:(t.place[below t.place j]? == some j) with
  | false=>rfl
  | true =>
   have z:t.place[below t.place j]?=some j:=by simpa using hb
   obtain ⟨hlt,e⟩:=Array.getElem?_eq_some_iff.mp z;have:Zj t.place j=true:=Jgu.mpr ⟨_,hlt,by simp [Array.getD,hlt,e]⟩;rw [h] at this; cases this
 rw [hn,hd];have hh:has #[] j=false:=by unfold has; simp
 rw [hh];rfl
theorem Jr1 {t:SetTable} (hr:Ris t.place) {j:Nat} (h:Zj t.place j=true):∃ i,t.slot j=.live i:=by
 obtain ⟨a,ha,rfl⟩:=Jgu.mp h;exact ⟨a,Jhi hr ha⟩
theorem JtP {t:SetTable} (hr:Ris t.place) (hd:t.dummies=#[]) {j i:Nat} (h:t.slot j=.live i):i < t.place.size∧t.place.getD i 0=j:=by
 cases ho:Zj t.place j with
 | false=>rw [Jjz hr hd ho] at h; cases h
 | true =>
  obtain ⟨a,ha,rfl⟩:=Jgu.mp ho;rw [Jhi hr ha] at h;cases h;exact ⟨ha,rfl⟩
theorem Je9:∀ {l r:List Nat},l.Nodup→(∀ x∈l,x∈r)→l.length≤r.length
 | [],_,_,_=>Nat.zero_le _
 | x :: l,r,hn,hs=>by
  have hx:=hs x (List.mem_cons_self ..);have h1:=List.nodup_cons.mp hn;have z:=Je9 (l:=l) (r:=r.erase x) h1.2 fun y hy=>(List.mem_erase_of_ne (by rintro rfl; exact h1.1 hy)).mpr (hs y (List.mem_cons_of_mem _ hy))
  rw [List.length_erase_of_mem hx] at z;have:0 < r.length:=List.length_pos_of_mem hx;simp only [List.length_cons];omega
theorem JtU {place:Array Nat} {m:Nat} (h:place.size≤m):∃ j,j≤m∧Zj place j=false:=by
 by_cases hx:∃ j,j≤m∧Zj place j=false
 ·exact hx
 ·exfalso;have z:=Je9 (l:=List.range (m + 1)) (r:=place.toList) List.nodup_range fun x hx2=>by
   cases ho:Zj place x with
   | false=>exact absurd ⟨x,by have:=List.mem_range.mp hx2; omega,ho⟩ hx
   | true=>exact List.contains_iff_mem.mp ho
  rw [List.length_range,Array.length_toList] at z;omega
end HS
namespace HS
open PySem PySem.SetTable
def Jkd (m:Nat) (occ:Nat→Bool) (h:Int) (j:Nat):Prop:=∃ k,(YD m k (YZ m h)).j=j∧∀ k',k' < k→occ (YD m k' (YZ m h)).j=true
theorem Jkd.mono {m:Nat} {occ occ':Nat→Bool} {h:Int} {j:Nat} (r:Jkd m occ h j) (ho:∀ j,occ j=true→occ' j=true):Jkd m occ' h j:=let ⟨k,e,a⟩:=r; ⟨k,e,fun k' hk=>ho _ (a k' hk)⟩
structure Tab (t:SetTable) (es:Array (Int×Value)):Prop where
 msk:Msk t.mask
 dum:t.dummies=#[]
 siz:t.place.size=es.size
 ris:Ris t.place
 ub:∀ j∈t.place.toList,j≤t.mask
 cap:es.size≤t.mask
 rch:∀ z∈t.place.toList.zip es.toList,Jkd t.mask (Zj t.place) z.2.1 z.1
theorem Tab.fits {t:SetTable} {es:Array (Int×Value)} (T:Tab t es):t.fits es.size=true:=by
 unfold SetTable.fits SetTable.fill;rw [T.dum,T.siz];have:=T.cap;simp;exact this
theorem Tab.first {t:SetTable} {es:Array (Int×Value)} (T:Tab t es) (h:Int):∃ k,k < 10 * turns t.mask∧Jc0 t.mask (Zj t.place) (YZ t.mask h) k:=by
 obtain ⟨j,hj,ho⟩:=JtU (place:=t.place) (m:=t.mask) (by rw [T.siz]; exact T.cap);exact Jsg T.msk hj ho
theorem Tab.met {t:SetTable} {es:Array (Int×Value)} (T:Tab t es) {h:Int} {k a:Nat} {e:Int×Value} (hF:Jc0 t.mask (Zj t.place) (YZ t.mask h) k) (he:es.toList[a]?=some e) (hh:e.1=h) :
  ∃ n,n < k∧t.slot (YD t.mask n (YZ t.mask h)).j=.live a:=by
 have ha:a < es.size:=by
  have:=(List.getElem?_eq_some_iff.mp he).1;simpa using this
 have ha':a < t.place.size:=by rw [T.siz]; exact ha
 have hz:(t.place.getD a 0,e)∈t.place.toList.zip es.toList:=by
  refine List.mem_of_getElem? (i:=a) ?_;rw [List.getElem?_zip_eq_some];refine ⟨?_,he⟩;simp [Array.getD,ha']
 obtain ⟨n,e1,e2⟩:=T.rch _ hz;have hh':(YZ t.mask e.1)=YZ t.mask h:=by rw [hh]
 dsimp only at e1 e2;rw [hh'] at e1;rw [hh'] at e2;have hocc:Zj t.place (t.place.getD a 0)=true:=Jgu.mpr ⟨a,ha',rfl⟩;refine ⟨n,?_,by rw [e1]; exact Jhi T.ris ha'⟩;rcases Nat.lt_trichotomy n k with q | q | q
 ·exact q
 ·subst q;have:=hF.1;rw [e1,hocc] at this;cases this
 ·have:=e2 k q;rw [hF.1] at this;cases this
theorem JkE {xs:Array Nat}:Ris xs↔xs.toList.Pairwise (· < ·):=by
 rw [List.pairwise_iff_getElem];constructor
 ·intro h i j hi hj hij;have hi':i < xs.size:=by simpa using hi
  have hj':j < xs.size:=by simpa using hj
  have:=h i j hij hj';simpa [Array.getD,hi',hj'] using this
 ·intro h a b hab hb;have ha:a < xs.size:=by omega
  have:=h a b (by simpa using ha) (by simpa using hb) hab;simpa [Array.getD,ha,hb] using this
theorem Jes {α β:Type} {P:List α} {E:List β} {z:α×β}:z∈P.zip E↔∃ i:Nat,P[i]?=some z.1∧E[i]?=some z.2:=by
 rw [List.mem_iff_getElem?];constructor
 ·rintro ⟨i,e⟩;exact ⟨i,List.getElem?_zip_eq_some.mp e⟩
 ·rintro ⟨i,e⟩;exact ⟨i,List.getElem?_zip_eq_some.mpr e⟩
theorem JoE {α β:Type} {P:List α} {E:List β} {p:Nat} {s:α} {e:β} (h:P.length=E.length) {z:α×β} (hz:z∈(P.take p ++ s :: P.drop p).zip (E.take p ++ e :: E.drop p)):z∈P.zip E∨z=(s,e):=by
 rw [List.zip_append (by rw [List.length_take,List.length_take,h]),List.zip_cons_cons] at hz;rcases List.mem_append.mp hz with q | q
 ·obtain ⟨i,e1,e2⟩:=Jes.mp q;rw [List.getElem?_take] at e1 e2;refine .inl (Jes.mpr ⟨i,?_,?_⟩)
  ·split at e1
   ·exact e1
   ·cases e1
  ·split at e2
   ·exact e2
   ·cases e2
 ·rcases List.mem_cons.mp q with q | q
  ·exact .inr q
  ·obtain ⟨i,e1,e2⟩:=Jes.mp q;rw [List.getElem?_drop] at e1 e2;exact .inl (Jes.mpr ⟨_,e1,e2⟩)
theorem Juu {t:SetTable} {es:Array (Int×Value)} (T:Tab t es) (j:Nat):t.put j=({ t with place:=insertAt t.place (below t.place j) j,dummies:=#[] },below t.place j):=by
 unfold SetTable.put;have hh:has #[] j=false:=by unfold has; simp
 simp only [T.dum,hh,Bool.false_eq_true,if_false]
theorem JjN {place:Array Nat} {p j j':Nat}:Zj (insertAt place p j) j'=true↔j'=j∨Zj place j'=true:=by
 unfold Zj;rw [List.contains_iff_mem,List.contains_iff_mem,SetTable.toList_insertAt,List.mem_append,List.mem_cons];constructor
 ·rintro (h | h | h)
  ·exact .inr (List.mem_of_mem_take h)
  ·exact .inl h
  ·exact .inr (List.mem_of_mem_drop h)
 ·rintro (h | h)
  ·exact .inr (.inl h)
  ·rw [← List.take_append_drop p place.toList] at h;rcases List.mem_append.mp h with h | h
   ·exact .inl h
   ·exact .inr (.inr h)
theorem Tab.put {t:SetTable} {es:Array (Int×Value)} (T:Tab t es) {h:Int} {x:Value} {k:Nat} (b:Bool) (hF:Jc0 t.mask (Zj t.place) (YZ t.mask h) k) (hc:es.size + 1≤t.mask) :
  Tab { mask:=t.mask,place:=insertAt t.place (below t.place (YD t.mask k (YZ t.mask h)).j) (YD t.mask k (YZ t.mask h)).j,dummies:=#[],finger:=t.finger,led:=t.led,moves:=t.moves,plain:=b }
   (insertAt es (below t.place (YD t.mask k (YZ t.mask h)).j) (h,x)):=by
 generalize hj:(YD t.mask k (YZ t.mask h)).j=j;have ho:Zj t.place j=false:=by rw [← hj]; exact hF.1
 have hle:j≤t.mask:=by
  have:=JjV (m:=t.mask) (k:=k) (JiN t.mask h);omega
 obtain ⟨b1,b2,b3⟩:=Jj8 T.ris j;have mono:∀ j',Zj t.place j'=true→Zj (insertAt t.place (below t.place j) j) j'=true:=fun j' q=>JjN.mpr (.inr q)
 refine ⟨T.msk,rfl,?_,?_,?_,?_,?_⟩
 ·have e1:(insertAt t.place (below t.place j) j).size=t.place.size + 1:=by
   rw [← Array.length_toList,(SetTable.insertAt_perm t.place _ j).length_eq,Array.length_toList,Array.size_push]
  have e2:(insertAt es (below t.place j) (h,x)).size=es.size + 1:=by
   rw [← Array.length_toList,(SetTable.insertAt_perm es _ (h,x)).length_eq,Array.length_toList,Array.size_push]
  show (insertAt t.place (below t.place j) j).size=_;rw [e1,e2,T.siz]
 ·rw [JkE];show (insertAt t.place (below t.place j) j).toList.Pairwise _;rw [SetTable.toList_insertAt];have hp:=JkE.mp T.ris;rw [List.pairwise_append,List.pairwise_cons];refine ⟨hp.sublist (List.take_sublist _ _),⟨fun a ha=>?_,hp.sublist (List.drop_sublist _ _)⟩,fun a ha c hc=>?_⟩
  ·obtain ⟨i,hi,e⟩:=List.mem_iff_getElem.mp ha;rw [List.getElem_drop] at e;have hi2:below t.place j + i < t.place.size:=by
    rw [List.length_drop,Array.length_toList] at hi;omega
   have e2:t.place.getD (below t.place j + i) 0=a:=by rw [← e]; simp [Array.getD,hi2]
   have h1:=b3 _ (Nat.le_add_right _ i) hi2;have h2:a≠j:=fun q=>by
    have:=Jgu.mpr ⟨_,hi2,e2.trans q⟩;rw [ho] at this; cases this
   omega
  ·have hlt:∀ a∈t.place.toList.take (below t.place j),a < j:=fun a ha=>by
    obtain ⟨i,hi,e⟩:=List.mem_iff_getElem.mp ha;rw [List.getElem_take] at e;rw [List.length_take,Array.length_toList] at hi;have hi2:i < t.place.size:=by omega
    have e2:t.place.getD i 0=a:=by rw [← e]; simp [Array.getD,hi2]
    have:=b2 i (by omega);omega
   rcases List.mem_cons.mp hc with q | q
   ·rw [q]; exact hlt a ha
   ·have hp2:=hp;rw [← List.take_append_drop (below t.place j) t.place.toList,List.pairwise_append] at hp2;exact hp2.2.2 a ha c q
 ·intro a ha;have:Zj (insertAt t.place (below t.place j) j) a=true:=List.contains_iff_mem.mpr ha;rcases JjN.mp this with q | q
  ·rw [q]; exact hle
  ·exact T.ub a (List.contains_iff_mem.mp q)
 ·rw [← Array.length_toList,(SetTable.insertAt_perm es _ (h,x)).length_eq,Array.length_toList,Array.size_push];exact hc
 ·intro z hz;have hz':z∈(insertAt t.place (below t.place j) j).toList.zip (insertAt es (below t.place j) (h,x)).toList:=hz;rw [SetTable.toList_insertAt,SetTable.toList_insertAt] at hz';rcases JoE (by rw [Array.length_toList,Array.length_toList,T.siz]) hz' with q | q
  ·exact (T.rch z q).mono mono
  ·rw [q];exact ⟨k,hj,fun k' hk=>mono _ (hF.2 k' hk)⟩
def Jab (owner:Array (Option Nat)) (j:Nat):Bool:=(owner.getD j (some 0)).isSome
theorem JlF {m:Nat} {owner:Array (Option Nat)}:∀ (fuel i q:Nat),i≤m→(∃ L,L < fuel∧Jab owner (Jag m L (i,q)).1=false) →
  ∃ k,layClean.free m owner fuel i q=some (YD m k (st m i q)).j∧Jc0 m (Jab owner) (st m i q) k
 | 0,i,q,hi,⟨L,hL,_⟩=>absurd hL (Nat.not_lt_zero _)
 | fuel + 1,i,q,hi,⟨L,hL,hf⟩=>by
  have hr:=Joe m i;have hge:i≤runEnd m i:=by unfold runEnd; split <;> omega
  unfold layClean.free;cases hx:(List.range (runEnd m i + 1 - i)).find? fun k=>(owner.getD (i + k) (some 0)).isNone with
  | some k =>
   obtain ⟨h1,h2,h3⟩:=List.find?_range_eq_some.mp hx;have hk:k≤runEnd m i - i:=by have:=List.mem_range.mp h2; omega
   refine ⟨k,?_,?_,fun k' hk'=>?_⟩
   ·rw [JeE hk]
   ·rw [JeE hk];show (owner.getD (i + k) (some 0)).isSome=false;cases ho:owner.getD (i + k) (some 0) with
    | none=>rfl
    | some a=>rw [ho] at h1; cases h1
   ·rw [JeE (by omega)];have z:=h3 k' hk';show (owner.getD (i + k') (some 0)).isSome=true;cases ho:owner.getD (i + k') (some 0) with
    | none=>rw [ho] at z; simp at z
    | some a=>rfl
  | none =>
   have hn:=List.find?_eq_none.mp hx;have occd:∀ d,d≤runEnd m i - i→Jab owner (i + d)=true:=fun d hd=>by
    have z:=hn d (List.mem_range.mpr (by omega));show (owner.getD (i + d) (some 0)).isSome=true;cases ho:owner.getD (i + d) (some 0) with
    | none=>rw [ho] at z; simp at z
    | some a=>rfl
   cases L with
   | zero =>
    have z:=occd 0 (Nat.zero_le _);rw [Nat.add_zero] at z;have hf':Jab owner i=false:=hf;rw [z] at hf'; cases hf'
   | succ L =>
    obtain ⟨k,e,hF⟩:=JlF fuel (leap m i q).1 (leap m i q).2 (JkN m i q) ⟨L,by omega,hf⟩;have eI:∀ n,YD m (runEnd m i - i + 1 + n) (st m i q)=YD m n (st m (leap m i q).1 (leap m i q).2):=fun n=>by rw [JeF,Jne]
    refine ⟨runEnd m i - i + 1 + k,?_,?_,fun k' hk'=>?_⟩
    ·rw [eI]; exact e
    ·rw [eI]; exact hF.1
    ·by_cases hs:k'≤runEnd m i - i
     ·rw [JeE hs]; exact occd k' hs
     ·obtain ⟨n,rfl⟩:∃ n,k'=runEnd m i - i + 1 + n:=⟨k' - (runEnd m i - i + 1),by omega⟩
      rw [eI];exact hF.2 n (by omega)
structure Own (m:Nat) (owner:Array (Option Nat)) (done:List Int):Prop where
 siz:owner.size=m + 1
 all:∀ a,a < done.length→∃ j,j≤m∧owner.getD j none=some a
 has:∀ j a,owner.getD j none=some a→∃ h,done[a]?=some h∧Jkd m (Jab owner) h j
 inj:∀ j j' a,owner.getD j none=some a→owner.getD j' none=some a→j=j'
theorem Own.lt {m:Nat} {owner:Array (Option Nat)} {done:List Int} (O:Own m owner done) {j a:Nat} (h:owner.getD j none=some a):j≤m∧a < done.length:=by
 obtain ⟨hh,e,_⟩:=O.has j a h;refine ⟨?_,(List.getElem?_eq_some_iff.mp e).1⟩;by_cases hj:j < owner.size
 ·have:=O.siz; omega
 ·rw [show owner.getD j none=none by simp [Array.getD,hj]] at h; cases h
theorem Jhu {owner:Array (Option Nat)} {j:Nat} (hj:j < owner.size):owner.getD j (some 0)=owner.getD j none:=by simp [Array.getD,hj]
theorem Own.free {m:Nat} {owner:Array (Option Nat)} {done:List Int} (O:Own m owner done) (h:done.length≤m):∃ j,j≤m∧Jab owner j=false:=by
 by_cases hx:∃ j,j≤m∧Jab owner j=false
 ·exact hx
 ·exfalso;have hall:∀ j,j≤m→∃ a,owner.getD j none=some a:=fun j hj=>by
   cases ho:Jab owner j with
   | false=>exact absurd ⟨j,hj,ho⟩ hx
   | true =>
    unfold Jab at ho;rw [Jhu (by rw [O.siz]; omega)] at ho;exact Option.isSome_iff_exists.mp ho
  have hnd:((List.range (m + 1)).map fun j=>(owner.getD j none).getD 0).Nodup:=by
   rw [List.Nodup,List.pairwise_map];refine List.Pairwise.imp_of_mem ?_ (List.pairwise_lt_range (n:=m + 1));intro a b ha hb hlt e;obtain ⟨x,ex⟩:=hall a (by have:=List.mem_range.mp ha; omega);obtain ⟨y,ey⟩:=hall b (by have:=List.mem_range.mp hb; omega);rw [ex,ey] at e;have e':x=y:=e;subst e';have:=O.inj a b x ex ey;omega
  have z:=Je9 (r:=List.range done.length) hnd fun x hx2=>by
   obtain ⟨j,hj,e⟩:=List.mem_map.mp hx2;obtain ⟨y,ey⟩:=hall j (by have:=List.mem_range.mp hj; omega);rw [ey] at e;have e':y=x:=e;subst e';exact List.mem_range.mpr (O.lt ey).2
  rw [List.length_map,List.length_range,List.length_range] at z;omega
theorem Own.step {m:Nat} {owner:Array (Option Nat)} {done:List Int} (hm:Msk m) (O:Own m owner done) (h:done.length≤m) (x:Int) :
  ∃ j,layClean.free m owner (turns m) (bits x % (m + 1)) (bits x)=some j∧Own m (owner.setIfInBounds j (some done.length)) (done ++ [x]):=by
 obtain ⟨f,hf,ho⟩:=O.free h;obtain ⟨L,hL,eL⟩:=JqR hm (Jib m x) (JoC x) hf;obtain ⟨k,e,hF⟩:=JlF (owner:=owner) (turns m) (bits x % (m + 1)) (bits x) (Jib m x) ⟨L,by unfold turns; omega,by rw [eL]; exact ho⟩;generalize hj:(YD m k (st m (bits x % (m + 1)) (bits x))).j=j at e;have hjm:j≤m:=by
  have:=JjV (m:=m) (k:=k) (JiN m x);have e2:(YD m k (YZ m x)).j=j:=hj;omega
 have hjs:j < owner.size:=by rw [O.siz]; omega
 have hj0:owner.getD j none=none:=by
  have z:=hF.1;rw [hj] at z;unfold Jab at z;rw [Jhu hjs] at z;cases q:owner.getD j none with
  | none=>rfl
  | some a=>rw [q] at z; cases z
 have get:∀ i,(owner.setIfInBounds j (some done.length)).getD i none=if i=j then some done.length else owner.getD i none:=fun i=>by
  rw [Array.getD_eq_getD_getElem?,Array.getElem?_setIfInBounds];by_cases q:i=j
  ·subst q; simp [hjs]
  ·have q':¬ j=i:=fun w=>q w.symm
   rw [if_neg q',if_neg q,Array.getD_eq_getD_getElem?]
 have mono:∀ i,Jab owner i=true→Jab (owner.setIfInBounds j (some done.length)) i=true:=fun i q=>by
  unfold Jab at q ⊢;by_cases hi:i < owner.size
  ·rw [Jhu (by simpa using hi),get];rw [Jhu hi] at q;by_cases w:i=j
   ·rw [if_pos w]; rfl
   ·rw [if_neg w]; exact q
  ·simp [Array.getD,hi]
 refine ⟨j,e,by simpa using O.siz,fun a ha=>?_,fun i a hi=>?_,fun i i' a hi hi'=>?_⟩
 ·by_cases hlt:a < done.length
  ·obtain ⟨i,hi,ei⟩:=O.all a hlt;refine ⟨i,hi,?_⟩;rw [get,if_neg (fun q=>by rw [q,hj0] at ei; cases ei)];exact ei
  ·rw [List.length_append,List.length_singleton] at ha;have:a=done.length:=by omega
   subst this;exact ⟨j,hjm,by rw [get,if_pos rfl]⟩
 ·rw [get] at hi;split at hi
  ·rename_i q;cases hi;refine ⟨x,by simp,?_⟩;rw [q];exact ⟨k,hj,fun k' hk=>mono _ (hF.2 k' hk)⟩
  ·obtain ⟨hh,e1,r⟩:=O.has i a hi;exact ⟨hh,by rw [List.getElem?_append_left (List.getElem?_eq_some_iff.mp e1).1]; exact e1,r.mono mono⟩
 ·rw [get] at hi hi';split at hi <;> split at hi'
  ·rename_i q q'; rw [q,q']
  ·cases hi;have:=(O.lt hi').2;omega
  ·cases hi';have:=(O.lt hi).2;omega
  ·exact O.inj i i' a hi hi'
def Jm9 (m:Nat) (acc:Option (Array (Option Nat)×Nat)) (h:Int):Option (Array (Option Nat)×Nat):=do
 let (owner,k) ← acc;let j ← layClean.free m owner (turns m) (bits h % (m + 1)) (bits h)
 pure (owner.setIfInBounds j (some k),k + 1)
theorem Jm8 {m:Nat} (hm:Msk m):∀ (todo done:List Int) (owner:Array (Option Nat)),Own m owner done→done.length + todo.length≤m→∃ owner',todo.foldl (Jm9 m) (some (owner,done.length))=some (owner',done.length + todo.length)∧Own m owner' (done ++ todo)
 | [],done,owner,O,_=>⟨owner,by simp,by simpa using O⟩
 | x :: todo,done,owner,O,h=>by
  simp only [List.length_cons] at h;obtain ⟨j,e,O2⟩:=O.step hm (by omega) x;obtain ⟨o3,e3,O3⟩:=Jm8 hm todo (done ++ [x]) _ O2 (by rw [List.length_append,List.length_singleton]; omega);refine ⟨o3,?_,by simpa using O3⟩;rw [List.foldl_cons];have e4:Jm9 m (some (owner,done.length)) x=some (owner.setIfInBounds j (some done.length),done.length + 1):=by
   unfold Jm9;simp [e]
  rw [e4];rw [List.length_append,List.length_singleton] at e3;rw [e3];simp only [List.length_cons];congr 2;omega
theorem Jqs {m:Nat} (hm:Msk m) (hashes:Array Int) (h:hashes.size≤m):∃ owner,layClean m hashes=some owner∧Own m owner hashes.toList:=by
 have O0:Own m (Array.replicate (m + 1) none) []:=by
  have g:∀ j,(Array.replicate (m + 1) (none:Option Nat)).getD j none=none:=fun j=>by
   rw [Array.getD_eq_getD_getElem?,Array.getElem?_replicate];split <;> rfl
  refine ⟨by simp,fun a ha=>absurd ha (Nat.not_lt_zero _),fun j a e=>?_,fun j j' a e=>?_⟩
  ·rw [g] at e; cases e
  ·rw [g] at e; cases e
 obtain ⟨owner,e,O⟩:=Jm8 hm hashes.toList [] _ O0 (by simpa using h);refine ⟨owner,?_,by simpa using O⟩;unfold layClean;have e2:(hashes.foldl (init:=some (Array.replicate (m + 1) none,0)) fun acc h=>do
  let (owner,k) ← acc;let j ← layClean.free m owner (turns m) (bits h % (m + 1)) (bits h)
  pure (owner.setIfInBounds j (some k),k + 1))=hashes.toList.foldl (Jm9 m) (some (Array.replicate (m + 1) none,0)):=by
  rw [← Array.foldl_toList];rfl
 rw [e2];have e3:hashes.toList.foldl (Jm9 m) (some (Array.replicate (m + 1) none,0))=some (owner,0 + hashes.toList.length):=e;rw [e3];rfl
theorem Jmg {es:Array (Int×Value)}:∀ {live:List (Nat×Nat)},(∀ x∈live,x.2 < es.size)→((live.map (·.2)).filterMap (es[·]?)).length=live.length ∧
  ∀ z∈(live.map (·.1)).zip ((live.map (·.2)).filterMap (es[·]?)),∃ x∈live,z.1=x.1∧es[x.2]?=some z.2
 | [],_=>⟨rfl,fun z hz=>nomatch hz⟩
 | x :: r,h=>by
  obtain ⟨a,b⟩:=Jmg (live:=r) fun y hy=>h y (List.mem_cons_of_mem _ hy)
  have hx:=h x (List.mem_cons_self ..);have e:es[x.2]?=some es[x.2]:=Array.getElem?_eq_getElem hx;rw [List.map_cons,List.filterMap_cons_some e,List.map_cons,List.zip_cons_cons];refine ⟨by rw [List.length_cons,List.length_cons,a],fun z hz=>?_⟩;rcases List.mem_cons.mp hz with q | q
  ·exact ⟨x,List.mem_cons_self ..,by rw [q],by rw [q]; exact e⟩
  ·obtain ⟨y,hy,e1,e2⟩:=b z q;exact ⟨y,List.mem_cons_of_mem _ hy,e1,e2⟩
theorem Jvl {m:Nat} (hm:Msk m) (finger moves:Nat) (led plain:Bool) (es:Array (Int×Value)) (h:es.size≤m) :
  ∃ t order,laid m finger moves led plain (es.map (·.1))=some (t,order)∧Tab t (order.filterMap (es[·]?))∧(order.filterMap (es[·]?)).size=es.size∧(∀ e,e∈(order.filterMap (es[·]?)).toList↔e∈es.toList)∧t.mask=m:=by
 obtain ⟨owner,eo,O⟩:=Jqs hm (es.map (·.1)) (by simpa using h);have hlen:(es.map (·.1)).toList.length=es.size:=by simp
 let live:=(List.range (m + 1)).filterMap fun j=>(owner.getD j none).map (j,·)
 have hlive:∀ x,x∈live↔owner.getD x.1 none=some x.2:=fun x=>by
  rw [List.mem_filterMap];constructor
  ·rintro ⟨j,hj,e⟩;obtain ⟨a,ea,e2⟩:=Option.map_eq_some_iff.mp e;rw [← e2];exact ea
  ·intro e;exact ⟨x.1,List.mem_range.mpr (by have:=(O.lt e).1; omega),by rw [e]; rfl⟩
 have hlt:∀ x∈live,x.2 < es.size:=fun x hx=>by rw [← hlen]; exact (O.lt ((hlive x).mp hx)).2
 obtain ⟨zl,zm⟩:=Jmg hlt;have efst:live.map (·.1)=(List.range (m + 1)).filter fun j=>(owner.getD j none).isSome:=by
  show ((List.range (m + 1)).filterMap fun j=>(owner.getD j none).map (j,·)).map (·.1)=_;rw [List.map_filterMap]
  induction List.range (m + 1) with
  | nil=>rfl
  | cons a r ih =>
   cases ho:owner.getD a none with
   | none=>simp only [List.filterMap_cons,List.filter_cons,ho,Option.map_none,Option.isSome_none,Bool.false_eq_true,if_false]; exact ih
   | some b=>simp only [List.filterMap_cons,List.filter_cons,ho,Option.map_some,Option.isSome_some,if_true]; rw [ih]
 have hocc:∀ j,Jab owner j=true→j≤m→Zj (live.map (·.1)).toArray j=true:=fun j q hj=>by
  unfold Zj;rw [List.contains_iff_mem,List.toList_toArray,efst,List.mem_filter];refine ⟨List.mem_range.mpr (by omega),?_⟩;unfold Jab at q;rw [Jhu (by rw [O.siz]; omega)] at q;exact q
 have hcount:live.length=es.size:=by
  have n1:(live.map (·.2)).Nodup:=by
   rw [List.Nodup,List.pairwise_map];refine List.Pairwise.imp_of_mem (R:=fun x y=>x.1 < y.1) ?_ ?_
   ·intro x y hx hy hxy e;have e1:=(hlive x).mp hx;have e2:=(hlive y).mp hy;rw [← e] at e2;have:=O.inj _ _ _ e1 e2;omega
   ·have z:(live.map (·.1)).Pairwise (· < ·):=by rw [efst]; exact List.pairwise_lt_range.sublist List.filter_sublist
    exact List.pairwise_map.mp z
  have a1:=Je9 n1 (r:=List.range es.size) fun x hx=>by
   obtain ⟨y,hy,e⟩:=List.mem_map.mp hx;rw [← e];exact List.mem_range.mpr (hlt y hy)
  have a2:=Je9 (l:=List.range es.size) (r:=live.map (·.2)) List.nodup_range fun x hx=>by
   obtain ⟨j,hj,e⟩:=O.all x (by rw [hlen]; exact List.mem_range.mp hx);exact List.mem_map.mpr ⟨(j,x),(hlive _).mpr e,rfl⟩
  rw [List.length_map,List.length_range] at a1 a2;omega
 have efm:((live.map (·.2)).toArray.filterMap (es[·]?)).toList=(live.map (·.2)).filterMap (es[·]?):=by rw [Array.toList_filterMap]
 have esz:((live.map (·.2)).toArray.filterMap (es[·]?)).size=es.size:=by rw [← Array.length_toList,efm,zl,hcount]
 refine ⟨{ mask:=m,place:=(live.map (·.1)).toArray,dummies:=#[],finger,led,moves,plain },(live.map (·.2)).toArray,?_,⟨hm,rfl,?_,?_,?_,?_,?_⟩,esz,fun e=>?_,rfl⟩
 ·unfold laid;rw [eo];rfl
 ·rw [esz];show (live.map (·.1)).toArray.size=es.size;rw [List.size_toArray,List.length_map,hcount]
 ·rw [JkE];show (live.map (·.1)).toArray.toList.Pairwise _;rw [List.toList_toArray,efst];exact List.pairwise_lt_range.sublist List.filter_sublist
 ·intro j hj;have hj':j∈(live.map (·.1)).toArray.toList:=hj;rw [List.toList_toArray] at hj';obtain ⟨x,hx,e⟩:=List.mem_map.mp hj';rw [← e];exact (O.lt ((hlive x).mp hx)).1
 ·rw [esz]; exact h
 ·intro z hz;rw [efm] at hz;have hz':z∈(live.map (·.1)).zip ((live.map (·.2)).filterMap (es[·]?)):=by simpa using hz
  obtain ⟨x,hx,e1,e2⟩:=zm z hz';obtain ⟨hh,e3,r⟩:=O.has _ _ ((hlive x).mp hx);have e4:hh=z.2.1:=by
   rw [Array.getElem?_toList,Array.getElem?_map,e2] at e3;exact (Option.some.inj e3).symm
  rw [e1,← e4];obtain ⟨k,ek,ak⟩:=r;refine ⟨k,ek,fun k' hk=>hocc _ (ak k' hk) ?_⟩;have:=JjV (m:=m) (k:=k') (JiN m hh);show (YD m k' (YZ m hh)).j≤m;omega
 ·rw [efm,List.mem_filterMap];constructor
  ·rintro ⟨a,_,q⟩;exact List.mem_of_getElem? (by rw [Array.getElem?_toList]; exact q)
  ·intro he;obtain ⟨a,ha,q⟩:=List.mem_iff_getElem.mp he;have ha':a < es.size:=by simpa using ha
   obtain ⟨j,hj,e⟩:=O.all a (by rw [hlen]; exact ha');refine ⟨a,List.mem_map.mpr ⟨(j,a),(hlive _).mpr e,rfl⟩,?_⟩;rw [Array.getElem?_eq_getElem ha'];simpa using q
end HS
namespace HS
open PySem PySem.SetTable L2
section
variable {prog:Program} {w:World} {A:Around} {E:Value→Shared→Prop} {s:Shared}
abbrev TK (prog:Program) (w:World):=IsTupleKey (YF prog w)
abbrev hsh (prog:Program) (w:World) (ks:List J5):Int:=tupleKeyHash (YF prog w) ks
theorem JnZ (n:Nat) {v:Value} (h:carriedByValue v=true):ofAClassStatement n v=pure false:=by
 cases v with
 | ref a=>simp [carriedByValue] at h
 | _=>first | rfl | simp [ofAClassStatement] | (unfold ofAClassStatement; rfl)
theorem JiB {ks:List J5} {a:Addr} {Q:Bool→Shared→Prop} (hk:TK prog w s.heap ks a) (h:Q false s):wpAny (model prog w) A (ofAClassStatement 8 (.ref a)) Q E s:=by
 obtain ⟨o,items,n,ho,hc,hd,hi⟩:=hk;unfold ofAClassStatement;refine wpAny_bind (PySem.W.Looks.here (show PySem.W.Looks _ s.heap (typeOf (.ref a)) (.type "tuple") from hc ▸ (PySem.W.Looks.ld ho).andThen .now) ?_);dsimp only;rw [if_pos (by decide)];refine wpAny_bind (wpAny_pure ?_);rw [if_neg (by decide)];refine wpAny_bind (wpAny_seqItems ho hd ?_);dsimp only;refine wpAny_bind ?_;rw [← Array.forIn_toList];refine wpAny_forIn_list _ (fun rest r s'=>r=(none,())∧s'=s∧∀ v∈rest,carriedByValue v=true) _ ?_ ?_ _ _ ⟨rfl,rfl,hi.byValue⟩
 ·rintro v rest r s' ⟨hr,rfl,hall⟩;rw [JnZ _ (hall v List.mem_cons_self)];refine wpAny_bind (wpAny_pure ?_);rw [if_neg (by decide)];exact wpAny_pure ⟨rfl,rfl,fun u hu'=>hall u (List.mem_cons_of_mem _ hu')⟩
 ·rintro r s' ⟨hr,rfl,_⟩;subst hr;exact wpAny_pure h
theorem Jto {ks:List J5} {x:Addr} {stored:List Value} {Q:Bool→Shared→Prop} (hk:TK prog w s.heap ks x) (hall:∀ v∈stored,∃ a k',v=.ref a∧TK prog w s.heap k' a) (h:Q false s) :
  wpAny (model prog w) A (searchCouldBeSeen (.ref x) stored) Q E s:=by
 unfold searchCouldBeSeen;refine wpAny_bind ?_;refine wpAny_forIn_list _ (fun rest r s'=>r=(none,())∧s'=s∧∀ v∈rest,∃ a k',v=.ref a∧TK prog w s.heap k' a) _ ?_ ?_ _ _ ⟨rfl,rfl,hall⟩
 ·rintro v rest r s' ⟨hr,rfl,hall⟩;obtain ⟨a,k',rfl,hk'⟩:=hall v List.mem_cons_self;have rest_ok:∀ v∈rest,∃ a k',v=Value.ref a∧TK prog w s'.heap k' a:=fun u hu'=>hall u (List.mem_cons_of_mem _ hu')
  dsimp only;split
  ·exact wpAny_pure ⟨rfl,rfl,rest_ok⟩
  ·refine wpAny_bind (wpAny_eqIsQuiet_tuple hk ?_);rw [if_neg (by decide)];refine wpAny_bind (wpAny_eqIsQuiet_tuple hk' ?_);rw [if_neg (by decide)];refine wpAny_bind (JiB hk ?_);rw [if_neg (by decide)];refine wpAny_bind (JiB hk' ?_);rw [if_neg (by decide)];exact wpAny_pure ⟨rfl,rfl,rest_ok⟩
 ·rintro r s' ⟨hr,rfl,_⟩;subst hr;exact wpAny_pure h
structure JfS (prog:Program) (w:World) (h:Heap) (S:Addr) (es:Array (Int×Value)) (t:SetTable) (D:List (List J5)):Prop where
 tab:Tab t es
 full:es.size * 5 < t.mask * 3
 els:∀ e∈es.toList,∃ ks∈D,∃ a,e=(hsh prog w ks,.ref a)∧TK prog w h ks a
 all:∀ ks∈D,∃ a,(hsh prog w ks,.ref a)∈es.toList∧TK prog w h ks a
 siz:es.size=D.length
theorem JoU {S x:Addr} {ks:List J5} {o:Obj} {es:Array (Int×Value)} {ep:Nat} {t:SetTable} {D:List (List J5)} {Q:SetFound→Shared→Prop} (hu:A.units < cLine) (ho:s.heap.get? S=some o) (hd:o.data=.set es ep t)
  (SA:JfS prog w s.heap S es t D) (hk:TK prog w s.heap ks x) :
  ∀ (k fuel:Nat) (sd:Option Probe),k < fuel→k < 10 * turns t.mask→Jc0 t.mask (Zj t.place) (sd.getD (t.probeStart (hsh prog w ks))) k→(sd.getD (t.probeStart (hsh prog w ks))).dummy=none →
   ((∃ n i a,n < k∧t.slot (YD t.mask n (sd.getD (t.probeStart (hsh prog w ks)))).j=.live i∧es.toList[i]?=some (hsh prog w ks,.ref a)∧TK prog w s.heap ks a)→Q (.there none) s) →
   ((∀ n i a,n < k→t.slot (YD t.mask n (sd.getD (t.probeStart (hsh prog w ks)))).j=.live i→es.toList[i]?=some (hsh prog w ks,.ref a)→TK prog w s.heap ks a→False)→Q (.free (YD t.mask k (sd.getD (t.probeStart (hsh prog w ks)))).j false) s) →
   wpAny (model prog w) A (setSearchFrom S (.ref x) (hsh prog w ks) true fuel sd) Q E s:=by
 intro k
 induction k using Nat.strongRecOn with
 | _ k ih =>
  intro fuel sd hf hb hF hdm h1 h2;obtain ⟨fuel,rfl⟩:∃ f,fuel=f + 1:=⟨fuel - 1,by omega⟩
  unfold setSearchFrom;refine wpAny_bind (wpAny_setState_of ho hd SA.tab.fits ?_);dsimp only;have hg:¬ t.gaveWay=true:=by
   unfold SetTable.gaveWay;rcases SA.tab.msk with e | e | e <;> rw [e] <;> decide
  rw [if_neg hg];have spec:=Jon (t:=t) (hashAt:=fun i=>(es[i]?.map (·.1)).getD 0) (h:=hsh prog w ks) (fun j=>Jr1 SA.tab.ris) (fun j=>Jjz SA.tab.ris SA.tab.dum) k (10 * turns t.mask) (sd.getD (t.probeStart (hsh prog w ks))) hb hF hdm;split
  ·rename_i met hmet;rcases spec with ⟨n,i,a1,a2,a3,a4,a5⟩ | ⟨a1,a2⟩
   ·have e:=Option.some.inj (hmet.symm.trans a5);subst e;dsimp only;obtain ⟨hi,hpl⟩:=JtP SA.tab.ris SA.tab.dum a2;have hie:i < es.size:=by rw [← SA.tab.siz]; exact hi
    obtain ⟨k',hk'D,b,eb,hkb⟩:=SA.els es[i] (by simp);have hei:es[i]?=some (hsh prog w k',.ref b):=by rw [Array.getElem?_eq_getElem hie,eb]
    have heL:es.toList[i]?=some (hsh prog w k',.ref b):=by rw [Array.getElem?_toList]; exact hei
    have hhash:hsh prog w k'=hsh prog w ks:=by
     rw [hei] at a3;exact a3
    have eI:∀ j,YD t.mask j (YD t.mask (n + 1) (sd.getD (t.probeStart (hsh prog w ks))))=YD t.mask (n + 1 + j) (sd.getD (t.probeStart (hsh prog w ks))):=fun j=>(JeF t.mask (n + 1) j _).symm
    have again:k'≠ks→wpAny (model prog w) A (setSearchFrom S (.ref x) (hsh prog w ks) true fuel (some (YD t.mask (n + 1) (sd.getD (t.probeStart (hsh prog w ks)))))) Q E s:=fun he=>by
     have ek:n + 1 + (k - (n + 1))=k:=by omega
     refine ih (k - (n + 1)) (by omega) fuel (some (YD t.mask (n + 1) (sd.getD (t.probeStart (hsh prog w ks))))) (by omega) (by omega) ⟨?_,fun j hj=>?_⟩ ?_ (fun q=>?_) (fun q=>?_)
     ·show Zj t.place (YD t.mask _ (YD t.mask (n + 1) _)).j=false;rw [eI,ek]; exact hF.1
     ·show Zj t.place (YD t.mask _ (YD t.mask (n + 1) _)).j=true;rw [eI]; exact hF.2 _ (by omega)
     ·show (YD t.mask (n + 1) _).dummy=none;rw [JhO]; exact hdm
     ·obtain ⟨n2,i2,c,c1,c2,c3,c4⟩:=q;have c2':t.slot (YD t.mask n2 (YD t.mask (n + 1) (sd.getD (t.probeStart (hsh prog w ks))))).j=.live i2:=c2;rw [eI] at c2';exact h1 ⟨_,i2,c,by omega,c2',c3,c4⟩
     ·show Q (.free (YD t.mask _ (YD t.mask (n + 1) (sd.getD (t.probeStart (hsh prog w ks))))).j false) s;rw [eI,ek];refine h2 fun n2 i2 c c1 c2 c3 c4=>?_
      rcases Nat.lt_trichotomy n2 n with g | g | g
      ·exact a4 n2 i2 g c2 (by rw [← Array.getElem?_toList,c3]; rfl)
      ·subst g;rw [a2] at c2;cases c2;rw [heL] at c3;have e5:=congrArg (fun z=>z.2) (Option.some.inj c3);have e6:b=c:=Value.ref.inj e5;subst e6;exact he (hkb.inj c4)
      ·refine q (n2 - (n + 1)) i2 c (by omega) ?_ c3 c4;show t.slot (YD t.mask _ (YD t.mask (n + 1) _)).j=_;rw [eI,show n + 1 + (n2 - (n + 1))=n2 by omega];exact c2
    cases hl:t.led
    ·rw [if_pos (by rfl)];refine wpAny_bind (Jto hk (fun v hv=>?_) ?_)
     ·obtain ⟨e,he,rfl⟩:=List.mem_map.mp hv;have he2:e∈es.toList:=by
       have:=Array.mem_toList_iff.mp he;exact Array.mem_toList_iff.mpr (Array.mem_filter.mp this).1
      obtain ⟨k2,_,b2,rfl,hb2⟩:=SA.els e he2;exact ⟨b2,k2,rfl,hb2⟩
     ·rw [if_neg (by decide)];rw [hei];dsimp only;refine wpAny_bind (wpAny_holding (wpAny_eqBool_tuple hu hkb hk ?_));refine wpAny_bind (wpAny_setState_of ho hd SA.tab.fits ?_);dsimp only;by_cases he:k'=ks
      ·subst he;rw [decide_eq_true rfl,if_pos (by decide)];exact wpAny_pure (h1 ⟨n,i,b,a1,a2,heL,hkb⟩)
      ·rw [decide_eq_false he,if_neg (by decide)];have hsm:t.sameMemory t.moves t.mask=some true:=by unfold SetTable.sameMemory; rw [if_pos (by simp)]
       rw [hsm];dsimp only;rw [if_pos rfl,a2];dsimp only;rw [hei];dsimp only;refine wpAny_bind (wpAny_isSame_ref_self ?_);rw [if_pos rfl];refine wpAny_bind (wpAny_pure ?_);dsimp only;rw [if_neg (by decide)];exact again he
    ·rw [if_neg (by decide)];rw [hei];dsimp only;refine wpAny_bind (wpAny_holding (wpAny_eqBool_tuple hu hkb hk ?_));refine wpAny_bind (wpAny_setState_of ho hd SA.tab.fits ?_);dsimp only;by_cases he:k'=ks
     ·subst he;rw [decide_eq_true rfl,if_pos (by decide)];exact wpAny_pure (h1 ⟨n,i,b,a1,a2,heL,hkb⟩)
     ·rw [decide_eq_false he,if_neg (by decide)];have hsm:t.sameMemory t.moves t.mask=some true:=by unfold SetTable.sameMemory; rw [if_pos (by simp)]
      rw [hsm];dsimp only;rw [if_pos rfl,a2];dsimp only;rw [hei];dsimp only;refine wpAny_bind (wpAny_isSame_ref_self ?_);rw [if_pos rfl];refine wpAny_bind (wpAny_pure ?_);dsimp only;rw [if_neg (by decide)];exact again he
   ·have e:=Option.some.inj (hmet.symm.trans a2);subst e;exact wpAny_pure (h2 fun n i a hn hs he hka=>a1 n i hn hs (by
     show (es[i]?.map (·.1)).getD 0=_;rw [← Array.getElem?_toList,he]; rfl))
  ·rename_i hmet;exfalso;rcases spec with ⟨n,i,a1,a2,a3,a4,a5⟩ | ⟨a1,a2⟩
   ·exact hmet _ a5
   ·exact hmet _ a2
open Classical in
noncomputable def dd (D:List (List J5)) (ks:List J5):List (List J5):=if ks∈D then D else D ++ [ks]
theorem TK.stay {h h':Heap} {S a:Addr} {o:Obj} {ks:List J5} {es:Array (Int×Value)} {ep:Nat} {t:SetTable} (hk:TK prog w h ks a) (ho:h.get? S=some o) (hd:o.data=.set es ep t) (hs:Heap.SameBut S h h'):TK prog w h' ks a:=by
 obtain ⟨o',items,n,ho',hc,hd',hi⟩:=hk;have hne:a≠S:=by
  rintro rfl;obtain rfl:o'=o:=Option.some.inj (ho'.symm.trans ho);rw [hd] at hd';exact nomatch hd'
 exact ⟨o',items,n,(hs.2 a hne).trans ho',hc,hd',hi⟩
theorem JtS {M:Model} {ks:List J5} {a:Addr} {Q:Bool→Shared→Prop} (hk:TK prog w s.heap ks a) (h:∀ b,Q b s):wpAny (model prog w) A (hashByValue 8 (.ref a)) Q E s:=by
 have hT:=hk.typeIs;obtain ⟨o,items,n,ho,hc,hd,hi⟩:=hk;unfold hashByValue;refine wpAny_bind (wpAny_specialOf hT F.slot_tuple_hash.lookup ?_);dsimp only;refine wpAny_bind (wpAny_seqItems ho hd ?_);refine wpAny_bind ?_;show wpAny _ _ (forIn items _ _) _ _ s;rw [← Array.forIn_toList];refine wpAny_forIn_list _ (fun rest r s'=>r=(none,())∧s'=s∧∀ v∈rest,carriedByValue v=true) _ ?_ ?_ _ _ ⟨rfl,rfl,hi.byValue⟩
 ·rintro v rest r s' ⟨hr,rfl,hall⟩;have hb:∃ b,hashByValue 7 v=pure b:=by
   have hv:=hall v List.mem_cons_self;cases v <;> first | exact ⟨_,rfl⟩ | (simp [carriedByValue] at hv; done)
  obtain ⟨b,eb⟩:=hb;rw [eb];refine wpAny_bind (wpAny_pure ?_);cases b with
  | true =>
   rw [if_neg (by decide)];exact wpAny_pure ⟨rfl,rfl,fun u hu'=>hall u (List.mem_cons_of_mem _ hu')⟩
  | false =>
   rw [if_pos (by decide)];exact wpAny_pure (wpAny_pure (h _))
 ·rintro r s' ⟨hr,rfl,_⟩;subst hr;exact wpAny_pure (h _)
theorem Jra {S x:Addr} {ks:List J5} {o:Obj} {es es1:Array (Int×Value)} {ep:Nat} {t t1:SetTable} {D:List (List J5)} {Q:Bool→Shared→Prop} (ho:s.heap.get? S=some o) (hex:o.ExactSet) (hd:o.data=.set es ep t)
  (SA:JfS prog w s.heap S es t D) (hk:TK prog w s.heap ks x) (hn:D.length < 64) (T1:Tab t1 es1) (hsz:es1.size=es.size + 1) (hmk:t1.mask=t.mask) (hmem:∀ e,e∈es1.toList↔e∈es.toList∨e=(hsh prog w ks,.ref x))
  (h:∀ b h' es' ep' t' o',Heap.SameBut S s.heap h'→h'.get? S=some o'→o'.ExactSet→o'.data=.set es' ep' t'→JfS prog w h' S es' t' (D ++ [ks])→Q b { s with heap:=h' }) :
  wpAny (model prog w) A (do
   storeSet S es1 t1
   if (!false && t1.tooFull)=true then do
    setRelay S (grown (es.size + 1))
    pure true
   else pure true) Q E s:=by
 have hes:=SA.siz;have bound:∀ n,n≤1000→n≤sizeLine:=fun n hn=>by rw [sizeLine_eq]; omega
 have mk:∀ {h':Heap} {es':Array (Int×Value)} {t':SetTable},Heap.SameBut S s.heap h'→Tab t' es'→es'.size * 5 < t'.mask * 3→es'.size=es1.size→(∀ e,e∈es'.toList↔e∈es1.toList)→JfS prog w h' S es' t' (D ++ [ks]):=fun {h' es' t'} hs T f z m=>by
  refine ⟨T,f,fun e he=>?_,fun k2 hk2=>?_,by rw [z,hsz,hes,List.length_append]; rfl⟩
  ·rcases (hmem e).mp ((m e).mp he) with q | q
   ·obtain ⟨k2,a1,a,a2,a3⟩:=SA.els e q;exact ⟨k2,List.mem_append_left _ a1,a,a2,a3.stay ho hd hs⟩
   ·exact ⟨ks,List.mem_append_right _ (List.mem_singleton.mpr rfl),x,q,hk.stay ho hd hs⟩
  ·rcases List.mem_append.mp hk2 with q | q
   ·obtain ⟨a,a1,a2⟩:=SA.all k2 q;exact ⟨a,(m _).mpr ((hmem _).mpr (.inl a1)),a2.stay ho hd hs⟩
   ·rw [List.mem_singleton.mp q];exact ⟨x,(m _).mpr ((hmem _).mpr (.inr rfl)),hk.stay ho hd hs⟩
 refine wpAny_bind (wpAny_storeSet_of ho hd ?_ (bound _ (by omega)));have hg:∀ {hh:Heap} {o:Obj} {es es':Array (Int×Value)} {ep:Nat} {t t':SetTable},hh.get? S=some o→o.data=.set es ep t→(hh.update S (Obj.putSet es' t')).get? S=some { o with data:=.set es' (ep + 1) t' }:=fun {hh o es es' ep t t'} ho hd=>by
  have z:=Heap.get?_update_self (Obj.putSet es' t') ho (by rw [putSet_of es' t' hd]; rfl);rw [putSet_of es' t' hd] at z;exact z
 have ho1:=hg (es':=es1) (t':=t1) ho hd;have hs1:=Heap.SameBut.update s.heap S (Obj.putSet es1 t1);have hfill:t1.fill=es1.size:=by unfold SetTable.fill; rw [T1.dum,T1.siz]; rfl
 by_cases hf:t1.tooFull=true
 ·rw [if_pos (by rw [hf]; rfl)];have hfull:=SA.full;unfold SetTable.tooFull at hf;rw [hfill,decide_eq_true_eq,hmk] at hf;obtain ⟨m',hm',hw,hcap⟩:∃ m',Msk m'∧sizeAbove (grown (es.size + 1))=m' + 1∧es1.size * 5 < m' * 3:=by
   rcases SA.tab.msk with e | e | e
   ·refine ⟨31,.inr (.inl rfl),?_,by omega⟩;have e4:es.size=4:=by omega
    rw [e4]; decide
   ·refine ⟨127,.inr (.inr rfl),?_,by omega⟩;have e4:es.size=18:=by omega
    rw [e4]; decide
   ·omega
  have hm127:m'≤127:=by rcases hm' with e | e | e <;> omega
  obtain ⟨t2,order,e2,T2,z2,m2,_⟩:=Jvl hm' t1.finger (t1.movedTo m') t1.led t1.plain es1 (by omega);have erel:t1.relaid (es1.map (·.1)) (grown (es.size + 1))=some (t2,order):=by
   unfold SetTable.relaid;rw [hw];exact e2
  unfold setRelay;refine wpAny_bind (wpAny_bind (wpAny_setState_of (s:={ s with heap:=s.heap.update S (Obj.putSet es1 t1) }) ho1 rfl T1.fits ?_));dsimp only;rw [if_neg (by rw [hw]; exact Nat.not_lt.mpr (bound _ (by omega)))];refine wpAny_bind ?_;rw [erel];show wpAny _ _ (if ((order.filterMap (es1[·]?)).size != es1.size)=true then _ else _) _ _ _;rw [if_neg (by rw [z2]; simp)];refine wpAny_pure ?_;dsimp only;refine wpAny_storeSet_of (s:={ s with heap:=s.heap.update S (Obj.putSet es1 t1) }) ho1 rfl ?_ (bound _ (by omega));have hs2:=hs1.trans (Heap.SameBut.update (s.heap.update S (Obj.putSet es1 t1)) S (Obj.putSet (order.filterMap (es1[·]?)) t2));exact wpAny_pure (h _ _ _ _ _ _ hs2 (hg ho1 rfl) hex rfl (mk hs2 T2 (by rw [z2]; have:=T2.cap; omega) z2 m2))
 ·rw [if_neg (by simpa using hf)];refine wpAny_pure (h _ _ es1 _ t1 _ hs1 ho1 hex rfl (mk hs1 T1 ?_ rfl fun _=>Iff.rfl));unfold SetTable.tooFull at hf;rw [hfill,decide_eq_true_eq] at hf;omega
theorem Jt0 {S x:Addr} {ks:List J5} {o:Obj} {es:Array (Int×Value)} {ep:Nat} {t:SetTable} {D:List (List J5)} {Q:Bool→Shared→Prop} (hu:A.units < cLine) (ho:s.heap.get? S=some o) (hex:o.ExactSet) (hd:o.data=.set es ep t)
  (SA:JfS prog w s.heap S es t D) (hk:TK prog w s.heap ks x) (hn:D.length < 64)
  (h:∀ b h' tk es' ep' t' o',Heap.SameBut S s.heap h'→h'.get? S=some o'→o'.ExactSet→o'.data=.set es' ep' t'→JfS prog w h' S es' t' (dd D ks)→Q b { s with heap:=h',toks:=tk }) :
  wpAny (model prog w) A (setAdd S (.ref x)) Q E s:=by
 unfold setAdd;refine wpAny_holding (wpAny_bind (wpAny_pyHash_tuple hu hk ?_));unfold setAddHashed setAddHashedIn;refine wpAny_holding (wpAny_bind (wpAny_setState_of ho hd SA.tab.fits ?_));dsimp only;have hbs:byScan (.ref x) es=false:=rfl;rw [hbs,if_neg (by decide)];obtain ⟨k,hk1,hF⟩:=SA.tab.first (hsh prog w ks);have hm:t.mask≤127:=by rcases SA.tab.msk with e | e | e <;> omega
 have SA2:JfS prog w ({ s with toks:=s.toks + (ks.length + 1) }:Shared).heap S es t D:=SA;refine wpAny_bind (JoU (s:={ s with toks:=s.toks + (ks.length + 1) }) hu ho hd SA2 hk k 100000 none (by unfold turns at hk1; omega) hk1 hF rfl ?_ ?_)
 ·rintro ⟨n,i,a,g1,g2,g3,g4⟩;dsimp only;have hin:ks∈D:=by
   obtain ⟨k2,hk2,b,e,hb⟩:=SA.els _ (List.mem_of_getElem? g3);have e6:a=b:=Value.ref.inj (congrArg (fun z=>z.2) e);subst e6;rw [IsTupleKey.inj g4 hb];exact hk2
  have e:dd D ks=D:=by unfold dd; exact if_pos hin
  exact wpAny_pure (h _ s.heap _ es ep t o (Heap.SameBut.refl S s.heap) ho hex hd (by rw [e]; exact SA))
 ·intro hno;dsimp only;have hnin:ks∉D:=fun hin=>by
   obtain ⟨a,ha,hka⟩:=SA.all ks hin;obtain ⟨i,hi⟩:=List.mem_iff_getElem?.mp ha;obtain ⟨n,hn1,hn2⟩:=SA.tab.met hF hi rfl;exact hno n i a hn1 hn2 hi hka
  have edd:dd D ks=D ++ [ks]:=by unfold dd; exact if_neg hnin
  refine wpAny_bind (wpAny_setState_of ho hd SA.tab.fits ?_);dsimp only;have hc:es.size + 1≤t.mask:=by
   have:=SA.full;rcases SA.tab.msk with e | e | e <;> omega
  have hmem:∀ (p:Nat) e,e∈(insertAt es p (hsh prog w ks,Value.ref x)).toList↔e∈es.toList∨e=(hsh prog w ks,.ref x):=fun p e=>by
   rw [(SetTable.insertAt_perm es p _).mem_iff,Array.toList_push,List.mem_append,List.mem_singleton]
  have hsz:∀ p:Nat,(insertAt es p (hsh prog w ks,Value.ref x)).size=es.size + 1:=fun p=>by
   rw [← Array.length_toList,(SetTable.insertAt_perm es p _).length_eq,Array.length_toList,Array.size_push]
  have fin:=fun (b:Bool)=>Jra (prog:=prog) (w:=w) (A:=A) (E:=E) (s:={ s with toks:=s.toks + (ks.length + 1) }) (Q:=Q) ho hex hd SA2 hk hn (SA.tab.put (x:=.ref x) b hF hc) (hsz _) rfl (hmem _) fun b h' es' ep' t' o' a1 a2 a3 a4 a5=>h b h' _ es' ep' t' o' a1 a2 a3 a4 (by rw [edd]; exact a5)
  have ep2:=Juu SA.tab (YD t.mask k (YZ t.mask (hsh prog w ks))).j;have ep3:t.put (YD t.mask k ((none:Option Probe).getD (t.probeStart (hsh prog w ks)))).j=_:=ep2;rw [ep3];dsimp only;by_cases hp:t.plain=true
  ·rw [if_pos hp];refine wpAny_bind (JtS (M:=model prog w) hk fun b=>?_);cases b with
   | true=>exact fin t.plain
   | false=>exact fin false
  ·rw [if_neg hp];refine wpAny_bind (wpAny_pure ?_);exact fin t.plain
end
end HS
set_option maxHeartbeats 3200000
namespace HS
open PySem PySem.SetTable L2
section
variable {prog:Program} {w:World} {A:Around} {E:Value→Shared→Prop} {s:Shared} {R:Result→Shared→Prop}
theorem Jrz {S I l:Addr} {items:Array Value} (hh:A.in1.handled=none) (hlI:l≠I) (hSI:S≠I) (hSl:S≠l) (J:Nat→Heap→Prop)
  (hJ:∀ i j h h',J i h→h.IsListIter I l j→(∀ b o,b≠I→h.get? b=some o→h'.get? b=some o)→J i h')
  (hadd:∀ i v (s':Shared) (E':Value→Shared→Prop) (Q:Bool→Shared→Prop),items[i]?=some v→J i s'.heap→(∀ b h' tk,Heap.SameBut S s'.heap h'→J (i + 1) h'→Q b { s' with heap:=h',toks:=tk })→wpAny (model prog w) A.in1 (setAdd S v) Q E' s') :
  ∀ (k i:Nat) (h:Heap) (tk:Nat),items.size - i=k→i≤items.size→h.IsListIter I l i→h.IsList l items→J i h →
   (∀ h' tk',(∀ b o,b≠S→b≠I→h.get? b=some o→h'.get? b=some o)→J items.size h'→R (.ok (.ret .none)) { s with heap:=h',toks:=tk' }) →
   codeAny (model prog w) A (.builtin "set.update.loop" ⟨[.ref S,.ref I],[]⟩) R { s with heap:=h,toks:=tk }:=by
 have W:=Walks.list (prog:=prog) (w:=w) hh I l hlI items;intro k
 induction k with
 | zero =>
  intro i h tk e0 e1 it li j hR;obtain rfl:i=items.size:=by omega
  refine codeAny_builtin PyProof.Rows.F.entry_set_update_loop (by
   rw [Around.under_plainId PyProof.Rows.F.plain_set_update_loop _];show wpAny _ A.in1 (pyNext (.ref I) >>= _) _ _ _;refine wpAny_bind (W.done _ _ _ ⟨it,li⟩ fun h' tk' kk=>?_);exact wpAny_pure (hR h' tk' (fun b o _ hb e=>kk b o (by simpa using hb) e) (hJ _ _ _ _ j it fun b o hb e=>kk b o (by simpa using hb) e)))
 | succ k ih =>
  intro i h tk e0 e1 it li j hR;have hlt:i < items.size:=by omega
  refine codeAny_builtin PyProof.Rows.F.entry_set_update_loop (by
   rw [Around.under_plainId PyProof.Rows.F.plain_set_update_loop _];show wpAny _ A.in1 (pyNext (.ref I) >>= _) _ _ _;refine wpAny_bind (W.item i _ _ _ hlt ⟨it,li⟩ fun v h1 tk1 hv st1 kk=>?_);have j1:J i h1:=hJ _ _ _ _ j it fun b o hb e=>kk b o (by simpa using hb) e
   show wpAny _ A.in1 (holding [v] (setAdd S v) >>= _) _ _ _;refine wpAny_bind (wpAny_holding (hadd i v { s with heap:=h1,toks:=tk1 } _ _ hv j1 fun b h2 tk2 sb j2=>?_));have it2:h2.IsListIter I l (i + 1):=st1.1.at fun o e=>(sb.2 I (Ne.symm hSI)).trans e
   have li2:h2.IsList l items:=st1.2.at fun o e=>(sb.2 l (Ne.symm hSl)).trans e
   refine wpAny_pure ⟨plainId_quiet PyProof.Rows.F.plain_set_update_loop _,ih (i + 1) h2 tk2 (by omega) hlt it2 li2 j2 fun h3 tk3 keep j3=>hR h3 tk3 (fun b o hb hbI e=>keep b o hb hbI ((sb.2 b hb).trans (kk b o (by simpa using hbI) e))) j3⟩)
theorem JiH {l:Addr} {items:Array Value} {Q:Value→Shared→Prop} (hh:A.handled=none) (hl:s.heap.IsList l items) (J:Addr→Nat→Heap→Prop)
  (h0:∀ (led:Bool) (h':Heap),h'.get? s.heap.objs.size=some { cls:=.type "set",dict:=none,data:=.set #[] 0 (.fresh 0 0 led) }→(∀ b o,s.heap.get? b=some o→h'.get? b=some o)→J s.heap.objs.size 0 h')
  (hJ:∀ S I i j h h',J S i h→h.IsListIter I l j→(∀ b o,b≠I→h.get? b=some o→h'.get? b=some o)→J S i h')
  (hadd:∀ S i v (A':Around) (s':Shared) (E':Value→Shared→Prop) (Q':Bool→Shared→Prop),A'.units≤A.units + 4→items[i]?=some v→J S i s'.heap→(∀ b h' tk,Heap.SameBut S s'.heap h'→J S (i + 1) h'→Q' b { s' with heap:=h',toks:=tk })→wpAny (model prog w) A' (setAdd S v) Q' E' s')
  (h:∀ (h':Heap) (tk:Nat),J s.heap.objs.size items.size h'→(∀ b o,b < s.heap.objs.size→s.heap.get? b=some o→h'.get? b=some o)→Q (.ref s.heap.objs.size) { s with heap:=h',toks:=tk }) :
  wpAny (model prog w) A (call (.type "set") [.ref l]) Q E s:=by
 obtain ⟨c,tl,hmro⟩:=F.called_set.mro;have made:=F.called_set.made;have sub:=F.called_set.sub;refine wpAny_call (codeAny_of_tree (wpAny_pure ⟨Code.quiet_builtin _ (by decide +kernel),codeAny_builtin F.entry_type_call ?_⟩));rw [Around.under_plain (weight_type_call_type "set" [.ref l] []) rfl];have n1:=F.called_set.notType;have n2:=F.called_set.canCreate;have n3:=F.typeCall_set_1 (.ref l)
 repeat (any_goals (first | assumption | wp_step))
 let fresh (led:Bool):Obj:={ cls:=.type "set",dict:=none,data:=.set #[] 0 (.fresh 0 0 led) }
 refine codeAny_mono (code_set_new_1 (.ref l) (E:=E) (Q₁:=fun obj s1=>∃ led,obj=.ref s.heap.objs.size∧s1={ s with heap:=s.heap.push (fresh led) }) fun led=>⟨led,rfl,rfl⟩) fun r s1 hr=>?_
 rcases r with e | f
 ·exact hr
 cases f with
 | ret obj =>
  obtain ⟨led,rfl,rfl⟩:=hr;have gS:(s.heap.push (fresh led)).get? s.heap.objs.size=some (fresh led):=Heap.get?_push_size _ rfl;have tS:Shared.TypeIs { s with heap:=s.heap.push (fresh led) } (.ref s.heap.objs.size) "set":=⟨_,gS,rfl⟩
  have i1:=F.called_set.init.lookup;have i2:=F.called_set.init.bind (.ref s.heap.objs.size)
  repeat (any_goals (first | assumption | wp_step))
  refine codeAny_mono (codeAny_call_builtin (R:=wants (fun r s2=>r=.none∧∃ h' tk,s2={ s with heap:=h',toks:=tk }∧J s.heap.objs.size items.size h'∧∀ b o,b < s.heap.objs.size→s.heap.get? b=some o→h'.get? b=some o) E)
   F.called_set.init.plain F.entry_set_init (check_set_init_1 tS ?_)) fun r2 s2 hr2=>?_
  ·obtain ⟨ol,gl,cl,nl,dl⟩:=hl;obtain ⟨k1,k2,k3,k4⟩:=ol;simp only at cl dl;subst cl dl;have gl1:(s.heap.push (fresh led)).get? l=some { cls:=.type "list",dict:=k2,data:=.seq items nl,slots:=k4 }:=Heap.get?_push_of_some _ gl;have z1:=F.sub_list_set;have z2:=F.sub_list_frozenset;have z3:(Value.type "list" == Value.type "dict")=false:=by decide
   have ll:(s.heap.push (fresh led)).IsList l items:=⟨_,gl1,rfl,nl,rfl⟩
   have lS:l < s.heap.objs.size:=Heap.lt_size gl;unfold Builtin.«set.__init__» noKeywords Builtin.Frozenset.updateFrom;generalize pe:pyIter=PI
   wp_walk
   subst pe;refine wpAny_pyIter_list ll (wpAny_bind (wpAny_runValue ?_));have szp:(s.heap.push (fresh led)).objs.size=s.heap.objs.size + 1:=Heap.size_push ..;refine Jrz (s:={ s with heap:=s.heap.push (fresh led) }) (I:=(s.heap.push (fresh led)).objs.size) (l:=l) (items:=items) (by simp [hh]) (Nat.ne_of_lt (by rw [szp]; exact Nat.lt_succ_of_lt lS)) (Nat.ne_of_lt (by rw [szp]; exact Nat.lt_succ_self _)) (Nat.ne_of_gt lS) (J s.heap.objs.size) (fun i j h h'=>hJ _ _ i j h h')
    (fun i v s' E' Q' hv j q=>hadd _ i v _ s' E' Q' (by show A.units + 1 + 1 + 1≤A.units + 4; omega) hv j q) (items.size - 0) 0 _ _ rfl (Nat.zero_le _) ⟨_,Heap.get?_push_size _ rfl,rfl,rfl⟩ (ll.push _) ?_ ?_
   ·exact h0 led _ (Heap.get?_push_of_some _ gS) fun b o e=>Heap.get?_push_of_some _ (Heap.get?_push_of_some _ e)
   ·intro h' tk' keep j;refine wpAny_pure (wpAny_pure ⟨rfl,h',tk',rfl,j,fun b o hb e=>keep b o (Nat.ne_of_lt hb) (Nat.ne_of_lt (by rw [szp]; exact Nat.lt_succ_of_lt hb)) (Heap.get?_push_of_some _ (Heap.get?_push_of_some _ e))⟩)
  ·rcases r2 with e | f2
   ·exact hr2
   cases f2 with
   | ret r =>
    obtain ⟨rfl,h',tk,rfl,j,keep⟩:=hr2
    repeat (any_goals (first | assumption | wp_step))
    exact h _ _ j keep
   | _=>exact hr2.elim
 | _=>exact hr.elim
end
end HS
namespace L2
open PySem PySem.Spec PyProof.Rows HS
open Classical in
noncomputable def dg {α:Type} (D:List α) (x:α):List α:=if x∈D then D else D ++ [x]
theorem Jpx {α:Type} {D:List α} {x:α} (h:x∈D):dg D x=D:=by unfold dg; exact if_pos h
theorem Jj1 {α:Type} {D:List α} {x:α} (h:¬ x∈D):dg D x=D ++ [x]:=by unfold dg; exact if_neg h
noncomputable def JhY {α:Type} (l:List α):List α:=l.foldl dg []
theorem Jin {α:Type}:∀ (l D:List α),(l.foldl dg D).length≤D.length + l.length
 | [],D=>Nat.le_refl _
 | x :: l,D=>by
  rw [List.foldl_cons];have z:=Jin l (dg D x);by_cases h:x∈D
  ·rw [Jpx h] at z ⊢; simp only [List.length_cons]; omega
  ·rw [Jj1 h] at z ⊢; rw [List.length_append] at z; simp only [List.length_cons,List.length_nil] at z ⊢; omega
theorem Jos {α:Type} (l:List α):(JhY l).length≤l.length:=by have:=Jin l []; simpa [JhY] using this
theorem JjY {α:Type}:∀ (l D:List α),(D ++ l).Nodup→l.foldl dg D=D ++ l
 | [],D,_=>by simp
 | x :: l,D,h=>by
  have hx:¬ x∈D:=fun q=>by
   rw [List.nodup_append] at h;exact h.2.2 x q x (List.mem_cons_self ..) rfl
  rw [List.foldl_cons,Jj1 hx,JjY l (D ++ [x]) (by simpa using h)];simp
theorem Jj0 {α:Type} {l:List α} (h:l.Nodup):(JhY l).length=l.length:=by unfold JhY; rw [JjY l [] (by simpa using h)]; simp
theorem JhR {α:Type} {l:List α} {i:Nat} {x:α} (h:l[i]?=some x):(l.take (i + 1)).foldl dg []=dg ((l.take i).foldl dg []) x:=by
 rw [List.take_succ,h];simp
def szO (a:Addr) (n:Nat):HO:=.ext fun h=>∃ o es ep t,h.get? a=some o∧o.ExactSet∧o.data=.set es ep t∧t.fits es.size=true∧es.size=n∧n≤1000
theorem JpO {P:Program} {w:World} {H:Hp} {h:Heap} {a:Addr} {n:Nat} {o:Obj} {es:Array (Int×Value)} {ep:Nat} {t:SetTable} (h1:h.get? a=some o) (h2:o.ExactSet) (h3:o.data=.set es ep t) (h4:t.fits es.size=true) (h5:es.size=n) (h6:n≤1000) :
  YO P w H h a (szO a n):=⟨⟨o,es,ep,t,h1,h2,h3,h4,h5,h6⟩,⟨o,h1⟩,fun g1 g2 ⟨o,es,ep,t,e1,r⟩ k=>⟨o,es,ep,t,k o e1,r⟩⟩
section
variable {X:Cx}
theorem Jn4:Yx X (.builtin "len") (fun xs H Q=>∃ a n,xs=[.ref a]∧H a=some (szO a n)∧Q (.int n) H):=by
 intro pins s σ H xs us Q I r h;obtain ⟨a,n,rfl,hn,q⟩:=h;obtain ⟨u,rfl,ru⟩:=JL.one r;cases ru;obtain ⟨⟨o,es,ep,t,e1,e2,e3,e4,rfl,e6⟩,_⟩:=(show YO X.prog X.w H s.heap a (szO a n) from I.hok a _ hn)
 exact call_len_set e1 e2 e3 e4 (by omega) ⟨.int es.size,H,(I.tok _).tok _,⟨_,rfl⟩,q⟩
theorem Jex:∀ {vs:List V} {us:List Value} {i:Nat} {x:V},JL vs us→vs[i]?=some x→∃ u,us[i]?=some u∧JY x u
 | _,_,i,x,.nil,h=>by simp at h
 | _,_,0,x,.cons r t,h=>by
  cases h;exact ⟨_,rfl,r⟩
 | _,_,i + 1,x,.cons r t,h=>Jex (i:=i) t (by simpa using h)
def JgG (K:PySem.W.Frag) (H:Hp) (vs:List V) (kss:List (List J5)):Prop:=vs.length=kss.length∧∀ (i:Nat) v ks,vs[i]?=some v→kss[i]?=some ks→∃ a,v=.ref a∧JH K H a (ks.map kV)
theorem Jnf {P:Program} {w:World}:∀ {ks:List J5} {us:List Value},JL (ks.map kV) us→ItemsAre (YF P w) ks us
 | [],_,r=>by cases r; exact .nil
 | k :: ks,_,r=>by
  cases r with
  | cons r rr=>exact .cons (JjT r) (Jnf rr)
theorem JoI {pins:List (Addr×Obj)} {σ:St} {H:Hp} {s:Shared} {a:Addr} {ks:List J5} (I:Jq X pins σ H s) (h:JH X.K H a (ks.map kV)):TK X.prog X.w s.heap ks a:=by
 obtain ⟨its,r,⟨o,e,c,n,d⟩,_⟩:=I.tuple h;exact ⟨o,its.toArray,n,e,c,d,by simpa using Jnf r⟩
theorem Jkm {prog:Program} {w:World} {h h':Heap} {ks:List J5} {a:Addr} (hk:TK prog w h ks a) (k:∀ o,h.get? a=some o→(∃ its n,o.data=.seq its n)→h'.get? a=some o):TK prog w h' ks a:=by
 obtain ⟨o,its,n,e,c,d,i⟩:=hk;exact ⟨o,its,n,k o e ⟨its,n,d⟩,c,d,i⟩
def JsI (K:PySem.W.Frag):List V→Hp→VK→Prop:=fun xs H Q=>∃ l vs kss,xs=[.ref l]∧JA K H l vs∧JgG K H vs kss∧kss.length≤64∧∀ p,H p=none→Q (.ref p) (upd H p (szO p (JhY kss).length))
theorem JqS (hc:X.calm=true) (hu:X.A.units + 64 < cLine):Yx X (.type "set") (JsI X.K):=by
 intro pins s σ H xs us Q I r h;obtain ⟨l,vs,kss,rfl,hl,⟨tl,tt⟩,hz,q⟩:=h;obtain ⟨u,rfl,ru⟩:=JL.one r;cases ru;obtain ⟨its,rv,pl,_⟩:=I.list hl;have rlen:=rv.length;have at_:∀ (i:Nat) v,its.toArray[i]?=some v→∃ ks a,kss[i]?=some ks∧v=.ref a∧TK X.prog X.w s.heap ks a:=fun i v hv=>by
  have hi:i < its.length:=by
   have:=(Array.getElem?_eq_some_iff.mp hv).1;simpa using this
  obtain ⟨x,hx⟩:∃ x,vs[i]?=some x:=⟨vs[i],List.getElem?_eq_getElem (by omega)⟩
  obtain ⟨ks,hks⟩:∃ ks,kss[i]?=some ks:=⟨kss[i],List.getElem?_eq_getElem (by omega)⟩
  obtain ⟨a,rfl,ha⟩:=tt i x ks hx hks;obtain ⟨u,hu1,hu2⟩:=Jex rv hx;have e:v=u:=by
   rw [List.getElem?_toArray] at hv;exact Option.some.inj (hv.symm.trans hu1)
  subst e;cases (show v=.ref a from hu2);exact ⟨ks,a,hks,rfl,JoI I ha⟩
 have hsz:its.toArray.size=kss.length:=by rw [List.size_toArray]; omega
 refine JiH (J:=fun S i h'=>(∀ b o,b < s.heap.objs.size→s.heap.get? b=some o→(∃ its n,o.data=.seq its n)→h'.get? b=some o)∧∃ o es ep t,h'.get? S=some o∧o.ExactSet∧o.data=.set es ep t∧JfS X.prog X.w h' S es t ((kss.take i).foldl dg []))
  (I.ok.hd hc) pl.isList ?_ ?_ ?_ ?_
 ·intro led h' g keep;refine ⟨fun b o _ e _=>keep b o e,_,#[],0,_,g,⟨rfl,rfl,rfl⟩,rfl,⟨.inl rfl,rfl,rfl,fun a b _ hb=>absurd hb (Nat.not_lt_zero _),fun j hj=>by simp [SetTable.fresh] at hj,Nat.zero_le _,fun z hz=>by simp [SetTable.fresh] at hz⟩,?_,fun e he=>by simp at he,fun ks hks=>?_,rfl⟩
  ·show 0 * 5 < 7 * 3
   decide
  ·rw [List.take_zero] at hks; exact nomatch hks
 ·rintro S Ia i j h1 h2 ⟨k1,o,es,ep,t,e1,e2,e3,SA⟩ ⟨oi,i1,i2,i3⟩ keep;have seq:∀ b o',h1.get? b=some o'→(∃ its n,o'.data=.seq its n)→h2.get? b=some o':=fun b o' e ⟨its,n,d⟩=>keep b o' (by
   rintro rfl;rw [i1] at e; cases e;rw [i3] at d; cases d) e
  refine ⟨fun b o' hb e d=>seq b o' (k1 b o' hb e d) d,o,es,ep,t,keep S o (by
   rintro rfl;rw [i1] at e1; cases e1;rw [i3] at e3; cases e3) e1,e2,e3,SA.tab,SA.full,fun e he=>?_,fun ks hks=>?_,SA.siz⟩
  ·obtain ⟨ks,a1,a,a2,a3⟩:=SA.els e he;exact ⟨ks,a1,a,a2,Jkm a3 fun o' e' d=>seq _ _ e' d⟩
  ·obtain ⟨a,a1,a2⟩:=SA.all ks hks;exact ⟨a,a1,Jkm a2 fun o' e' d=>seq _ _ e' d⟩
 ·rintro S i v A' s' E' Q' hA hv ⟨k1,o,es,ep,t,e1,e2,e3,SA⟩ hQ;obtain ⟨ks,a,hks,rfl,hk⟩:=at_ i v hv;have hk':TK X.prog X.w s'.heap ks a:=Jkm hk fun o' e' d=>k1 a o' (Heap.lt_size e') e' d
  have hlt:((kss.take i).foldl dg []).length < 64:=by
   have z:=Jin (kss.take i) [];have z2:=(List.getElem?_eq_some_iff.mp hks).1;rw [List.length_take] at z;simp only [List.length_nil] at z;omega
  refine Jt0 (by omega) e1 e2 e3 SA hk' hlt fun b h' tk es' ep' t' o' sb g1 g2 g3 g4=>hQ b h' tk sb ⟨fun b' o2 hb e d=>?_,o',es',ep',t',g1,g2,g3,?_⟩
  ·have z:=k1 b' o2 hb e d;have hne:b'≠S:=by
    rintro rfl;rw [e1] at z; cases z;obtain ⟨its,n,d⟩:=d;rw [e3] at d; cases d
   exact (sb.2 b' hne).trans z
  ·rw [JhR hks];have e:dg ((kss.take i).foldl dg []) ks=dd ((kss.take i).foldl dg []) ks:=by unfold dg dd; split <;> rfl
   rw [e];exact g4
 ·rintro h' tk ⟨_,o,es,ep,t,e1,e2,e3,SA⟩ keep;rw [hsz,List.take_length] at SA;have hf:H s.heap.objs.size=none:=I.hok.fresh (Nat.le_refl _);refine ⟨.ref s.heap.objs.size,_,I.laid (fun b u e=>keep b u (Heap.lt_size e) e) (Nat.le_refl _) (JpO e1 e2 e3 SA.tab.fits SA.siz ?_),rfl,q _ hf⟩;have:=Jos kss;show (JhY kss).length≤1000;omega
def JsJ (K:PySem.W.Frag):List V→Hp→VK→Prop:=fun xs H Q=>∃ l ss,xs=[.ref l]∧JA K H l (ss.map V.str)∧ss.length≤64∧∀ p,H p=none→Q (.ref p) (upd H p (szO p (JhY ss).length))
theorem JqT (hc:X.calm=true):Yx X (.type "set") (JsJ X.K):=by
 intro pins s σ H xs us Q I r h;obtain ⟨l,ss,rfl,hl,hz,q⟩:=h;obtain ⟨u,rfl,ru⟩:=JL.one r;cases ru;obtain ⟨its,rv,pl,_⟩:=I.list hl;have rlen:=rv.length;rw [List.length_map] at rlen;have at_:∀ (i:Nat) v,its.toArray[i]?=some v→∃ x t,ss[i]?=some x∧v=.str x t:=fun i v hv=>by
  have hi:i < its.length:=by
   have:=(Array.getElem?_eq_some_iff.mp hv).1;simpa using this
  obtain ⟨x,hx⟩:∃ x,ss[i]?=some x:=⟨ss[i],List.getElem?_eq_getElem (by omega)⟩
  obtain ⟨u,hu1,hu2⟩:=Jex (i:=i) (x:=.str x) rv (by rw [List.getElem?_map,hx]; rfl);have e:v=u:=by
   rw [List.getElem?_toArray] at hv;exact Option.some.inj (hv.symm.trans hu1)
  subst e;obtain ⟨t,e⟩:=hu2;exact ⟨x,t,hx,e⟩
 have hsz:its.toArray.size=ss.length:=by rw [List.size_toArray]; omega
 refine JiH (J:=fun S i h'=>∃ f,h'.SetOf (YF X.prog X.w) S f ((ss.take i).foldl dg []).length∧∀ x:Str,f (.inr x)=true↔x∈(ss.take i).foldl dg []) (I.ok.hd hc) pl.isList ?_ ?_ ?_ ?_
 ·intro led h' g keep;refine ⟨fun _=>false,⟨_,#[],0,_,g,⟨rfl,rfl,rfl⟩,rfl,fun e he=>by simp at he,fun k=>by simp,by decide,rfl,rfl⟩,fun x=>?_⟩;rw [List.take_zero];simp
 ·rintro S Ia i j h1 h2 ⟨f,⟨o,es,ep,t,e1,e2,e3,r⟩,hf⟩ ⟨oi,i1,i2,i3⟩ keep;refine ⟨f,⟨o,es,ep,t,keep S o ?_ e1,e2,e3,r⟩,hf⟩;rintro rfl;rw [i1] at e1; cases e1;rw [i3] at e3; cases e3
 ·rintro S i v A' s' E' Q' hA hv ⟨f,hS,hf⟩ hQ;obtain ⟨x,t,hx,rfl⟩:=at_ i v hv;have hlt:((ss.take i).foldl dg []).length + 1 < scanBound:=by
   have z:=Jin (ss.take i) [];have z2:=(List.getElem?_eq_some_iff.mp hx).1;rw [List.length_take] at z;simp only [List.length_nil] at z;show _ + 1 < 4096;omega
  unfold setAdd;refine wpAny_holding (wpAny_bind ((YF X.prog X.w).pyHash (JbZ X.prog X.w x t) ?_));refine wpAny_setAddHashed_of (knd:=YF X.prog X.w) (s:={ s' with toks:=s'.toks + 1 }) (JbZ X.prog X.w x t) rfl hS hlt fun h' sb hS2=>?_
  refine hQ _ h' _ sb ⟨fun k'=>f k' || decide (k'=.inr x),?_,?_⟩
  ·rw [JhR hx];by_cases hin:x∈(ss.take i).foldl dg []
   ·rw [Jpx hin];have e:=(hf x).mpr hin;rw [if_pos e] at hS2;exact hS2
   ·rw [Jj1 hin];have e:¬ f (.inr x)=true:=fun w=>hin ((hf x).mp w)
    rw [if_neg e] at hS2;rw [List.length_append];exact hS2
  ·intro y;rw [JhR hx,Bool.or_eq_true,hf y,decide_eq_true_eq];by_cases hin:x∈(ss.take i).foldl dg []
   ·rw [Jpx hin];exact ⟨fun z=>z.elim id fun e=>(Sum.inr.inj e) ▸ hin,.inl⟩
   ·rw [Jj1 hin,List.mem_append,List.mem_singleton];exact ⟨fun z=>z.imp id fun e=>Sum.inr.inj e,fun z=>z.imp id fun e=>by rw [e]⟩
 ·rintro h' tk ⟨f,⟨o,es,ep,t,e1,e2,e3,_,_,_,e7,e8⟩,hf⟩ keep;rw [hsz,List.take_length] at e8;have hfr:H s.heap.objs.size=none:=I.hok.fresh (Nat.le_refl _);refine ⟨.ref s.heap.objs.size,_,I.laid (fun b u e=>keep b u (Heap.lt_size e) e) (Nat.le_refl _) (JpO e1 e2 e3 e7 e8 ?_),rfl,q _ hfr⟩;have:=Jos ss;show (JhY ss).length≤1000;omega
def Jvn (K:PySem.W.Frag):List V→Hp→VK→Prop:=fun xs H Q=>JsJ K xs H Q∨JsI K xs H Q
theorem JqU (hc:X.calm=true) (hu:X.A.units + 64 < cLine):Yx X (.type "set") (Jvn X.K):=by
 intro pins s σ H xs us Q I r h;rcases h with h | h
 ·exact JqT hc pins s σ H xs us Q I r h
 ·exact JqS hc hu pins s σ H xs us Q I r h
end
end L2
namespace KS
open PySem PySem.W PyProof.Rows
section
variable {O:KeyOrd} {key:Nat→O.α} {n:Nat}
def Ok (O:KeyOrd) (key:Nat→O.α) (n:Nat) {α:Type} (Post:α→Prop):KasT α→Prop
 | .ret a=>Post a
 | .ask i j k=>i < n∧j < n∧Ok O key n Post (k (O.blt (key i) (key j)))
theorem Ok.bind {α β:Type} {Post:β→Prop} {f:α→KasT β}:∀ {t:KasT α},Ok O key n (fun a=>Ok O key n Post (f a)) t→Ok O key n Post (t.bind f)
 | .ret _,h=>h
 | .ask _ _ _,h=>⟨h.1,h.2.1,Ok.bind h.2.2⟩
theorem Ok.wp {α:Type} {Post:α→Prop} {cmp:Nat→Nat→(Bool→Shared→Prop)→Shared→Prop} {Q:α→Shared→Prop} {s:Shared} (hc:∀ i j C,i < n→j < n→C (O.blt (key i) (key j)) s→cmp i j C s) (hq:∀ a,Post a→Q a s):∀ {t:KasT α},Ok O key n Post t→t.kasWp cmp Q s
 | .ret _,h=>hq _ h
 | .ask i j k,h=>hc i j _ h.1 h.2.1 (Ok.wp hc hq h.2.2)
def Pm (n:Nat) (p:Array Nat):Prop:=p.Perm (List.toArray (List.range n))
theorem Pm.size {p:Array Nat} (h:Pm n p):p.size=n:=by rw [Array.Perm.size_eq h]; simp
theorem Pm.lt {p:Array Nat} (h:Pm n p) (h0:0 < n) (i:Nat):p.getD i 0 < n:=by
 by_cases hi:i < p.size
 ·have hm:p[i]∈p:=Array.getElem_mem hi;have hm2:p[i]∈List.toArray (List.range n):=h.mem_iff.mp hm;rw [List.mem_toArray,List.mem_range] at hm2;simpa [Array.getD,hi] using hm2
 ·simpa [Array.getD,hi] using h0
def Kp (key:Nat→O.α) (p:Array Nat) (i:Nat):O.α:=key (p.getD i 0)
def Srt (O:KeyOrd) (key:Nat→O.α) (p:Array Nat) (m:Nat):Prop:=∀ i j,i≤j→j < m→O.kle (Kp key p i) (Kp key p j)
def Fal (O:KeyOrd) (key:Nat→O.α) (p:Array Nat) (m:Nat):Prop:=∀ i j,i≤j→j < m→O.kle (Kp key p j) (Kp key p i)
theorem JgC {p q:Array Nat} {i j:Nat} (h:p[i]?=q[j]?):p.getD i 0=q.getD j 0:=by rw [Array.getD_eq_getD_getElem?,Array.getD_eq_getD_getElem?,h]
theorem JjE {p:Array Nat} {i j:Nat} (hj:j≤p.size) (k:Nat):Kp key (kas_rev p i j) k=if i≤k∧k < j then Kp key p (i + j - 1 - k) else Kp key p k:=by
 have e:=getElem?_mirror_all (i:=i) hj k;unfold Kp kas_rev;split
 ·rename_i h;rw [if_pos h] at e;rw [JgC e]
 ·rename_i h;rw [if_neg h] at e;rw [JgC e]
theorem Jhp {p:Array Nat} (i j:Nat) (h:Pm n p):Pm n (kas_rev p i j):=(mirror_perm p i j _).trans h
theorem JuU {p:Array Nat} {s d:Nat} (hs:s < p.size) (hd:d≤s) (k:Nat):Kp key (bubble p s d) k=if k=s - d then Kp key p s else if s - d < k∧k≤s then Kp key p (k - 1) else Kp key p k:=by
 have e:=getElem?_bubble hs d hd k;unfold Kp;by_cases h1:k=s - d
 ·rw [if_pos h1] at e ⊢; rw [JgC e]
 ·rw [if_neg h1] at e ⊢;by_cases h2:s - d < k∧k≤s
  ·rw [if_pos h2] at e ⊢; rw [JgC e]
  ·rw [if_neg h2] at e ⊢; rw [JgC e]
theorem nlt {a b:O.α} (h:¬ O.blt a b=true):O.kle b a:=by
 show O.blt a b=false;simpa using h
theorem JnD {Post:Nat→Prop} {p:Array Nat} (hp:Pm n p) (h0:0 < n):∀ (f a:Nat),1≤a→Srt O key p a→(∀ m,a≤m→m≤a + f→Srt O key p m→(m < a + f→O.klt (Kp key p m) (Kp key p (m - 1)))→Post m)→Ok O key n Post (kas_asc p f a)
 | 0,a,h1,hs,hq=>hq a (Nat.le_refl _) (Nat.le_refl _) hs fun h=>absurd h (Nat.lt_irrefl _)
 | f + 1,a,h1,hs,hq=>by
  refine ⟨hp.lt h0 _,hp.lt h0 _,?_⟩;dsimp only;by_cases hc:O.blt (key (p.getD a 0)) (key (p.getD (a - 1) 0))=true
  ·rw [if_pos hc];exact hq a (Nat.le_refl _) (by omega) hs fun _=>hc
  ·rw [if_neg hc];have hle:O.kle (Kp key p (a - 1)) (Kp key p a):=nlt hc;refine JnD hp h0 f (a + 1) (by omega) (fun i j hij hj=>?_) fun m g1 g2 g3 g4=>hq m (by omega) (by omega) g3 fun h=>g4 (by omega)
   by_cases hja:j < a
   ·exact hs i j hij hja
   ·obtain rfl:j=a:=by omega
    by_cases hia:i=j
    ·subst hia; exact O.kle_refl _
    ·exact O.kle_trans (hs i (j - 1) (by omega) (by omega)) hle
def Dsc (O:KeyOrd) (key:Nat→O.α) (p:Array Nat) (a q:Nat):Prop:=q + 1≤a∧Fal O key p a∧∀ i,a - (q + 1)≤i→i < a→O.kle (Kp key p i) (Kp key p (a - 1))
theorem Dsc.rev {p:Array Nat} {a q:Nat} (ha:a≤p.size) (h:Dsc O key p a q):(∀ k,Kp key (kas_rev p (a - (q + 1)) a) k=Kp key p k):=by
 obtain ⟨h1,h2,h3⟩:=h;have same:∀ i,a - (q + 1)≤i→i < a→Kp key p i=Kp key p (a - 1):=fun i g1 g2=>O.kle_antisymm (h3 i g1 g2) (h2 i (a - 1) (by omega) (by omega))
 intro k;rw [JjE ha];split
 ·rename_i h;rw [same _ (by omega) (by omega),same k h.1 h.2]
 ·rfl
theorem Dsc.congr {p p':Array Nat} {a q:Nat} (h:Dsc O key p a q) (e:∀ k,Kp key p' k=Kp key p k):Dsc O key p' a q :=
 ⟨h.1,fun i j hij hj=>by rw [e,e]; exact h.2.1 i j hij hj,fun i g1 g2=>by rw [e,e]; exact h.2.2 i g1 g2⟩
theorem Dsc.next {p:Array Nat} {a q:Nat} (h:Dsc O key p a q) (hlt:O.klt (Kp key p a) (Kp key p (a - 1))):Dsc O key p (a + 1) 0:=by
 refine ⟨by omega,fun i j hij hj=>?_,fun i g1 g2=>?_⟩
 ·by_cases hja:j < a
  ·exact h.2.1 i j hij hja
  ·obtain rfl:j=a:=by omega
   by_cases hia:i=j
   ·subst hia; exact O.kle_refl _
   ·have:=h.1;exact O.kle_trans (O.kle_of_klt hlt) (h.2.1 i (j - 1) (by omega) (by omega))
 ·obtain rfl:i=a:=by omega
  exact O.kle_refl _
theorem Dsc.same {p:Array Nat} {a q:Nat} (h:Dsc O key p a q) (e:Kp key p a=Kp key p (a - 1)):Dsc O key p (a + 1) (q + 1):=by
 have h1:=h.1;refine ⟨by omega,fun i j hij hj=>?_,fun i g1 g2=>?_⟩
 ·by_cases hja:j < a
  ·exact h.2.1 i j hij hja
  ·obtain rfl:j=a:=by omega
   by_cases hia:i=j
   ·subst hia; exact O.kle_refl _
   ·rw [e];exact h.2.1 i (j - 1) (by omega) (by omega)
 ·show O.kle (Kp key p i) (Kp key p (a + 1 - 1));rw [Nat.add_sub_cancel,e];by_cases hia:i=a
  ·subst hia; rw [e]; exact O.kle_refl _
  ·exact h.2.2 i (by omega) (by omega)
theorem Jio {Post:Array Nat×Nat×Nat→Prop} (h0:0 < n):∀ (f:Nat) (p:Array Nat) (a q:Nat),Pm n p→a + f≤n→Dsc O key p a q→(∀ p' a' q',Pm n p'→a≤a'→a'≤a + f→Dsc O key p' a' q'→Post (p',a',q'))→Ok O key n Post (kas_desc f p a q)
 | 0,p,a,q,hp,hn,hd,hq=>hq p a q hp (Nat.le_refl _) (Nat.le_refl _) hd
 | f + 1,p,a,q,hp,hn,hd,hq=>by
  have hz:=hp.size;refine ⟨hp.lt h0 _,hp.lt h0 _,?_⟩;dsimp only;by_cases hc:O.blt (key (p.getD a 0)) (key (p.getD (a - 1) 0))=true
  ·rw [if_pos hc];have hd2:=hd.next hc;by_cases hq0:q > 0
   ·rw [if_pos hq0];have e:=hd.rev (by omega);exact Jio h0 f _ (a + 1) 0 (Jhp _ _ hp) (by omega) (hd2.congr e) fun p' a' q' g1 g2 g3 g4=>hq p' a' q' g1 (by omega) (by omega) g4
   ·rw [if_neg hq0];exact Jio h0 f p (a + 1) 0 hp (by omega) hd2 fun p' a' q' g1 g2 g3 g4=>hq p' a' q' g1 (by omega) (by omega) g4
  ·rw [if_neg hc];refine ⟨hp.lt h0 _,hp.lt h0 _,?_⟩;dsimp only;by_cases hc2:O.blt (key (p.getD (a - 1) 0)) (key (p.getD a 0))=true
   ·rw [if_pos hc2];exact hq p a q hp (Nat.le_refl _) (by omega) hd
   ·rw [if_neg hc2];have e:Kp key p a=Kp key p (a - 1):=O.kle_antisymm (nlt hc2) (nlt hc);exact Jio h0 f p (a + 1) (q + 1) hp (by omega) (hd.same e) fun p' a' q' g1 g2 g3 g4=>hq p' a' q' g1 (by omega) (by omega) g4
theorem Jml {Post:Nat×Array Nat→Prop} (h0:0 < n) {a nrem:Nat} {p:Array Nat} (hp:Pm n p) (h1:1≤a) (ha:a≤nrem) (hn:nrem≤n) (hf:Fal O key p a) (hq:∀ m p',Pm n p'→1≤m→m≤nrem→Srt O key p' m→Post (m,p')):Ok O key n Post (kas_tail3 a nrem p):=by
 have hz:=hp.size;unfold kas_tail3;refine Ok.bind (JnD (Jhp 0 a hp) h0 (nrem - a) a h1 (fun i j hij hj=>?_) fun m g1 g2 g3 _=>hq m _ (Jhp 0 a hp) (by omega) (by omega) g3);rw [JjE (by omega),JjE (by omega),if_pos ⟨Nat.zero_le _,by omega⟩,if_pos ⟨Nat.zero_le _,hj⟩];exact hf _ _ (by omega) (by omega)
theorem JiG {Post:Nat×Array Nat→Prop} (h0:0 < n) {a nrem:Nat} {p:Array Nat} (hp:Pm n p) (h1:1≤a) (ha:a + 1≤nrem) (hn:nrem≤n) (hf:Fal O key p a) (hlt:O.klt (Kp key p a) (Kp key p (a - 1))) (hq:∀ m p',Pm n p'→1≤m→m≤nrem→Srt O key p' m→Post (m,p')) :
  Ok O key n Post (kas_descPart a nrem p):=by
 have hd:Dsc O key p a 0:=⟨h1,hf,fun i g1 g2=>by
  obtain rfl:i=a - 1:=by omega
  exact O.kle_refl _⟩
 unfold kas_descPart;refine Ok.bind (Jio h0 _ p (a + 1) 0 hp (by omega) (hd.next hlt) fun p' a' q' g1 g2 g3 g4=>?_);have hz:=g1.size;dsimp only;split
 ·refine Jml h0 (Jhp _ _ g1) (by omega) (by omega) hn (fun i j hij hj=>?_) hq;rw [g4.rev (by omega),g4.rev (by omega)];exact g4.2.1 i j hij hj
 ·exact Jml h0 g1 (by omega) (by omega) hn g4.2.1 hq
theorem Jsr {Post:Nat×Array Nat→Prop} (h0:0 < n) {p:Array Nat} (hp:Pm n p) (hq:∀ m p',Pm n p'→1≤m→m≤n→Srt O key p' m→Post (m,p')):Ok O key n Post (kas_count n p):=by
 have hz:=hp.size;unfold kas_count;refine Ok.bind (JnD hp h0 (n - 1) 1 (Nat.le_refl _) (fun i j hij hj=>?_) fun m g1 g2 g3 g4=>?_)
 ·obtain rfl:i=j:=by omega
  exact O.kle_refl _
 ·by_cases hm:(m == n)=true
  ·rw [if_pos hm];exact hq m p hp g1 (by omega) g3
  ·rw [if_neg hm];have hmn:m≠n:=fun e=>hm (by simp [e])
   have hlt:=g4 (by omega);by_cases hm1:m > 1
   ·rw [if_pos hm1];refine ⟨hp.lt h0 _,hp.lt h0 _,?_⟩;dsimp only;by_cases hc:O.blt (key (p.getD 0 0)) (key (p.getD (m - 1) 0))=true
    ·rw [if_pos hc];exact hq m p hp g1 (by omega) g3
    ·rw [if_neg hc];have all:∀ i,i < m→Kp key p i=Kp key p (m - 1):=fun i hi=>by
      refine O.kle_antisymm (g3 i (m - 1) (by omega) (by omega)) ?_;exact O.kle_trans (nlt hc) (g3 0 i (Nat.zero_le _) hi)
     have e:∀ k,Kp key (kas_rev p 0 m) k=Kp key p k:=fun k=>by
      rw [JjE (by omega)];split
      ·rename_i h;rw [all _ (by omega),all k h.2]
      ·rfl
     refine JiG h0 (Jhp 0 m hp) g1 (by omega) (Nat.le_refl _) (fun i j hij hj=>?_) (by rw [e,e]; exact hlt) hq;rw [e,e,all i (by omega),all j hj];exact O.kle_refl _
   ·rw [if_neg hm1];refine JiG h0 hp g1 (by omega) (Nat.le_refl _) (fun i j hij hj=>?_) hlt hq;obtain rfl:i=j:=by omega
    exact O.kle_refl _
theorem JiU {Post:Nat→Prop} (h0:0 < n) {p:Array Nat} (hp:Pm n p) {k:Nat} (hs:Srt O key p k):∀ (f l r:Nat),l≤r→r≤k→r - l≤f→(∀ i,i < l→O.kle (Kp key p i) (Kp key p k))→(∀ i,r≤i→i < k→O.klt (Kp key p k) (Kp key p i)) →
  (∀ m,m≤k→(∀ i,i < m→O.kle (Kp key p i) (Kp key p k))→(∀ i,m≤i→i < k→O.klt (Kp key p k) (Kp key p i))→Post m)→Ok O key n Post (kas_place p k f l r)
 | 0,l,r,h1,h2,h3,h4,h5,hq=>by
  obtain rfl:l=r:=by omega
  exact hq l h2 h4 h5
 | f + 1,l,r,h1,h2,h3,h4,h5,hq=>by
  unfold kas_place;by_cases hlr:l≥r
  ·rw [if_pos hlr];obtain rfl:l=r:=by omega
   exact hq l h2 h4 h5
  ·rw [if_neg hlr];refine ⟨hp.lt h0 _,hp.lt h0 _,?_⟩;dsimp only;by_cases hc:O.blt (key (p.getD k 0)) (key (p.getD ((l + r) / 2) 0))=true
   ·rw [if_pos hc];refine JiU h0 hp hs f l _ (by omega) (by omega) (by omega) h4 (fun i g1 g2=>?_) hq;exact O.klt_of_klt_of_kle hc (hs ((l + r) / 2) i g1 g2)
   ·rw [if_neg hc];refine JiU h0 hp hs f _ r (by omega) h2 (by omega) (fun i g=>?_) h5 hq;exact O.kle_trans (hs i ((l + r) / 2) (by omega) (by omega)) (nlt hc)
theorem Jq0 {Post:Array Nat→Prop} (h0:0 < n):∀ (f:Nat) (p:Array Nat) (k:Nat),Pm n p→k + f=n→Srt O key p k→(∀ p',Pm n p'→Srt O key p' n→Post p')→Ok O key n Post (kas_bin f p k)
 | 0,p,k,hp,hk,hs,hq=>hq p hp (by rw [← hk]; exact hs)
 | f + 1,p,k,hp,hk,hs,hq=>by
  have hz:=hp.size;unfold kas_bin;refine Ok.bind (JiU h0 hp hs k 0 k (Nat.zero_le _) (Nat.le_refl _) (by omega) (fun i g=>absurd g (Nat.not_lt_zero _)) (fun i g1 g2=>by omega) fun m g1 g2 g3=>?_);have e:∀ i,Kp key (bubble p k (k - m)) i=if i=m then Kp key p k else if m < i∧i≤k then Kp key p (i - 1) else Kp key p i:=fun i=>by
   have z:=JuU (key:=key) (p:=p) (s:=k) (d:=k - m) (by omega) (by omega) i;rw [show k - (k - m)=m by omega] at z;exact z
  refine Jq0 h0 f _ (k + 1) ((bubble_perm p k (k - m)).trans hp) (by omega) (fun i j hij hj=>?_) hq;rw [e,e];rcases Nat.lt_trichotomy i m with a | a | a
  ·rw [if_neg (by omega),if_neg (by omega)];rcases Nat.lt_trichotomy j m with b | b | b
   ·rw [if_neg (by omega),if_neg (by omega)];exact hs i j hij (by omega)
   ·rw [if_pos b];exact g2 i a
   ·rw [if_neg (by omega),if_pos ⟨b,by omega⟩];exact hs i (j - 1) (by omega) (by omega)
  ·rw [if_pos a];by_cases b:j=m
   ·rw [if_pos b]; exact O.kle_refl _
   ·rw [if_neg b,if_pos ⟨by omega,by omega⟩];exact O.kle_of_klt (g3 (j - 1) (by omega) (by omega))
  ·rw [if_neg (by omega),if_pos ⟨a,by omega⟩,if_neg (by omega),if_pos ⟨by omega,by omega⟩];exact hs (i - 1) (j - 1) (by omega) (by omega)
theorem Jtl {Post:Array Nat→Prop} (h0:0 < n) (hq:∀ p,Pm n p→Srt O key p n→Post p):Ok O key n Post (kas_sort n):=by
 unfold kas_sort;refine Ok.bind (Jsr h0 (Array.Perm.refl _) fun m p g1 g2 g3 g4=>?_);dsimp only;split
 ·rename_i h;have e:max m 1=m:=by omega
  rw [e];exact Jq0 h0 (n - m) p m g1 (by omega) g4 hq
 ·obtain rfl:m=n:=by omega
  exact hq p g1 g4
end
end KS
namespace KS
open PySem PySem.W PyProof.Rows
def ZL:KeyOrd where
 α:=List Nat×List Nat
 blt a b:=if a.1=b.1 then decide (a.2 < b.2) else decide (a.1 < b.1)
 irrefl a:=by rw [if_pos rfl]; exact strKind.irrefl a.2
 trans a b c h1 h2:=by
  by_cases e1:a.1=b.1
  ·rw [if_pos e1] at h1;by_cases e2:b.1=c.1
   ·rw [if_pos e2] at h2;rw [if_pos (e1.trans e2)];exact strKind.trans _ _ _ h1 h2
   ·rw [if_neg e2] at h2;rw [if_neg (fun e=>e2 (e1.symm.trans e)),e1];exact h2
  ·rw [if_neg e1] at h1;by_cases e2:b.1=c.1
   ·rw [if_pos e2] at h2;rw [if_neg (fun e=>e1 (e.trans e2.symm)),← e2];exact h1
   ·rw [if_neg e2] at h2;have h3:=strKind.trans _ _ _ h1 h2;have hne:¬ a.1=c.1:=fun e=>by
     rw [e] at h3;have:=strKind.irrefl c.1;rw [this] at h3;cases h3
    rw [if_neg hne];exact h3
 negTrans a b c h:=by
  by_cases e1:a.1=b.1
  ·by_cases e2:b.1=c.1
   ·rw [if_pos (e1.trans e2)] at h;rw [if_pos e1,if_pos e2];exact strKind.negTrans _ _ _ h
   ·rw [if_neg (fun e=>e2 (e1.symm.trans e))] at h;rw [if_neg e2,← e1];exact .inr h
  ·by_cases e2:b.1=c.1
   ·rw [if_neg (fun e=>e1 (e.trans e2.symm))] at h;rw [if_neg e1,e2];exact .inl h
   ·rw [if_neg e1,if_neg e2];by_cases e3:a.1=c.1
    ·rw [if_pos e3] at h;cases h4:decide (a.1 < b.1) with
     | true=>exact .inl rfl
     | false =>
      refine .inr ?_;cases h5:decide (b.1 < c.1) with
      | true=>rfl
      | false =>
       rw [← e3] at h5;exact absurd (strKind.total _ _ h4 h5) e1
    ·rw [if_neg e3] at h;exact strKind.negTrans _ _ _ h
 total a b h1 h2:=by
  by_cases e:a.1=b.1
  ·rw [if_pos e] at h1;rw [if_pos e.symm] at h2;exact Prod.ext e (strKind.total _ _ h1 h2)
  ·rw [if_neg e] at h1;rw [if_neg (fun q=>e q.symm)] at h2;exact absurd (strKind.total _ _ h1 h2) e
section
variable {prog:Program} {w:World} {A:Around} {E:Value→Shared→Prop} {s:Shared}
def JfB (h:Heap) (a:Addr) (x y:Str):Prop:=∃ o n t u,h.get? a=some o∧o.cls=.type "tuple"∧o.data=.seq #[.str x t,.str y u] n
def pk (x:Str×Str):ZL.α:=(x.1.cps.toList,x.2.cps.toList)
theorem Jox {x y:Str} (h:x.cps.toList=y.cps.toList):x=y:=by
 cases x; cases y;congr 1;exact Array.toList_inj.mp h
theorem Jor {x y:Str} {t u:Tok} {Q:Bool→Shared→Prop} (h:Q (decide (x=y)) s):wpAny (model prog w) A (eqBool (.str x t) (.str y u)) Q E s:=by
 refine (L2.YF prog w).eqBool (L2.JbZ prog w x t) (L2.JbZ prog w y u) ?_;rw [L2.Jqv];exact h
theorem Jsv {a b:Addr} {p q:Str×Str} {Q:Bool→Shared→Prop} (ha:JfB s.heap a p.1 p.2) (hb:JfB s.heap b q.1 q.2) (h:Q (ZL.blt (pk p) (pk q)) s):wpAny (model prog w) A (keyLt' (tuples' true) (.ref a) (.ref b)) Q E s:=by
 obtain ⟨o,n,t,u,h1,_,h3⟩:=ha;obtain ⟨o',n',t',u',g1,_,g3⟩:=hb;refine kat_lt h1 h3 g1 g3 (kat_cons (Jor (kat_go (fun e=>?_) (fun e=>?_))))
 ·have e1:p.1=q.1:=of_decide_eq_true e;refine kat_yes (kat_cons (Jor (kat_go (fun e=>?_) (fun e=>?_))))
  ·have e2:p.2=q.2:=of_decide_eq_true e;refine kat_yes (kat_nil ?_);have hf:ZL.blt (pk p) (pk q)=false:=by
    have:pk p=pk q:=by unfold pk; rw [e1,e2]
    rw [this];exact ZL.irrefl _
   rw [hf] at h;exact h
  ·refine kat_no (kat_one _ _ ?_);have hf:ZL.blt (pk p) (pk q)=decide (p.2.cps.toList < q.2.cps.toList):=by
    show (if p.1.cps.toList=q.1.cps.toList then _ else _)=_;rw [if_pos (by rw [e1])];rfl
   rw [hf] at h;exact PySem.P.lt_str h
 ·have e1:¬ p.1=q.1:=of_decide_eq_false e;refine kat_no ?_;have hf:ZL.blt (pk p) (pk q)=decide (p.1.cps.toList < q.1.cps.toList):=by
   show (if p.1.cps.toList=q.1.cps.toList then _ else _)=_;rw [if_neg (fun z=>e1 (Jox z))];rfl
  rw [hf] at h;exact oneLt_str h
def dfl:Str×Str:=(Str.empty,Str.empty)
def ky (ps:List (Str×Str)) (i:Nat):ZL.α:=pk (ps.getD i dfl)
def Jbi (vs:List Value) (p:Array Nat):Array Value:=List.toArray (p.toList.map fun i=>vs.getD i Value.none)
theorem JmO (n:Nat):Pm n (List.toArray (List.range n)):=Array.Perm.refl _
theorem Jqd (vs:List Value):Jbi vs (List.toArray (List.range vs.length))=vs.toArray:=by
 unfold Jbi;congr 1;apply List.ext_getElem?;intro i;rw [List.getElem?_map];by_cases hi:i < vs.length
 ·simp [hi]
 ·simp [hi]
theorem Jp6 {a:Addr} {vs:List Value} {ps:List (Str×Str)} {n:Nat} {P:PySem.Fin→Shared→Prop} (ho:s.heap.get? a=some (seqObj "list" vs.toArray n)) (hlen:vs.length=ps.length) (h64:vs.length < 64)
  (hp:∀ (i:Nat) v p,vs[i]?=some v→ps[i]?=some p→∃ b,b≠a∧v=.ref b∧JfB s.heap b p.1 p.2)
  (h:∀ p:Array Nat,Pm vs.length p→Srt ZL (ky ps) p vs.length→P (.done (.ret .none)) { s with heap:=sortedHeap s.heap a vs (Jbi vs p) }) :
  wpAny (model prog w) A (Builtin.«list.sort» ⟨[.ref a],[]⟩) P E s:=by
 have hlt:a < s.heap.objs.size:=Heap.lt_size ho;obtain ⟨e1,g1⟩:∃ e1,(s.heap.update a (Obj.mapSeq fun _=>#[])).get? a=some (seqObj "list" #[] e1):=⟨_,get?_update_seq ho fun _=>#[]⟩
 have big:vs.length≤sizeLine:=by rw [sizeLine_eq]; omega
 rw [list_sort_plain];refine wpAny_bind (listItems_at ho rfl (wpAny_bind (listUpdate_at ho rfl (wpAny_bind (seqEpoch_at g1 rfl (wpAny_bind (wpAny_newTuple (wpAny_bind (wpAny_newList (wpAny_holding ?_))) (by simpa using big))))) (by simpa using big))));generalize hh6:(((s.heap.update a (Obj.mapSeq fun _=>#[])).push (seqObj "tuple" vs.toArray 0)).push (seqObj "list" #[] 0))=h6;have g6:h6.get? a=some (seqObj "list" #[] e1):=by
  rw [← hh6];exact Heap.get?_push_of_some _ (Heap.get?_push_of_some _ g1)
 have keep:∀ b o,b≠a→s.heap.get? b=some o→h6.get? b=some o:=fun b o hb e=>by
  rw [← hh6];refine Heap.get?_push_of_some _ (Heap.get?_push_of_some _ ?_);rw [Heap.get?_update_ne _ _ _ _ hb];exact e
 have hp6:∀ (i:Nat) v p,vs[i]?=some v→ps[i]?=some p→∃ b,v=.ref b∧JfB h6 b p.1 p.2:=fun i v p hv hq=>by
  obtain ⟨b,hb,e,o,n,t,u,z1,z2⟩:=hp i v p hv hq;exact ⟨b,e,o,n,t,u,keep b o hb z1,z2⟩
 have hfin:∀ p:Array Nat,Pm vs.length p→(Jbi vs p).size≤sizeLine + 1:=fun p hpm=>by
  unfold Jbi;rw [List.size_toArray,List.length_map,Array.length_toList,hpm.size];exact Nat.le_succ_of_le big
 have eH:∀ out,h6.update a (Obj.mapSeq fun _=>out)=sortedHeap s.heap a vs out:=fun out=>by rw [← hh6]; rfl
 have sz:vs.toArray.size=vs.length:=List.size_toArray;show wpAny (model prog w) A _ P E { s with heap:=h6 };dsimp only;rw [sz];by_cases h2:vs.length < 2
 ·rw [if_pos h2,if_pos h2];refine wpAny_bind (wpAny_pure ?_);rw [StateT.run_pure];refine wpAny_bind (wpAny_pure ?_);dsimp only;have eo:(arrOf (SortSt.mk' general' (vs.toArray.zip vs.toArray) #[] 7 none)).map (·.2)=Jbi vs (List.toArray (List.range vs.length)):=by
   rw [Jqd];show (vs.toArray.zip vs.toArray).map (·.2)=_;simp [List.map_snd_zip]
  rw [eo];refine wpAny_bind (seqEpoch_at g6 rfl (wpAny_bind (listUpdate_at g6 rfl ?_ (hsz2:=hfin _ (JmO _)))));rw [if_neg (by simp)];show wpAny _ _ _ _ _ { s with heap:=h6.update a (Obj.mapSeq fun _=>Jbi vs (List.toArray (List.range vs.length))) };rw [eH];refine wpAny_pure (h _ (JmO _) fun i j hij hj=>?_);obtain rfl:i=j:=by omega
  exact ZL.kle_refl _
 ·rw [if_neg h2,if_neg h2];have tups:∀ (vs:List Value) (ps:List (Str×Str)),vs.length=ps.length→(∀ (i:Nat) v p,vs[i]?=some v→ps[i]?=some p→∃ b,v=.ref b∧JfB h6 b p.1 p.2)→∃ fs:List Value,KatTups h6 vs fs∧fs.length=vs.length∧∀ v∈fs,∃ x t,v=.str x t:=by
   intro vs
   induction vs with
   | nil=>exact fun ps _ _=>⟨[],.nil,rfl,fun v hv=>nomatch hv⟩
   | cons v r ih =>
    intro ps hl hq;cases ps with
    | nil=>cases hl
    | cons p ps =>
     obtain ⟨b,rfl,o,n,t,u,z1,z2,z3⟩:=hq 0 v p rfl rfl;obtain ⟨fs,y1,y2,y3⟩:=ih ps (by simpa using hl) fun i v' p' a1 a2=>hq (i + 1) v' p' (by simpa using a1) (by simpa using a2)
     refine ⟨.str p.1 t :: fs,.cons z1 z2 z3 rfl y1,by simp [y2],fun v' hv'=>?_⟩;rcases List.mem_cons.mp hv' with rfl | q
     ·exact ⟨_,_,rfl⟩
     ·exact y3 v' q
  obtain ⟨fs,f1,f2,f3⟩:=tups vs ps hlen hp6;refine wpAny_bind (kat_kind (s:={ s with heap:=h6 }) f1 (by omega) (T:=.type "str") (fun v hv=>?_) (by decide) ?_)
  ·obtain ⟨x,t,rfl⟩:=f3 v hv;exact .now
  have ek:(Value.type "str" != Value.type "tuple")=true:=by decide
  rw [ek];refine wpAny_bind (wpAny_mono (kat_run (E:=E) (ks:=vs) (vs:=vs) (G:=fun p s'=>s'={ s with heap:=h6 }∧Pm vs.length p∧Srt ZL (ky ps) p vs.length)
   (Q:=fun st' s'=>∃ p:Array Nat,s'={ s with heap:=h6 }∧Pm vs.length p∧Srt ZL (ky ps) p vs.length∧arrOf st'=p.map (kas_item (vs.toArray.zip vs.toArray))∧failedOf st'=none) rfl (by omega) h64
   (fun p st' s' b1 b2 b3 b4=>⟨p,b4.1,b4.2.1,b4.2.2,b2,b3⟩) ?_) ?_ fun _ _ e=>e)
  ·refine Ok.wp (O:=ZL) (key:=ky ps) (n:=vs.length) (Post:=fun p=>Pm vs.length p∧Srt ZL (ky ps) p vs.length) (fun i j C hi hj hC=>?_) (fun p q=>⟨rfl,q.1,q.2⟩) (Jtl (by omega) fun p q1 q2=>⟨q1,q2⟩);have at_:∀ i,i < vs.length→∃ b,vs.getD i Value.none=.ref b∧JfB h6 b (ps.getD i dfl).1 (ps.getD i dfl).2:=fun i hi=>by
    have hi':i < ps.length:=by omega
    obtain ⟨b,e,pb⟩:=hp6 i vs[i] ps[i] (List.getElem?_eq_getElem hi) (List.getElem?_eq_getElem hi');refine ⟨b,?_,?_⟩
    ·rw [List.getD_eq_getElem?_getD,List.getElem?_eq_getElem hi]; exact e
    ·rw [List.getD_eq_getElem?_getD,List.getElem?_eq_getElem hi']; exact pb
   obtain ⟨b,eb,pb⟩:=at_ i hi;obtain ⟨c,ec,pc⟩:=at_ j hj;show wpAny (model prog w) A (keyLt' (tuples' true) (vs.getD i Value.none) (vs.getD j Value.none)) C (fun _ _=>False) { s with heap:=h6 };rw [eb,ec];exact Jsv (s:={ s with heap:=h6 }) pb pc hC
  ·rintro ⟨⟨⟩,st'⟩ s' ⟨p,rfl,q1,q2,q3,q4⟩;dsimp only;have eo:(arrOf st').map (·.2)=Jbi vs p:=kat_snds rfl q3;rw [eo,q4];refine wpAny_bind (seqEpoch_at g6 rfl (wpAny_bind (listUpdate_at g6 rfl ?_ (hsz2:=hfin p q1))));dsimp only;rw [if_neg (by simp)];show wpAny _ _ _ _ _ { s with heap:=h6.update a (Obj.mapSeq fun _=>Jbi vs p) };rw [eH];exact wpAny_pure (h p q1 q2)
theorem Jmt {l:Addr} {vs:List Value} {ps:List (Str×Str)} {Q:Value→Shared→Prop} (hl:s.heap.IsList l vs.toArray) (hlen:vs.length=ps.length) (h64:vs.length < 64)
  (hp:∀ (i:Nat) v p,vs[i]?=some v→ps[i]?=some p→∃ b,v=.ref b∧JfB s.heap b p.1 p.2)
  (h:∀ p:Array Nat,Pm vs.length p→Srt ZL (ky ps) p vs.length→Q (.ref (s.heap.objs.size + 1)) { s with heap:=sortedAll s.heap vs (Jbi vs p) }) :
  wpAny (model prog w) A (call (.builtin "sorted") [.ref l]) Q E s:=by
 have big:vs.length≤sizeLine:=by rw [sizeLine_eq]; omega
 refine Calls.call_function_entry kind_sorted plain_sorted entry_sorted (args_sorted1 _) ?_;unfold Builtin.«sorted»;refine wpAny_bind (m:=checkCount "sorted" 1 1 _) (wpAny_pure (wpAny_bind (collect_list hl (wpAny_bind (wpAny_newList ?_ (by simpa using big))) (by simpa using big))));generalize hh1:((s.heap.push (seqObj "list" #[] 0)).update s.heap.objs.size (Obj.mapSeq (· ++ vs.toArray)))=h1;have z1:h1.objs.size=s.heap.objs.size + 1:=by rw [← hh1,Heap.size_update,size_push']
 have g1:(h1.push (seqObj "list" vs.toArray 0)).get? (s.heap.objs.size + 1)=some (seqObj "list" vs.toArray 0):=by rw [← z1]; exact Heap.get?_push_size _ rfl
 have keep:∀ b o,s.heap.get? b=some o→(h1.push (seqObj "list" vs.toArray 0)).get? b=some o:=fun b o q=>by
  have hb:b < s.heap.objs.size:=Heap.lt_size q;refine Heap.get?_push_of_some _ ?_;rw [← hh1,Heap.get?_update_ne _ _ _ _ (Nat.ne_of_lt hb)];exact Heap.get?_push_of_some _ q
 show wpAny _ _ _ _ _ { s with heap:=h1.push (seqObj "list" vs.toArray 0) };rw [z1];refine wpAny_bind (wpAny_holding (wpAny_call_entry slot_list_sort ⟨_,g1,rfl⟩ entry_list_sort (Jp6 (s:={ s with heap:=h1.push (seqObj "list" vs.toArray 0) }) g1 hlen h64 (fun i v p hv hq=>?_) fun p q1 q2=>⟨_,rfl,?_⟩) (args_list_sort _)))
 ·obtain ⟨b,e,o,n,t,u,y1,y2⟩:=hp i v p hv hq;exact ⟨b,Nat.ne_of_lt (Nat.lt_succ_of_lt (Heap.lt_size y1)),e,o,n,t,u,keep b o y1,y2⟩
 ·refine wpAny_pure ⟨_,rfl,?_⟩;have z:=h p q1 q2;unfold sortedAll at z;rw [hh1] at z;exact z
end
end KS
namespace L2
open PySem PySem.Spec PyProof.Rows KS
def sle (a b:Str):Prop:=strKind.kle a.cps.toList b.cps.toList
def ple (p q:Str×Str):Prop:=ZL.kle (pk p) (pk q)
theorem Jp7 {a b c:Str} (h1:sle a b) (h2:sle b c):sle a c:=KeyOrd.kle_trans h1 h2
theorem Jry {a b:Str} (h1:sle a b) (h2:sle b a):a=b:=Jox (KeyOrd.kle_antisymm h1 h2)
theorem JjD:∀ {p:Str} {l:List Str},risingS p l=true→(∀ x∈l,sle p x)∧l.Pairwise sle
 | p,[],_=>⟨(fun x hx=>nomatch hx),.nil⟩
 | p,x :: r,h=>by
  have h':(!ltCps x.cps.toList p.cps.toList && risingS x r)=true:=h;rw [Bool.and_eq_true] at h';obtain ⟨a,b⟩:=JjD h'.2;have hx:sle p x:=by
   have z:=h'.1;rw [ltCps_eq] at z;show decide (x.cps.toList < p.cps.toList)=false;simpa using z
  refine ⟨fun y hy=>?_,List.pairwise_cons.mpr ⟨a,b⟩⟩;rcases List.mem_cons.mp hy with rfl | hy
  ·exact hx
  ·exact Jp7 hx (a y hy)
theorem JoR {l:List Str} (h:sortedS l=true):l.Pairwise sle:=by
 cases l with
 | nil=>exact .nil
 | cons x r =>
  obtain ⟨a,b⟩:=JjD (p:=x) (l:=r) h;exact List.pairwise_cons.mpr ⟨a,b⟩
theorem Jln:∀ {us:List Value} {ss:List Str},StrsAre us ss→JL (ss.map V.str) us
 | _,_,.nil=>.nil
 | _,_,.cons x t h=>.cons ⟨t,rfl⟩ (Jln h)
section
variable {X:Cx}
def Juq (K:PySem.W.Frag):List V→Hp→VK→Prop:=fun xs H Q=>∃ (l:Addr) (ss:List Str),xs=[.ref l]∧JA K H l (ss.map V.str)∧ss.length < 64∧∀ (p:Addr) (ss':List Str),H p=none→ss'.Perm ss→ss'.Pairwise sle→Q (.ref p) (upd H p (.lst (ss'.map V.str)))
theorem Jg3:Yx X (.builtin "sorted") (Juq X.K):=by
 intro pins s σ H xs us Q I r h;obtain ⟨l,ss,rfl,hl,hz,q⟩:=h;obtain ⟨u,rfl,ru⟩:=JL.one r;cases ru;obtain ⟨its,rv,pl,_⟩:=I.list hl;have rlen:=rv.length;rw [List.length_map] at rlen;refine sorted_strs pl.isList (Jkn rv) (by omega) fun out ss' a1 a2 a3=>?_
 obtain ⟨e,he⟩:=sortedAll_at s.heap its out;have hf:H (s.heap.objs.size + 1)=none:=I.hok.fresh (Nat.le_succ _);have hv:=Jln a1;refine ⟨.ref (s.heap.objs.size + 1),_,I.laid (t':=s.toks) (o:=.lst (ss'.map V.str)) (fun b u=>sortedAll_old) (Nat.le_succ _) ⟨?_,out.toList,e,hv,he⟩,rfl,q _ ss' hf a2 (JoR a3)⟩;rw [List.length_map,a2.length_eq];exact Nat.le_trans (Nat.le_of_lt hz) (by decide)
def ZC (K:PySem.W.Frag) (H:Hp) (zs:List (V×(Str×Str))):Prop:=∀ z∈zs,∃ a,z.1=.ref a∧JH K H a [.str z.2.1,.str z.2.2]
def Jup (K:PySem.W.Frag):List V→Hp→VK→Prop:=fun xs H Q=>∃ (l:Addr) (zs:List (V×(Str×Str))),xs=[.ref l]∧JA K H l (zs.map (·.1))∧ZC K H zs∧zs.length < 64∧∀ (p:Addr) (zs':List (V×(Str×Str))),H p=none→zs'.Perm zs→(zs'.map (·.2)).Pairwise ple→Q (.ref p) (upd H p (.lst (zs'.map (·.1))))
theorem JpK:∀ {vs:List V} {us:List Value},JL vs us→∀ (p:List Nat),(∀ i∈p,i < vs.length)→JL (p.map fun i=>vs.getD i .non) (p.map fun i=>us.getD i Value.none):=by
 intro vs us r p
 induction p with
 | nil=>exact fun _=>.nil
 | cons i p ih =>
  intro h;have hi:=h i (List.mem_cons_self ..);obtain ⟨u,hu,ru⟩:=Jex (i:=i) r (List.getElem?_eq_getElem hi);refine .cons ?_ (ih fun j hj=>h j (List.mem_cons_of_mem _ hj));show JY (vs.getD i .non) (us.getD i Value.none);rw [List.getD_eq_getElem?_getD,List.getD_eq_getElem?_getD,hu,List.getElem?_eq_getElem hi];exact ru
theorem Jqb {α:Type} {l:List α} {d:α} {p:Array Nat} (h:Pm l.length p):(p.toList.map fun i=>l.getD i d).Perm l:=by
 have h1:p.toList.Perm (List.range l.length):=by
  have:=Array.perm_iff_toList_perm.mp h;simpa using this
 have h2:=h1.map fun i=>l.getD i d
 refine h2.trans (List.Perm.of_eq ?_);apply List.ext_getElem?;intro i;rw [List.getElem?_map];by_cases hi:i < l.length
 ·simp [hi]
 ·simp [hi]
theorem JpA:Yx X (.builtin "sorted") (Jup X.K):=by
 intro pins s σ H xs us Q I r h;obtain ⟨l,zs,rfl,hl,hp,hz,q⟩:=h;obtain ⟨u,rfl,ru⟩:=JL.one r;cases ru;obtain ⟨its,rv,pl,_⟩:=I.list hl;have rlen:=rv.length;rw [List.length_map] at rlen;refine Jmt (ps:=zs.map (·.2)) pl.isList (by rw [List.length_map]; omega) (by omega) (fun i v p hv hq=>?_) fun p pm so=>?_
 ·rw [List.getElem?_map] at hq;obtain ⟨z,hz1,hz2⟩:=Option.map_eq_some_iff.mp hq;obtain ⟨a,ea,ha⟩:=hp z (List.mem_of_getElem? hz1);obtain ⟨u,hu,ru⟩:=Jex (i:=i) (x:=z.1) rv (by rw [List.getElem?_map,hz1]; rfl);rw [hv] at hu;cases hu;rw [ea] at ru;cases (show v=.ref a from ru);obtain ⟨its',r',⟨o,e,c,n,d⟩,_⟩:=I.tuple ha;cases r' with
  | cons r1 rr =>
   cases rr with
   | cons r2 rr =>
    cases rr;obtain ⟨t,e1⟩:=r1;obtain ⟨t',e2⟩:=r2;subst e1 e2;rw [← hz2];exact ⟨a,rfl,o,n,t,t',e,c,d⟩
 ·obtain ⟨e,he⟩:=sortedAll_at s.heap its (Jbi its p);have hf:H (s.heap.objs.size + 1)=none:=I.hok.fresh (Nat.le_succ _);have pmz:Pm zs.length p:=by rw [rlen]; exact pm
  have hlt:∀ i∈p.toList,i < zs.length:=fun i hi=>by
   have:=(Array.perm_iff_toList_perm.mp pmz).mem_iff.mp hi;simpa using this
  let d:V×(Str×Str):=(.non,dfl)
  have e1:(p.toList.map fun i=>zs.getD i d).map (·.1)=p.toList.map fun i=>(zs.map (·.1)).getD i .non:=by
   rw [List.map_map];refine List.map_congr_left fun i hi=>?_
   have:=hlt i hi;simp [List.getD_eq_getElem?_getD,List.getElem?_eq_getElem this]
  have e2:(p.toList.map fun i=>zs.getD i d).map (·.2)=p.toList.map fun i=>(zs.map (·.2)).getD i dfl:=by
   rw [List.map_map];refine List.map_congr_left fun i hi=>?_
   have:=hlt i hi;simp [List.getD_eq_getElem?_getD,List.getElem?_eq_getElem this]
  have hv:JL ((p.toList.map fun i=>zs.getD i d).map (·.1)) (Jbi its p).toList:=by
   rw [e1];have z:=JpK rv p.toList (fun i hi=>by rw [List.length_map]; exact hlt i hi);unfold Jbi;rw [List.toList_toArray];exact z
  refine ⟨.ref (s.heap.objs.size + 1),_,I.laid (t':=s.toks) (o:=.lst ((p.toList.map fun i=>zs.getD i d).map (·.1))) (fun b u=>sortedAll_old) (Nat.le_succ _) ⟨?_,(Jbi its p).toList,e,hv,he⟩,rfl,q _ (p.toList.map fun i=>zs.getD i d) hf (Jqb pmz) ?_⟩
  ·rw [List.length_map,List.length_map,Array.length_toList,pmz.size];exact Nat.le_trans (Nat.le_of_lt hz) (by decide)
  ·rw [e2,List.pairwise_map,List.pairwise_iff_getElem];intro i j hi hj hij;rw [Array.length_toList] at hi hj;have z:=so i j (Nat.le_of_lt hij) (by rw [← rlen,← pmz.size]; exact hj);unfold Kp ky at z;rw [Array.getD_eq_getD_getElem?,Array.getD_eq_getD_getElem?,Array.getElem?_eq_getElem hi,Array.getElem?_eq_getElem hj] at z;exact z
theorem JlD {P P':Program} {w w':World}:∀ {ks:List J5} {us:List Value},ItemsAre (YF P w) ks us→ItemsAre (YF P' w') ks us
 | _,_,.nil=>.nil
 | _,_,.cons h t=>.cons h (JlD t)
theorem JpN {P P':Program} {w w':World} {h:Heap} {ks:List J5} {a:Addr} (hk:HS.TK P w h ks a):HS.TK P' w' h ks a:=let ⟨o,its,n,e,c,d,i⟩:=hk; ⟨o,its,n,e,c,d,JlD i⟩
theorem Jvz {A:Around} {s:Shared} {P:Program} {w:World} {x y:List J5} {a b:Addr} (hu:A.units < cLine) (hx:HS.TK P w s.heap x a) (hy:HS.TK P w s.heap y b):SeqAt.EqAt A s (.ref a) (.ref b) (decide (x=y)) :=
 fun prog w E Q hq=>wpAny_eqBool_tuple hu (JpN hx) (JpN hy) hq
open Classical in
def Jv5 (K:PySem.W.Frag) (neg:Bool):R2:=fun x y H Q=>∃ a l vs ks kss,x=.ref a∧y=.ref l∧JH K H a (ks.map kV)∧JA K H l vs∧JgG K H vs kss∧Q (.bl (if neg then !decide (ks∈kss) else decide (ks∈kss))) H
open Classical in
theorem Jg8 (hu:X.A.units + 1 < cLine):ZT X (compareOp .NotIn) (Jv5 X.K true):=by
 intro pins s σ H x y v u Q I rx ry h;obtain ⟨a,l,vs,ks,kss,rfl,rfl,ha,hl,⟨tl,tt⟩,q⟩:=h;cases rx;cases ry;obtain ⟨its,rv,pl,_⟩:=I.list hl;have rlen:=rv.length;have hk:=JoI I ha;let e:Value→Bool:=fun u=>match u with
  | .ref b=>decide (HS.TK X.prog X.w s.heap ks b)
  | _=>false
 have at_:∀ (i:Nat) v,its[i]?=some v→∃ k2 b,kss[i]?=some k2∧v=.ref b∧HS.TK X.prog X.w s.heap k2 b:=fun i v hv=>by
  have hi:=(List.getElem?_eq_some_iff.mp hv).1;obtain ⟨x,hx⟩:∃ x,vs[i]?=some x:=⟨vs[i],List.getElem?_eq_getElem (by omega)⟩
  obtain ⟨k2,hk2⟩:∃ k2,kss[i]?=some k2:=⟨kss[i],List.getElem?_eq_getElem (by omega)⟩
  obtain ⟨b,rfl,hb⟩:=tt i x k2 hx hk2;obtain ⟨u,hu1,hu2⟩:=Jex rv hx;rw [hv] at hu1;cases hu1;cases (show v=.ref b from hu2);exact ⟨k2,b,hk2,rfl,JoI I hb⟩
 have same:∀ {k2:List J5} {b:Addr},HS.TK X.prog X.w s.heap k2 b→decide (k2=ks)=decide (HS.TK X.prog X.w s.heap ks b):=fun {k2 b} hb=>by
  refine decide_eq_decide.mpr ⟨fun e=>e ▸ hb,fun h=>IsTupleKey.inj hb h⟩
 refine SeqAt.notIn_listAt e pl.isList (fun w hw=>?_) ⟨.bl _,H,I,rfl,?_⟩
 ·obtain ⟨i,hi⟩:=List.mem_iff_getElem?.mp (show w∈its by simpa using hw);obtain ⟨k2,b,_,rfl,hb⟩:=at_ i w hi;have z:=Jvz (A:=X.A.in1) hu hb hk;rw [same hb] at z;exact z
 ·have e2:its.toArray.any e=decide (ks∈kss):=by
   rw [show its.toArray.any e=its.any e by simp,Bool.eq_iff_iff,List.any_eq_true,decide_eq_true_eq];constructor
   ·rintro ⟨w,hw,he⟩;obtain ⟨i,hi⟩:=List.mem_iff_getElem?.mp hw;obtain ⟨k2,b,h2,rfl,hb⟩:=at_ i w hi;have he':decide (HS.TK X.prog X.w s.heap ks b)=true:=he;rw [← same hb] at he';rw [← of_decide_eq_true he'];exact List.mem_of_getElem? h2
   ·intro hin;obtain ⟨i,hi⟩:=List.mem_iff_getElem?.mp hin;have hlt:=(List.getElem?_eq_some_iff.mp hi).1;obtain ⟨k2,b,h2,h3,hb⟩:=at_ i its[i] (List.getElem?_eq_getElem (by omega));rw [hi] at h2;cases h2;refine ⟨its[i],List.getElem_mem _,?_⟩;rw [h3];exact decide_eq_true hb
  rw [e2];exact q
def Jut (K:PySem.W.Frag):R2:=fun x y H Q=>∃ a l vs,x=.ref a∧y=.ref l∧JA K H a vs∧JA K H l []∧Q (.bl vs.isEmpty) H
theorem JmV (hu:X.A.units < cLine):ZT X (compareOp .Eq) (Jut X.K):=by
 intro pins s σ H x y v u Q I rx ry h;obtain ⟨a,l,vs,rfl,rfl,ha,hl,q⟩:=h;cases rx;cases ry;obtain ⟨its,rv,pl,_⟩:=I.list ha;obtain ⟨its2,rv2,pl2,_⟩:=I.list hl;cases rv2;have rlen:=rv.length;cases vs with
 | nil =>
  cases rv;refine SeqAt.eq_listAt (e:=fun _=>true) pl.isList pl2.isList rfl hu (fun j h1 h2=>absurd h1 (Nat.not_lt_zero _)) ⟨.bl _,H,I,rfl,q⟩
 | cons v r=>exact SeqAt.eq_list_lengthsAt pl.isList pl2.isList (by rw [List.size_toArray,← rlen]; rfl) hu ⟨.bl _,H,I,rfl,q⟩
end
section
variable {tc:TT} {te:TE} {σc:St} {D:Addr} {H1:Hp} {Q:Hp→Prop} {K:PySem.W.Frag}
theorem Jj3 {a:Addr} {xs:List V} (Pv:Nat→List V→Hp→Prop) (h00:σc[0]?=some none) (h01:σc[1]?=some none) (hq:∀ i ys H,Pv i ys H→JA K H a xs) (h0:Pv 0 [] (upd H1 D (.lst []))) (hl:∀ i ys H,Pv i ys H→H D=some (.lst ys))
  (hs:∀ i x ys H,xs[i]?=some x→Pv i ys H→∃ b u v,x=.ref b∧JH K H b [u,v]∧tc ((σc.set 0 (some u)).set 1 (some v)) H fun c H3=>if c=true then te ((σc.set 0 (some u)).set 1 (some v)) H3 fun v' H4=>H4 D=some (.lst ys)∧ys.length < sizeLine∧Pv (i + 1) (ys ++ [v']) (upd H4 D (.lst (ys ++ [v']))) else Pv (i + 1) ys H3)
  (hd:∀ ys H,Pv xs.length ys H→Q H):Jev (Itl K a) (Jpj K 2 (Jpk (JbK 0) (Jpk (JbK 1) JuQ))) tc te σc D H1 Q:=by
 refine ⟨fun i m ys H=>m=xs.length - i∧i≤xs.length∧Pv i ys H,⟨xs.length,by simp,Nat.zero_le _,h0⟩,?_⟩;rintro i m ys H ⟨rfl,hi,p⟩;refine ⟨hl _ _ _ p,?_⟩;by_cases hlt:i < xs.length
 ·refine .inr ⟨⟨xs,xs[i],hq _ _ _ p,by simp [hlt]⟩,Pv (i + 1),fun zs H' p'=>⟨xs.length - (i + 1),by omega,rfl,hlt,p'⟩,fun x H' y=>?_⟩;obtain ⟨e,y⟩:=y;subst e;have hx:=y xs (hq _ _ _ p);obtain ⟨b,u,v,rfl,hb,z⟩:=hs i x ys _ hx p;exact ⟨b,[u,v],rfl,hb,rfl,u,[v],rfl,v,[],rfl,rfl,((JfW.refl σc).set h00).set h01,z⟩
 ·have e:i=xs.length:=by omega
  subst e;exact .inl ⟨⟨xs,hq _ _ _ p,Nat.le_refl _⟩,hd _ _ p⟩
end
end L2
namespace L2
open PySem PySem.Spec PyProof.Rows
structure Md (K:PySem.W.Frag) (C:Addr) (x qual:Str) (st:Stmt) (ps:List Str) (f:Addr) (fd:FuncData):Prop where
 F:Fun K x qual st f fd
 b:Jc2 K fd ps []
 m:JpG K C x f
theorem Za {X:Cx}:Ja4 (Zg X.prog X.w) X E0:=fun pins σ H s e s' I h=>by
 obtain ⟨ea,C,B,H2,_,_,_,_,q⟩:=h;exact q.elim
section
variable {tc:TT} {te:TE} {σc:St} {D:Addr} {H1:Hp} {Q:Hp→Prop} {K:PySem.W.Frag}
theorem Jjh {a:Addr} {xs:List V} (Pv:Nat→List V→Hp→Prop) (h00:σc[0]?=some none) (hq:∀ i ys H,Pv i ys H→JH K H a xs) (h0:Pv 0 [] (upd H1 D (.lst []))) (hl:∀ i ys H,Pv i ys H→H D=some (.lst ys))
  (hs:∀ i x ys H,xs[i]?=some x→Pv i ys H→tc (σc.set 0 (some x)) H fun b H3=>if b=true then te (σc.set 0 (some x)) H3 fun v H4=>H4 D=some (.lst ys)∧ys.length < sizeLine∧Pv (i + 1) (ys ++ [v]) (upd H4 D (.lst (ys ++ [v]))) else Pv (i + 1) ys H3)
  (hd:∀ ys H,Pv xs.length ys H→Q H):Jev (Itt K a) (JbK 0) tc te σc D H1 Q :=
 Jle (n:=xs.length) (X1:=fun i x=>xs[i]?=some x) Pv h00 (fun i H hi ⟨ys,p⟩=>⟨⟨xs,xs[i],hq _ _ _ p,by simp [hi]⟩,fun x H' y=>⟨y.1,y.2 xs (hq _ _ _ p)⟩⟩) (fun H ⟨ys,p⟩=>⟨xs,hq _ _ _ p,Nat.le_refl _⟩) h0 hl (fun i x ys H _ hx p=>hs i x ys H hx p) hd
end
theorem Jjy {α:Type} {R:α→α→Prop} (anti:∀ a b,R a b→R b a→a=b):∀ {l r:List α},l.Perm r→l.Pairwise R→r.Pairwise R→l=r
 | [],r,p,_,_=>(p.symm.eq_nil).symm
 | x :: l,[],p,_,_=>absurd p.eq_nil (by simp)
 | x :: l,y :: r,p,h1,h2=>by
  have hx:=List.pairwise_cons.mp h1;have hy:=List.pairwise_cons.mp h2;have e:x=y:=by
   have m1:x∈y :: r:=p.mem_iff.mp (List.mem_cons_self ..);have m2:y∈x :: l:=p.mem_iff.mpr (List.mem_cons_self ..);rcases List.mem_cons.mp m1 with q | q
   ·exact q
   ·rcases List.mem_cons.mp m2 with q' | q'
    ·exact q'.symm
    ·exact anti _ _ (hx.1 _ q') (hy.1 _ q)
  subst e;rw [Jjy anti (List.perm_cons _ |>.mp p) hx.2 hy.2]
end L2
namespace L2
open PySem PySem.Spec PyProof.Rows
section
variable {X:Cx}
theorem Jom {ns:List Int} {us:List Value} (r:JL (ns.map V.int) us):∃ xs:Array (Int×Tok),us.toArray=intItems xs∧ns=xs.toList.map (·.1):=by
 induction ns generalizing us with
 | nil=>cases r; exact ⟨#[],by simp [intItems],rfl⟩
 | cons n ns ih =>
  cases r with
  | cons r1 r2 =>
   obtain ⟨t,rfl⟩:=r1;obtain ⟨xs,h1,h2⟩:=ih r2;refine ⟨((n,t) :: xs.toList).toArray,?_,by rw [h2]; rfl⟩;have e:∀ {a b:List Value},a.toArray=b.toArray→a=b:=fun h=>by simpa using h
   unfold intItems at h1 ⊢;rw [List.map_toArray];have h3:=congrArg Array.toList h1;rw [Array.toList_map] at h3;simp only [List.map_cons];rw [← h3]
def Jvp (K:PySem.W.Frag):List V→Hp→VK→Prop:=fun xs H Q=>∃ (l:Addr) (ns:List Int),xs=[.ref l]∧JA K H l (ns.map V.int)∧0 < ns.length∧∀ M,M∈ns→(∀ a∈ns,a≤M)→Q (.int M) H
def Jvo (K:PySem.W.Frag):List V→Hp→VK→Prop:=fun xs H Q=>∃ (l:Addr) (ns:List Int),xs=[.ref l]∧JA K H l (ns.map V.int)∧0 < ns.length∧∀ M,M∈ns→(∀ a∈ns,M≤a)→Q (.int M) H
theorem JqW (hc:X.calm=true):Yx X (.builtin "max") (Jvp X.K):=by
 intro pins s σ H xs us Q I r h;obtain ⟨l,ns,rfl,hl,hne,q⟩:=h;obtain ⟨u,rfl,ru⟩:=JL.one r;cases ru;obtain ⟨its,rv,pl,_⟩:=I.list hl;obtain ⟨zs,e,rfl⟩:=Jom rv;have hsz:0 < zs.size:=by rw [List.length_map,Array.length_toList] at hne; exact hne
 have hl':=pl.isList;rw [e] at hl';refine max_intList (I.ok.hd hc) hl' hsz fun v h' tk hv hk=>?_
 obtain ⟨t,rfl⟩:=intItems_at hv;obtain ⟨h1,h2⟩:=argBest_gt (numAt zs) (zs.size - 1);refine ⟨.int (numAt zs _),H,I.kept hk,⟨_,rfl⟩,q _ ?_ fun a ha=>?_⟩
 ·rw [numAt_eq]; exact getD_mem (by rw [List.length_map,Array.length_toList]; omega)
 ·obtain ⟨j,hj,rfl⟩:=mem_getD ha;rw [List.length_map,Array.length_toList] at hj;rw [← numAt_eq]; exact h2 j (by omega)
theorem JqV (hc:X.calm=true):Yx X (.builtin "min") (Jvo X.K):=by
 intro pins s σ H xs us Q I r h;obtain ⟨l,ns,rfl,hl,hne,q⟩:=h;obtain ⟨u,rfl,ru⟩:=JL.one r;cases ru;obtain ⟨its,rv,pl,_⟩:=I.list hl;obtain ⟨zs,e,rfl⟩:=Jom rv;have hsz:0 < zs.size:=by rw [List.length_map,Array.length_toList] at hne; exact hne
 have hl':=pl.isList;rw [e] at hl';refine min_intList (I.ok.hd hc) hl' hsz fun v h' tk hv hk=>?_
 obtain ⟨t,rfl⟩:=intItems_at hv;obtain ⟨h1,h2⟩:=argBest_lt (numAt zs) (zs.size - 1);refine ⟨.int (numAt zs _),H,I.kept hk,⟨_,rfl⟩,q _ ?_ fun a ha=>?_⟩
 ·rw [numAt_eq]; exact getD_mem (by rw [List.length_map,Array.length_toList]; omega)
 ·obtain ⟨j,hj,rfl⟩:=mem_getD ha;rw [List.length_map,Array.length_toList] at hj;rw [← numAt_eq]; exact h2 j (by omega)
end
end L2
namespace L2
def JbA:List Int→Int
 | []=>0
 | [a]=>a
 | a :: b :: l=>if a≤JbA (b :: l) then JbA (b :: l) else a
def Jbz:List Int→Int
 | []=>0
 | [a]=>a
 | a :: b :: l=>if Jbz (b :: l)≤a then Jbz (b :: l) else a
theorem JhJ:∀ {l:List Int},l≠[]→JbA l∈l∧∀ x∈l,x≤JbA l
 | [],h=>absurd rfl h
 | [a],_=>⟨List.mem_singleton.mpr rfl,fun x hx=>by rw [List.mem_singleton.mp hx]; exact Int.le_refl _⟩
 | a :: b :: l,_=>by
  obtain ⟨h1,h2⟩:=JhJ (l:=b :: l) (by simp);show (if a≤JbA (b :: l) then JbA (b :: l) else a)∈_∧∀ x∈_,x≤(if a≤JbA (b :: l) then JbA (b :: l) else a);by_cases h:a≤JbA (b :: l)
  ·rw [if_pos h];refine ⟨List.mem_cons_of_mem _ h1,fun x hx=>?_⟩;rcases List.mem_cons.mp hx with q | q
   ·rw [q]; exact h
   ·exact h2 x q
  ·rw [if_neg h];refine ⟨List.mem_cons_self ..,fun x hx=>?_⟩;rcases List.mem_cons.mp hx with q | q
   ·rw [q]; exact Int.le_refl _
   ·have:=h2 x q; omega
theorem JhI:∀ {l:List Int},l≠[]→Jbz l∈l∧∀ x∈l,Jbz l≤x
 | [],h=>absurd rfl h
 | [a],_=>⟨List.mem_singleton.mpr rfl,fun x hx=>by rw [List.mem_singleton.mp hx]; exact Int.le_refl _⟩
 | a :: b :: l,_=>by
  obtain ⟨h1,h2⟩:=JhI (l:=b :: l) (by simp);show (if Jbz (b :: l)≤a then Jbz (b :: l) else a)∈_∧∀ x∈_,(if Jbz (b :: l)≤a then Jbz (b :: l) else a)≤x;by_cases h:Jbz (b :: l)≤a
  ·rw [if_pos h];refine ⟨List.mem_cons_of_mem _ h1,fun x hx=>?_⟩;rcases List.mem_cons.mp hx with q | q
   ·rw [q]; exact h
   ·exact h2 x q
  ·rw [if_neg h];refine ⟨List.mem_cons_self ..,fun x hx=>?_⟩;rcases List.mem_cons.mp hx with q | q
   ·rw [q]; exact Int.le_refl _
   ·have:=h2 x q; omega
theorem JtO {l:List Int} {m:Int} (h1:m∈l) (h2:∀ x∈l,x≤m):m=JbA l:=by
 have hne:l≠[]:=fun e=>by rw [e] at h1; cases h1
 obtain ⟨h3,h4⟩:=JhJ hne;have:=h2 _ h3;have:=h4 _ h1;omega
theorem JtM {l:List Int} {m:Int} (h1:m∈l) (h2:∀ x∈l,m≤x):m=Jbz l:=by
 have hne:l≠[]:=fun e=>by rw [e] at h1; cases h1
 obtain ⟨h3,h4⟩:=JhI hne;have:=h2 _ h3;have:=h4 _ h1;omega
section
variable {α:Type}
def Y7 (W:α→List α) (g:α→Bool) (c:Int):Nat→α→Bool→Int
 | 0,p,_=>if g p=true then 0 else c + 1
 | t + 1,p,r=>if g p=true then 0 else if (W p).isEmpty=true then c + 1 else
   if r=true then (if (Jbz ((W p).map fun w=>Y7 W g c t w false) + JbA ((W p).map fun w=>Y7 W g c t w true)) / 2 > Jbz ((W p).map fun w=>Y7 W g c t w false) then (Jbz ((W p).map fun w=>Y7 W g c t w false) + JbA ((W p).map fun w=>Y7 W g c t w true)) / 2 else Jbz ((W p).map fun w=>Y7 W g c t w false))
   else (if (Jbz ((W p).map fun w=>Y7 W g c t w false) + JbA ((W p).map fun w=>Y7 W g c t w true) + 1) / 2 < JbA ((W p).map fun w=>Y7 W g c t w true) then (Jbz ((W p).map fun w=>Y7 W g c t w false) + JbA ((W p).map fun w=>Y7 W g c t w true) + 1) / 2 else JbA ((W p).map fun w=>Y7 W g c t w true))
def loA (W:α→List α) (g:α→Bool) (c:Int) (t:Nat) (p:α) (r:Bool):Int:=Jbz ((W p).map fun w=>Y7 W g c t w r)
def hiB (W:α→List α) (g:α→Bool) (c:Int) (t:Nat) (p:α) (r:Bool):Int:=JbA ((W p).map fun w=>Y7 W g c t w r)
variable {W:α→List α} {g:α→Bool} {c:Int} {t:Nat} {p:α} {r:Bool}
theorem JhD (h:g p=true):Y7 W g c t p r=0:=by
 cases t with
 | zero=>show (if g p=true then 0 else c + 1)=0; rw [if_pos h]
 | succ t=>unfold Y7; rw [if_pos h]
theorem JhC (h:g p=false) (hw:W p=[]):Y7 W g c t p r=c + 1:=by
 cases t with
 | zero=>show (if g p=true then 0 else c + 1)=_; rw [if_neg (by rw [h]; exact Bool.false_ne_true)]
 | succ t=>unfold Y7; rw [if_neg (by rw [h]; exact Bool.false_ne_true),if_pos (by rw [hw]; rfl)]
theorem Jqk (h:g p=false):Y7 W g c 0 p r=c + 1:=by
 show (if g p=true then 0 else c + 1)=_; rw [if_neg (by rw [h]; exact Bool.false_ne_true)]
theorem JlE {l:List α} (h:l≠[]):¬ (l.isEmpty=true):=fun e=>h (List.isEmpty_iff.mp e)
theorem Jqm (h:g p=false) (hw:W p≠[]):Y7 W g c (t + 1) p true=if (loA W g c t p false + hiB W g c t p true) / 2 > loA W g c t p false then (loA W g c t p false + hiB W g c t p true) / 2 else loA W g c t p false:=by
 unfold Y7 loA hiB; rw [if_neg (by rw [h]; exact Bool.false_ne_true),if_neg (JlE hw),if_pos rfl]
theorem Jql (h:g p=false) (hw:W p≠[]):Y7 W g c (t + 1) p false=if (loA W g c t p false + hiB W g c t p true + 1) / 2 < hiB W g c t p true then (loA W g c t p false + hiB W g c t p true + 1) / 2 else hiB W g c t p true:=by
 unfold Y7 loA hiB; rw [if_neg (by rw [h]; exact Bool.false_ne_true),if_neg (JlE hw),if_neg Bool.false_ne_true]
theorem Jr7 (hw:W p≠[]):(∃ w∈W p,loA W g c t p r=Y7 W g c t w r)∧∀ w∈W p,loA W g c t p r≤Y7 W g c t w r:=by
 have hne:(W p).map (fun w=>Y7 W g c t w r)≠[]:=fun e=>hw (List.map_eq_nil_iff.mp e)
 obtain ⟨h1,h2⟩:=JhI hne;obtain ⟨w,h3,h4⟩:=List.mem_map.mp h1;exact ⟨⟨w,h3,h4.symm⟩,fun w hw=>h2 _ (List.mem_map.mpr ⟨w,hw,rfl⟩)⟩
theorem Jsc (hw:W p≠[]):(∃ w∈W p,hiB W g c t p r=Y7 W g c t w r)∧∀ w∈W p,Y7 W g c t w r≤hiB W g c t p r:=by
 have hne:(W p).map (fun w=>Y7 W g c t w r)≠[]:=fun e=>hw (List.map_eq_nil_iff.mp e)
 obtain ⟨h1,h2⟩:=JhJ hne;obtain ⟨w,h3,h4⟩:=List.mem_map.mp h1;exact ⟨⟨w,h3,h4.symm⟩,fun w hw=>h2 _ (List.mem_map.mpr ⟨w,hw,rfl⟩)⟩
theorem Juo:∀ (t:Nat) (p:α),Y7 W g c t p true≤Y7 W g c t p false + 1∧Y7 W g c t p false≤Y7 W g c t p true + 1
 | 0,p=>by
  show (if g p=true then 0 else c + 1)≤(if g p=true then 0 else c + 1) + 1∧_;exact ⟨by omega,by show (if g p=true then 0 else c + 1)≤(if g p=true then 0 else c + 1) + 1; omega⟩
 | t + 1,p=>by
  cases hg:g p with
  | true=>rw [JhD hg,JhD hg]; omega
  | false =>
   by_cases hw:W p=[]
   ·rw [JhC hg hw,JhC hg hw]; omega
   ·obtain ⟨⟨w1,m1,e1⟩,_⟩:=Jr7 (W:=W) (g:=g) (c:=c) (t:=t) (p:=p) (r:=false) hw;obtain ⟨_,l2⟩:=Jsc (W:=W) (g:=g) (c:=c) (t:=t) (p:=p) (r:=true) hw;have b1:=Juo t w1;have b2:=l2 w1 m1;rw [← e1] at b1;rw [Jqm hg hw,Jql hg hw];constructor <;> split <;> split <;> omega
def Jdv (W:α→List α) (g:α→Bool) (c:Int) (t:Nat) (p:α) (k:Int) (r h:Bool):Option α:=(W p).find? fun w=>decide (Y7 W g c t w r≤k) == h
def after (k:Int) (r:Bool) (b a:Int):Bool×Int×Bool :=
 if b > a then (!r,(if r then k + b else k - b),r) else if a > b then (r,(if r then k - a else k + a),r) else (r,(if r then k - a else k + a),!r)
def JeL (W:α→List α) (g:α→Bool) (c:Int) (t:Nat) (p:α) (k:Int) (r:Bool) (b a:Int):Bool :=
 (Jdv W g c t p (after k r b a).2.1 (after k r b a).2.2 (after k r b a).1).isSome == ((after k r b a).1 == r)
def own (c k:Int) (r:Bool):Int:=if r then k else c - k
def Jh5 (W:α→List α) (g:α→Bool) (c:Int) (t:Nat) (p:α) (k:Int) (r:Bool) (b:Int):Option Int :=
 if JeL W g c t p k r b 0=true then some 0 else if b≤own c k r∧JeL W g c t p k r b b=true then some b else none
def JuV (W:α→List α) (g:α→Bool) (c:Int) (t:Nat) (p:α) (k:Int) (r:Bool):Int :=
 if r then (if k - loA W g c t p false + 1 > 0 then k - loA W g c t p false + 1 else 0) else (if hiB W g c t p true - k > 0 then hiB W g c t p true - k else 0)
theorem Jq2 {k b:Int}:Jh5 W g c t p k r b=none↔¬ JeL W g c t p k r b 0=true∧¬ (b≤own c k r∧JeL W g c t p k r b b=true):=by
 unfold Jh5;by_cases h0:JeL W g c t p k r b 0=true
 ·rw [if_pos h0]; exact ⟨fun h=>(nomatch h),fun h=>absurd h0 h.1⟩
 ·rw [if_neg h0];by_cases h1:b≤own c k r∧JeL W g c t p k r b b=true
  ·rw [if_pos h1]; exact ⟨fun h=>(nomatch h),fun h=>absurd h1 h.2⟩
  ·rw [if_neg h1]; exact ⟨fun _=>⟨h0,h1⟩,fun _=>rfl⟩
end
end L2
namespace L2
open PySem PySem.Spec PyProof.Rows
theorem Jk {K:PySem.W.Frag} {f:Addr} {x q:Str} {st:Stmt} (h:J6 K f q=J8 x q st):Fun K x q st f (JQ K f):=by
 obtain ⟨oc,od,kV,doc,pm,an,cdv,ct,osl,h1,h2,h3,h4⟩:=Jqj h;exact ⟨⟨oc,od,kV,doc,pm,an,cdv,ct,osl,h1,h2,h3⟩,h4⟩
theorem Yn {K:PySem.W.Frag} {f:Addr} {x q:Str} {st:Stmt} (h:J6 K f q=J8 x q st):PySem.W.keepIn K (.ref f)=true:=(Jk h).kp
def Jpc:Sum Int Str→V
 | .inl i=>.int i
 | .inr x=>.str x
theorem JqH {v:Value} {x:Sum Int Str} (h:JgV v=some x):JY (Jpc x) v:=by
 unfold JgV at h;split at h
 ·cases h; exact ⟨_,rfl⟩
 ·cases h; exact ⟨_,rfl⟩
 ·cases h
theorem JjZ:∀ {us:List Value} {xs:List (Sum Int Str)},us.map JgV=xs.map some→JL (xs.map Jpc) us
 | [],[],_=>.nil
 | u :: us,x :: xs,h=>by
  rw [List.map_cons,List.map_cons,List.cons.injEq] at h;exact .cons (JqH h.1) (JjZ h.2)
 | [],_ :: _,h=>by cases h
 | _ :: _,[],h=>by cases h
theorem JuH {K:PySem.W.Frag} {n:Str} {xs:List (Sum Int Str)} (h:obT K n=some (true,xs.map some)) (H:Hp):JH K H (Ji K n) (xs.map Jpc):=by
 unfold obT at h;split at h
 ·rename_i its m sl e;have h:=Option.some.inj h;have h1:decide (its.size≤1000)=true:=congrArg Prod.fst h;have h2:its.toList.map JgV=xs.map some:=congrArg Prod.snd h;exact .inr ⟨_,its,m,e,rfl,rfl,Nat.le_trans (of_decide_eq_true h1) (by decide),JjZ h2⟩
 ·cases h
theorem mgV {K:PySem.W.Frag} {h:Heap} {mg:Str→Option Value} {n:Str} {i:Int} (X:K.In h) (G:h.Ns mainGlobals mg) (e:obV K n=some (.inl i)):∃ u,mg n=some u∧JY (.int i) u:=by
 obtain ⟨t,z⟩:=JtJ e;exact ⟨_,PySem.W.mg_of X G z,⟨_,rfl⟩⟩
theorem Jq9 {l:PySem.W.OpenLaw} {n k:Nat} {q:Program} {loose:List Str} {XP:(Str→Option Value)→Heap→Prop} {YP:World→Heap→Prop} {d:DefRec} {C:PySem.W.Frag→Prop} {CX:CXT} {sp:PySem.W.Frag→Sp} {x:Str}
  (hn:l.most=some n) (hn2:n≤sizeLine) (hdf:d.params.defaults=[]) (hr:Zm k callerA)
  (hY:∀ (w:World) (h:Heap),YP w h→∃ K:PySem.W.Frag,K.In h∧C K)
  (F:∀ (w:World) (K:PySem.W.Frag) (mg:Str→Option Value) (fa:Addr) (h:Heap),C K→K.In h→h.Ns mainGlobals mg→mg d.name=some (.ref fa) →
   ∃ fd:FuncData,(∀ (s:Shared) (u:Value),BindsTo s fd ⟨[u],[]⟩ [(x,u)]) ∧
    ∀ base:Heap,K.In base→base.Ns mainGlobals mg→JM l.prog w K mg base CX k fa fd [x] (sp K))
  (hsp:∀ (K:PySem.W.Frag) (H:Hp) (a:Addr) (ns:List Int),ns.length≤n→Jsz H→JA K H a (ns.map V.int)→sp K [.ref a] H (fun v _=>v=.bl true) fun _ _ _=>False)
  (hCX:∀ (H:Hp) (s:Shared) (e:Value) (s':Shared),CX [] H s (fun _ _ _=>False) e s'→False) :
  PySem.W.WalkO q loose XP YP l.row.toRowW d [] (fun f vs=>PySem.call f vs):=by
 refine Att.Jn5 hn hdf fun w s₀ s₁ mg mb fa o pm cd doc a vs ns G Y ho hd hcd hmg hobj hints hlen hg=>?_
 obtain ⟨K,KX,hC⟩:=hY w _ Y;obtain ⟨fd,hb,hF⟩:=F w K mg fa _ hC KX G.T.g hmg;exact Jr8 KX G.T.g G.T.b G.T.builtins G.T.nolimit hg hobj hints (Nat.le_trans hlen hn2) hr hF hb (fun H hO hS=>hsp K H a ns hlen hO hS) fun H e s'=>hCX H s₁ e s'
end L2
namespace L2
open PySem PySem.Spec PyProof.Rows
def eqL:List V→List V→Bool
 | [],[]=>true
 | x :: xs,y :: ys=>eqV x y && eqL xs ys
 | _,_=>false
def eqN (xs ys:List V) (j:Nat):Bool:=eqV (xs.getD j .non) (ys.getD j .non)
theorem Joq:∀ {xs ys:List V},((List.range (min xs.length ys.length)).all (eqN xs ys) && xs.length == ys.length)=eqL xs ys
 | [],[]=>rfl
 | [],y :: ys=>by simp [eqL]
 | x :: xs,[]=>by simp [eqL]
 | x :: xs,y :: ys=>by
  have ih:=Joq (xs:=xs) (ys:=ys);have e:min (x :: xs).length (y :: ys).length=min xs.length ys.length + 1:=by simp only [List.length_cons]; omega
  rw [e,List.range_succ_eq_map,List.all_cons,List.all_map,eqL,← ih];have e2:((x :: xs).length == (y :: ys).length)=(xs.length == ys.length):=by simp
  rw [e2,Bool.and_assoc];rfl
theorem JiJ:∀ {xs:List V} {us:List Value},JL xs us→∀ j (h:j < us.length),JY (xs.getD j .non) us[j]
 | _,_,.nil,j,h=>absurd h (Nat.not_lt_zero _)
 | x :: xs,u :: us,.cons r t,0,h=>r
 | x :: xs,u :: us,.cons r t,j + 1,h=>JiJ t j (by simpa using h)
theorem Ji1:∀ {xs:List V},xs.all JbL=true→∀ j,JbL (xs.getD j .non)=true
 | [],_,j=>rfl
 | x :: xs,f,0=>by rw [List.all_cons,Bool.and_eq_true] at f; exact f.1
 | x :: xs,f,j + 1=>by rw [List.all_cons,Bool.and_eq_true] at f; exact Ji1 f.2 j
def Jus (K:PySem.W.Frag) (neg:Bool):R2:=fun x y H Q=>∃ a b xs ys,x=.ref a∧y=.ref b∧JH K H a xs∧JH K H b ys∧xs.all JbL=true∧ys.all JbL=true∧Q (.bl (if neg then !eqL xs ys else eqL xs ys)) H
theorem JuB {X:Cx} (hu:X.A.units < cLine):ZT X (compareOp .NotEq) (Jus X.K true):=by
 intro pins s σ H x y v u Q I rx ry h;obtain ⟨a,b,xs,ys,rfl,rfl,ha,hb,fx,fy,q⟩:=h;cases rx;cases ry;obtain ⟨its,rv,pl,_⟩:=I.tuple ha;obtain ⟨its2,rv2,pl2,_⟩:=I.tuple hb;have z:=SeqAt.RcNeAt.tuples (A:=X.A) (e:=eqN xs ys) pl pl2 hu (fun j h1 h2=>JqK (JiJ rv j (by simpa using h1)) (JiJ rv2 j (by simpa using h2)) (Ji1 fx j) (Ji1 fy j)) X.prog X.w X.xe (EP X pins σ Q);refine z ⟨.bl _,H,I,rfl,?_⟩;rw [List.size_toArray,List.size_toArray,← rv.length,← rv2.length,Joq];exact q
def Jv4 (K:PySem.W.Frag):R2:=fun x y H Q=>(∃ b ys,x=.non∧y=.ref b∧JH K H b ys∧Q (.bl true) H)∨Jus K true x y H Q
theorem JuC {X:Cx} (hu:X.A.units < cLine):ZT X (compareOp .NotEq) (Jv4 X.K):=by
 intro pins s σ H x y v u Q I rx ry h;rcases h with ⟨b,ys,rfl,rfl,hb,q⟩ | h
 ·cases rx;cases ry;obtain ⟨its2,rv2,pl2,_⟩:=I.tuple hb;exact SeqAt.RcNeAt.none_tuple (A:=X.A) pl2 hu X.prog X.w X.xe (EP X pins σ Q) ⟨.bl _,H,I,rfl,q⟩
 ·exact JuB hu pins s σ H x y v u Q I rx ry h
def Jva (te:TE):TE:=fun σ H Q=>te σ H fun v H1=>∃ z,v=.str z∧z.length≤sizeLine∧Q (.str z) H1
theorem Jtw {X:Cx} {e:Expr} {te:TE} {pos:Pos} (he:PE X e te):PE X (.FormattedValue e (-1) none pos) (Jva te):=by
 intro pins s σ H Q I h;refine PyProof.Rows.FormattedValue_plain (J2 (he pins s σ H _ I h) fun v s1 ⟨x,H1,I1,r1,z,ez,hz,q⟩=>?_);subst ez;obtain ⟨t,rfl⟩:=r1;exact PyProof.Rows.formatField_str (fun t' tk=>⟨.str z,H1,I1.tok _,⟨_,rfl⟩,q⟩) hz
theorem Jss {X:Cx}:Yx X (.builtin "isinstance") (fun xs H Q=>∃ (a:Addr) (ys:List V),xs=[.ref a,.ty "tuple"]∧JH X.K H a ys∧Q (.bl true) H):=by
 intro pins s σ H xs us Q I r h;obtain ⟨a,ys,rfl,hs,q⟩:=h;cases r with
 | cons r rr =>
  cases rr with
  | cons r' rr =>
   cases rr;rename_i u u';obtain rfl:u'=.type "tuple":=r';obtain rfl:u=.ref a:=r;obtain ⟨its,_,⟨o,h1,h2,_⟩,_⟩:=I.tuple hs;exact PySem.W.kia_one PySem.W.kitx_tuple I.kIn ⟨o,h1,h2⟩ Jqt (fun z=>nomatch z) fun tk=>⟨.bl true,H,I.tok _,rfl,q⟩
theorem cxK {CX:CXT} {P:Program} {w:World} {K:PySem.W.Frag} {mg:Str→Option Value} {base:Heap} {N:List Str} {q:Str} {sc:Scope} {f:Addr} {cd:Value} {A:Around} {o:List Env} {s:Shared} {H:Hp} {E:XK}:(Jah CX P w K mg base N q sc f cd A o s H E).nox.K=K:=rfl
theorem Jcr {CX:CXT} {P:Program} {w:World} {K:PySem.W.Frag} {mg:Str→Option Value} {base:Heap} {N:List Str} {q:Str} {sc:Scope} {f:Addr} {cd:Value} {A:Around} {o:List Env} {s:Shared} {H:Hp} {E:XK}:(Jah CX P w K mg base N q sc f cd A o s H E).K=K:=rfl
end L2
set_option maxHeartbeats 1600000
namespace Pf
open PySem L2
theorem Jmw:Jt ["text"] ["text"] (Jn Jdw):=⟨rfl,rfl,rfl,by decide +kernel,rfl,by decide +kernel,by decide +kernel⟩
theorem Jl3:Jt ["hand"] ["hand"] (Jn JeX):=⟨rfl,rfl,rfl,by decide +kernel,rfl,by decide +kernel,by decide +kernel⟩
theorem JrJ:Jt ["hand"] ["hand"] (Jn Jkz):=⟨rfl,rfl,rfl,by decide +kernel,rfl,by decide +kernel,by decide +kernel⟩
theorem Jkq:Jt ["number", "most"] ["number", "most"] (Jn JdN):=⟨rfl,rfl,rfl,by decide +kernel,rfl,by decide +kernel,by decide +kernel⟩
theorem Jkr:Jt ["north", "south"] ["north", "south"] (Jn JdQ):=⟨rfl,rfl,rfl,by decide +kernel,rfl,by decide +kernel,by decide +kernel⟩
theorem Jmy:Jt ["named", "coins"] ["named", "coins"] (Jn JfY):=⟨rfl,rfl,rfl,by decide +kernel,rfl,by decide +kernel,by decide +kernel⟩
theorem Jiv:Jt ["board", "place", "turns", "north", "south", "ribbon"] ["board", "place", "turns", "north", "south", "ribbon"] (Jn Jcg):=⟨rfl,rfl,rfl,by decide +kernel,rfl,by decide +kernel,by decide +kernel⟩
theorem JrL:Jt ["board", "place", "turns"] ["board", "place", "turns"] (Jn JkC):=⟨rfl,rfl,rfl,by decide +kernel,rfl,by decide +kernel,by decide +kernel⟩
theorem JnU:Jt ["hand", "north", "south"] ["hand", "north", "south"] (Jn JgL):=⟨rfl,rfl,rfl,by decide +kernel,rfl,by decide +kernel,by decide +kernel⟩
theorem Juj:Jt ["hand", "price", "north", "south", "ribbon"] ["hand", "price", "north", "south", "ribbon"] (Jn JoZ):=⟨rfl,rfl,rfl,by decide +kernel,rfl,by decide +kernel,by decide +kernel⟩
theorem Jls:Jt ["north", "south", "ribbon", "bid", "answer", "bidder"] ["north", "south", "ribbon", "bid", "answer"] (Jn JiT):=⟨rfl,rfl,rfl,by decide +kernel,rfl,by decide +kernel,by decide +kernel⟩
theorem Jhl:Jt ["self", "board", "coins", "turns", "left"] ["self", "board", "coins", "turns"] (Jn Jf4):=⟨rfl,rfl,rfl,by decide +kernel,rfl,by decide +kernel,by decide +kernel⟩
theorem Jar:Jt ["self", "turns", "row", "place", "ribbon"] ["self", "turns"] (Jn JbQ):=⟨rfl,rfl,rfl,by decide +kernel,rfl,by decide +kernel,by decide +kernel⟩
theorem Jbh:Jt ["self", "place", "turns", "ribbon", "victor", "leading", "led"] ["self", "place", "turns", "ribbon"] (Jn Jc8):=⟨rfl,rfl,rfl,by decide +kernel,rfl,by decide +kernel,by decide +kernel⟩
theorem Jat:Jt ["self", "place", "turns", "behind"] ["self", "place", "turns"] (Jn Y4):=⟨rfl,rfl,rfl,by decide +kernel,rfl,by decide +kernel,by decide +kernel⟩
theorem Jas:Jt ["self", "place", "turns", "behind"] ["self", "place", "turns"] (Jn Y3):=⟨rfl,rfl,rfl,by decide +kernel,rfl,by decide +kernel,by decide +kernel⟩
theorem Jhg:Jt ["self", "place", "turns", "north", "ribbon"] ["self", "place", "turns", "north", "ribbon"] (Jn Jbs):=⟨rfl,rfl,rfl,by decide +kernel,rfl,by decide +kernel,by decide +kernel⟩
theorem Jku:Jt ["self", "place", "turns", "north", "ribbon"] ["self", "place", "turns", "north", "ribbon"] (Jn JdV):=⟨rfl,rfl,rfl,by decide +kernel,rfl,by decide +kernel,by decide +kernel⟩
theorem Jgp:Jt ["self", "place", "turns", "north", "ribbon", "victor"] ["self", "place", "turns", "north", "ribbon"] (Jn JdW):=⟨rfl,rfl,rfl,by decide +kernel,rfl,by decide +kernel,by decide +kernel⟩
theorem JbO:Jt ["self", "place", "turns", "north", "ribbon", "bid", "south", "answer"] ["self", "place", "turns", "north", "ribbon", "bid"] (Jn Jci):=⟨rfl,rfl,rfl,by decide +kernel,rfl,by decide +kernel,by decide +kernel⟩
theorem Ja9:Jt ["self", "place", "turns", "settled", "holder", "leader", "step"] ["self", "place", "turns", "settled", "holder"] (Jn Jbt):=⟨rfl,rfl,rfl,by decide +kernel,rfl,by decide +kernel,by decide +kernel⟩
theorem JfI:Jt ["self", "place", "turns", "north", "ribbon", "hand", "way"] ["self", "place", "turns", "north", "ribbon", "hand"] (Jn Jc7):=⟨rfl,rfl,rfl,by decide +kernel,rfl,by decide +kernel,by decide +kernel⟩
theorem Jkt:Jt ["self", "place", "turns", "north", "south", "ribbon", "hand", "word", "heard"] ["self", "place", "turns", "north", "south", "ribbon", "hand", "word", "heard"] (Jn JdS):=⟨rfl,rfl,rfl,by decide +kernel,rfl,by decide +kernel,by decide +kernel⟩
theorem Jl1:Jt ["board", "place", "turns", "north", "south", "ribbon"] ["board", "place", "turns", "north", "south", "ribbon"] (Jn JeU):=⟨rfl,rfl,rfl,by decide +kernel,rfl,by decide +kernel,by decide +kernel⟩
theorem JoV:Jt ["book", "now"] ["book", "now"] (Jn Jhm):=⟨rfl,rfl,rfl,by decide +kernel,rfl,by decide +kernel,by decide +kernel⟩
theorem Jmz:Jt ["self", "board", "place", "turns", "north", "south", "ribbon"] ["self", "board", "place", "turns", "north", "south", "ribbon"] (Jn Jf2):=⟨rfl,rfl,rfl,by decide +kernel,rfl,by decide +kernel,by decide +kernel⟩
theorem JeT:Jt ["self", "now"] ["self"] (Jn JcG):=⟨rfl,rfl,rfl,by decide +kernel,rfl,by decide +kernel,by decide +kernel⟩
theorem JiA:Jt ["self", "now"] ["self"] (Jn JgN):=⟨rfl,rfl,rfl,by decide +kernel,rfl,by decide +kernel,by decide +kernel⟩
theorem Jl4:Jt ["self"] ["self"] (Jn JeY):=⟨rfl,rfl,rfl,by decide +kernel,rfl,by decide +kernel,by decide +kernel⟩
theorem Jl6:Jt ["self"] ["self"] (Jn Je0):=⟨rfl,rfl,rfl,by decide +kernel,rfl,by decide +kernel,by decide +kernel⟩
theorem Jhk:Jt ["self", "now"] ["self"] (Jn Jf1):=⟨rfl,rfl,rfl,by decide +kernel,rfl,by decide +kernel,by decide +kernel⟩
theorem Jgo:Jt ["self", "now"] ["self"] (Jn JdT):=⟨rfl,rfl,rfl,by decide +kernel,rfl,by decide +kernel,by decide +kernel⟩
theorem JeR:Jt ["self", "now", "what"] ["self"] (Jn JfZ):=⟨rfl,rfl,rfl,by decide +kernel,rfl,by decide +kernel,by decide +kernel⟩
theorem Jiw:Jt ["self", "hand", "word"] ["self", "hand", "word"] (Jn Jch):=⟨rfl,rfl,rfl,by decide +kernel,rfl,by decide +kernel,by decide +kernel⟩
theorem Jl5:Jt ["self", "deed", "moment"] ["self", "deed", "moment"] (Jn JeZ):=⟨rfl,rfl,rfl,by decide +kernel,rfl,by decide +kernel,by decide +kernel⟩
theorem JfX:Jt ["self", "hand", "coins", "now", "behind"] ["self", "hand", "coins"] (Jn JgO):=⟨rfl,rfl,rfl,by decide +kernel,rfl,by decide +kernel,by decide +kernel⟩
theorem JaF:Jt ["self", "hand", "coins", "now", "settled", "leader", "behind"] ["self", "hand", "coins"] (Jn JdU):=⟨rfl,rfl,rfl,by decide +kernel,rfl,by decide +kernel,by decide +kernel⟩
theorem JeS:Jt ["self", "hand", "place", "now", "behind"] ["self", "hand", "place"] (Jn Jf0):=⟨rfl,rfl,rfl,by decide +kernel,rfl,by decide +kernel,by decide +kernel⟩
theorem JmA:Jt ["self"] ["self"] (Jn Jf3):=⟨rfl,rfl,rfl,by decide +kernel,rfl,by decide +kernel,by decide +kernel⟩
theorem Jhj:Jt ["things"] ["things"] (Jn JbP):=⟨rfl,rfl,rfl,by decide +kernel,rfl,by decide +kernel,by decide +kernel⟩
theorem Jks:Jt ["place", "places"] ["place", "places"] (Jn JdR):=⟨rfl,rfl,rfl,by decide +kernel,rfl,by decide +kernel,by decide +kernel⟩
theorem JfH:Jt ["places", "place"] ["places"] (Jn Jc6):=⟨rfl,rfl,rfl,by decide +kernel,rfl,by decide +kernel,by decide +kernel⟩
theorem Jgm:Jt ["lanes", "places", "lane"] ["lanes", "places"] (Jn JdO):=⟨rfl,rfl,rfl,by decide +kernel,rfl,by decide +kernel,by decide +kernel⟩
theorem Jgn:Jt ["goals", "places", "goal"] ["goals", "places"] (Jn JdP):=⟨rfl,rfl,rfl,by decide +kernel,rfl,by decide +kernel,by decide +kernel⟩
theorem Jl8:Jt ["self", "places", "lanes", "goals"] ["self", "places", "lanes", "goals"] (Jn Je1):=⟨rfl,rfl,rfl,by decide +kernel,rfl,by decide +kernel,by decide +kernel⟩
theorem JgJ:Jt ["self", "place"] ["self", "place"] (Jn Jba):=⟨rfl,rfl,rfl,by decide +kernel,rfl,by decide +kernel,by decide +kernel⟩
theorem Jl7:Jt ["self", "place"] ["self", "place"] (Jn JcH):=⟨rfl,rfl,rfl,by decide +kernel,rfl,by decide +kernel,by decide +kernel⟩
theorem JiR:Jt ["self", "place"] ["self", "place"] (Jn JcI):=⟨rfl,rfl,rfl,by decide +kernel,rfl,by decide +kernel,by decide +kernel⟩
theorem Jvi:Jt ["_law_script", "_law_k"] ["_law_script", "_law_k"] (Jn JrN):=⟨rfl,rfl,rfl,by decide +kernel,rfl,by decide +kernel,by decide +kernel⟩
theorem JeO:Jt ["_law_cell", "_law_many", "_law_base", "_law_rest", "_law_mixed", "_law_found", "_law_k"] ["_law_cell", "_law_many", "_law_base"] (Jn JoY):=⟨rfl,rfl,rfl,by decide +kernel,rfl,by decide +kernel,by decide +kernel⟩
theorem JrH:Jt ["_law_found"] ["_law_found"] (Jn Jkv):=⟨rfl,rfl,rfl,by decide +kernel,rfl,by decide +kernel,by decide +kernel⟩
theorem Zu:Jt ["_law_cell", "_law_many", "_law_letters", "_law_free", "_law_found", "_law_k", "_law_places", "_law_size", "_law_head", "_law_more", "_law_name"] ["_law_cell", "_law_many"] (Jn Jie):=⟨rfl,rfl,rfl,by decide +kernel,rfl,by decide +kernel,by decide +kernel⟩
theorem Z9:Jt ["_law_cell", "_law_draw", "_law_size", "_law_pairs_here", "_law_many", "_law_k", "_law_ends", "_law_pair"] ["_law_cell", "_law_draw", "_law_size"] (Jn Jky):=⟨rfl,rfl,rfl,by decide +kernel,rfl,by decide +kernel,by decide +kernel⟩
theorem JeP:Jt ["_law_cell", "_law_kind", "_law_size", "_law_marks", "_law_found"] ["_law_cell", "_law_kind", "_law_size"] (Jn Jif):=⟨rfl,rfl,rfl,by decide +kernel,rfl,by decide +kernel,by decide +kernel⟩
theorem Jaq:Jt ["_law_script", "_law_at_here", "_law_cell", "_law_size", "_law_names_here", "_law_kind", "_law_pairs_here", "_law_goals_here", "_law_lanes"] ["_law_script", "_law_at_here"] (Jn JeW):=⟨rfl,rfl,rfl,by decide +kernel,rfl,by decide +kernel,by decide +kernel⟩
theorem JrI:Jt ["_law_cell"] ["_law_cell"] (Jn Jkw):=⟨rfl,rfl,rfl,by decide +kernel,rfl,by decide +kernel,by decide +kernel⟩
theorem Jtq:Jt ["_law_cell"] ["_law_cell"] (Jn JmG):=⟨rfl,rfl,rfl,by decide +kernel,rfl,by decide +kernel,by decide +kernel⟩
theorem Jtp:Jt ["_law_ground_here", "_law_place"] ["_law_ground_here", "_law_place"] (Jn JjC):=⟨rfl,rfl,rfl,by decide +kernel,rfl,by decide +kernel,by decide +kernel⟩
theorem Juk:Jt ["_law_hand_here"] ["_law_hand_here"] (Jn Jo0):=⟨rfl,rfl,rfl,by decide +kernel,rfl,by decide +kernel,by decide +kernel⟩
theorem Jtr:Jt ["_law_cell"] ["_law_cell"] (Jn JmH):=⟨rfl,rfl,rfl,by decide +kernel,rfl,by decide +kernel,by decide +kernel⟩
theorem Jui:Jt ["_law_ground_here", "_law_place", "_law_left_here"] ["_law_ground_here", "_law_place", "_law_left_here"] (Jn JoW):=⟨rfl,rfl,rfl,by decide +kernel,rfl,by decide +kernel,by decide +kernel⟩
theorem Jbr:Jt ["_law_north", "_law_south", "_law_ribbon", "_law_bid", "_law_reply", "_law_mover", "_law_price", "_law_holder"] ["_law_north", "_law_south", "_law_ribbon", "_law_bid", "_law_reply"] (Jn JiS):=⟨rfl,rfl,rfl,by decide +kernel,rfl,by decide +kernel,by decide +kernel⟩
theorem JgI:Jt ["_law_marks", "_law_words", "_law_found"] ["_law_marks"] (Jn Jid):=⟨rfl,rfl,rfl,by decide +kernel,rfl,by decide +kernel,by decide +kernel⟩
theorem JrK:Jt ["_law_found", "_law_due_here"] ["_law_found", "_law_due_here"] (Jn JkA):=⟨rfl,rfl,rfl,by decide +kernel,rfl,by decide +kernel,by decide +kernel⟩
theorem Jn9:Jt ["_law_found", "_law_due_here", "_law_k"] ["_law_found", "_law_due_here"] (Jn JmI):=⟨rfl,rfl,rfl,by decide +kernel,rfl,by decide +kernel,by decide +kernel⟩
theorem Jmx:Jt ["_law_found", "_law_due_here", "_law_k"] ["_law_found", "_law_due_here"] (Jn JkD):=⟨rfl,rfl,rfl,by decide +kernel,rfl,by decide +kernel,by decide +kernel⟩
theorem JdH:Jt ["_law_ground_here", "_law_now", "_law_place", "_law_left_here", "_law_north", "_law_south", "_law_ribbon", "_law_bid", "_law_mover"] ["_law_ground_here", "_law_now"] (Jn Jo1):=⟨rfl,rfl,rfl,by decide +kernel,rfl,by decide +kernel,by decide +kernel⟩
theorem Jai:Jt ["_law_now", "_law_word", "_law_what", "_law_place", "_law_left_here", "_law_north", "_law_south", "_law_ribbon", "_law_bid", "_law_mover"] ["_law_now", "_law_word", "_law_what"] (Jn JmE):=⟨rfl,rfl,rfl,by decide +kernel,rfl,by decide +kernel,by decide +kernel⟩
theorem JnV:Jt ["_law_own", "_law_his", "_law_cell"] ["_law_own", "_law_his", "_law_cell"] (Jn JgM):=⟨rfl,rfl,rfl,by decide +kernel,rfl,by decide +kernel,by decide +kernel⟩
theorem Jl2:Jt ["_law_bid", "_law_own", "_law_cell"] ["_law_bid", "_law_own", "_law_cell"] (Jn JeV):=⟨rfl,rfl,rfl,by decide +kernel,rfl,by decide +kernel,by decide +kernel⟩
theorem Ja5:Jt ["_law_ground_here", "_law_now", "_law_cell", "_law_place", "_law_left_here", "_law_north", "_law_south", "_law_ribbon", "_law_bid", "_law_mover", "_law_ways_here", "_law_purses"] ["_law_ground_here", "_law_now", "_law_cell"] (Jn JmC):=⟨rfl,rfl,rfl,by decide +kernel,rfl,by decide +kernel,by decide +kernel⟩
theorem JaP:Jt ["_law_script", "_law_ground_here", "_law_at_here", "_law_place", "_law_total_here", "_law_left_here", "_law_north", "_law_ribbon"] ["_law_script", "_law_ground_here", "_law_at_here"] (Jn Jhn):=⟨rfl,rfl,rfl,by decide +kernel,rfl,by decide +kernel,by decide +kernel⟩
theorem JiQ:Jt ["_law_game", "_law_ground_here", "_law_now", "_law_log", "_law_won_here"] ["_law_game", "_law_ground_here", "_law_now", "_law_log"] (Jn Jkx):=⟨rfl,rfl,rfl,by decide +kernel,rfl,by decide +kernel,by decide +kernel⟩
theorem Jts:Jt ["_law_game", "_law_hand_here", "_law_word", "_law_what"] ["_law_game", "_law_hand_here", "_law_word", "_law_what"] (Jn JmJ):=⟨rfl,rfl,rfl,by decide +kernel,rfl,by decide +kernel,by decide +kernel⟩
theorem Jic:Jt ["_law_ground_here", "_law_cell", "_law_names_here", "_law_k", "_law_place"] ["_law_ground_here", "_law_cell"] (Jn JmD):=⟨rfl,rfl,rfl,by decide +kernel,rfl,by decide +kernel,by decide +kernel⟩
theorem Jc5:Jt ["_law_script", "_law_at_here", "_law_names_here", "_law_lanes", "_law_k", "_law_ends", "_law_lane"] ["_law_script", "_law_at_here"] (Jn JmF):=⟨rfl,rfl,rfl,by decide +kernel,rfl,by decide +kernel,by decide +kernel⟩
theorem JjB:Jt ["_law_game", "_law_marks", "e"] ["_law_game"] (Jn JoX):=⟨rfl,rfl,rfl,by decide +kernel,rfl,by decide +kernel,by decide +kernel⟩
theorem Jn8:Jt ["_law_game", "_law_found"] ["_law_game"] (Jn JmB):=⟨rfl,rfl,rfl,by decide +kernel,rfl,by decide +kernel,by decide +kernel⟩
theorem Jvj:Jt ["_law_found", "_law_due_here"] ["_law_found", "_law_due_here"] (Jn JrO):=⟨rfl,rfl,rfl,by decide +kernel,rfl,by decide +kernel,by decide +kernel⟩
theorem JeQ:Jt ["_law_game", "_law_ground_here", "_law_times", "_law_log", "_law_seen", "_law_picks", "_law_pick_here", "_law_now", "_law_due_here", "_law_what"] ["_law_game", "_law_ground_here", "_law_times", "_law_log", "_law_seen", "_law_picks"] (Jn JkB):=⟨rfl,rfl,rfl,by decide +kernel,rfl,by decide +kernel,by decide +kernel⟩
theorem Joa:Jt ["_law_game", "_law_times", "_law_log", "_law_seen", "_law_many", "_law_k"] ["_law_game", "_law_times", "_law_log", "_law_seen", "_law_many"] (Jn JmK):=⟨rfl,rfl,rfl,by decide +kernel,rfl,by decide +kernel,by decide +kernel⟩
theorem ZJ:Jt ["_law_script", "_law_ground_here", "_law_now", "_law_cell", "_law_many", "_law_place", "_law_board", "_law_game", "_law_picks", "_law_times", "_law_log", "_law_seen", "_law_fresh", "_law_deed", "_law_begin"] ["_law_script"] (Jn JgK):=⟨rfl,rfl,rfl,by decide +kernel,rfl,by decide +kernel,by decide +kernel⟩
set_option genInjectivity false in
set_option genSizeOf false in
structure Txt (K:PySem.W.Frag) (mg:Str→Option Value) where
 Jop:Addr
 Jno:FuncData
 Jt2:Df K mg "_wall" Job ["k"] Jop Jno
 Jgb:Addr
 Jff:FuncData
 Jgi:Df K mg "good_name" Jdw ["text"] Jgb Jff
 Jfp:Addr
 Jd1:FuncData
 JaM:Df K mg "check_hand" JeX ["hand"] Jfp Jd1
 Jk6:Addr
 Ji7:FuncData
 JeJ:Df K mg "other" Jkz ["hand"] Jk6 Ji7
 Jd7:Addr
 Jde:FuncData
 ZE:Df K mg "check_up_to" JdN ["number", "most"] Jd7 Jde
 Jea:Addr
 Jdh:FuncData
 Jcb:Df K mg "check_coins" JdQ ["north", "south"] Jea Jdh
 Jgc:Addr
 Jfg:FuncData
 Ja7:Df K mg "check_bid" JfY ["named", "coins"] Jgc Jfg
 Jco:Addr
 JbS:FuncData
 Jcs:Df K mg "check_standing" Jcg ["board", "place", "turns", "north", "south", "ribbon"] Jco JbS
 Jlb:Addr
 Jjc:FuncData
 JcF:Df K mg "ended" JkC ["board", "place", "turns"] Jlb Jjc
 JgY:Addr
 Jf7:FuncData
 JaT:Df K mg "coins_of" JgL ["hand", "north", "south"] JgY Jf7
 Jpq:Addr
 Jnk:FuncData
 Jkh:Df K mg "pay" JoZ ["hand", "price", "north", "south", "ribbon"] Jpq Jnk
 Jjf:Addr
 JhT:FuncData
 Jg5:Df K mg "settle" JiT ["north", "south", "ribbon", "bid", "answer"] Jjf JhT
 Jfn:Addr
 JdZ:FuncData
 Jc1:Df K mg "turn_begin" JeU ["board", "place", "turns", "north", "south", "ribbon"] Jfn JdZ
 JhV:Addr
 JgW:FuncData
 Jh8:Df K mg "told_by" Jhm ["book", "now"] JhV JgW
 JbV:Addr
 JbB:FuncData
 ZX:Df K mg "check_each_once" JbP ["things"] JbV JbB
 Jeb:Addr
 Jdi:FuncData
 Jal:Df K mg "check_among" JdR ["place", "places"] Jeb Jdi
 Jdo:Addr
 JcT:FuncData
 Jdu:Df K mg "check_places" Jc6 ["places"] Jdo JcT
 Jd8:Addr
 Jdf:FuncData
 Jej:Df K mg "check_lanes" JdO ["lanes", "places"] Jd8 Jdf
 Jd9:Addr
 Jdg:FuncData
 Jek:Df K mg "check_goals" JdP ["goals", "places"] Jd9 Jdg
 Jsh:Addr
 Jpl:FuncData
 Z0:Df K mg "_law_at" JrN ["_law_script", "_law_k"] Jsh Jpl
 Jpp:Addr
 Jnj:FuncData
 Jg6:Df K mg "_law_row" JoY ["_law_cell", "_law_many", "_law_base"] Jpp Jnj
 Jk1:Addr
 Ji2:FuncData
 Jlh:Df K mg "_law_whole" Jkv ["_law_found"] Jk1 Ji2
 Jk7:Addr
 Ji8:FuncData
 Jir:Df K mg "_law_names" Jie ["_law_cell", "_law_many"] Jk7 Ji8
 Jk5:Addr
 Ji6:FuncData
 Jlk:Df K mg "_law_pairs" Jky ["_law_cell", "_law_draw", "_law_size"] Jk5 Ji6
 Jk9:Addr
 Jja:FuncData
 Jll:Df K mg "_law_goals" Jif ["_law_cell", "_law_kind", "_law_size"] Jk9 Jja
 Jjg:Addr
 JhU:FuncData
 Jjr:Df K mg "_law_ground" JeW ["_law_script", "_law_at_here"] Jjg JhU
 Jk3:Addr
 Ji4:FuncData
 Jlj:Df K mg "_law_total" Jkw ["_law_cell"] Jk3 Ji4
 Jnv:Addr
 JkW:FuncData
 JnO:Df K mg "_law_left" JmG ["_law_cell"] Jnv JkW
 Jnp:Addr
 JkQ:FuncData
 Jkg:Df K mg "_law_ways" JjC ["_law_ground_here", "_law_place"] Jnp JkQ
 Jps:Addr
 Jnm:FuncData
 Jit:Df K mg "_law_foe" Jo0 ["_law_hand_here"] Jps Jnm
 Jnw:Addr
 JkX:FuncData
 JnP:Df K mg "_law_hand" JmH ["_law_cell"] Jnw JkX
 Jpn:Addr
 Jnh:FuncData
 Jkf:Df K mg "_law_won" JoW ["_law_ground_here", "_law_place", "_law_left_here"] Jpn Jnh
 Jje:Addr
 JhS:FuncData
 Jjq:Df K mg "_law_turned" JiS ["_law_north", "_law_south", "_law_ribbon", "_law_bid", "_law_reply"] Jje JhS
 Jk2:Addr
 Ji3:FuncData
 Jli:Df K mg "_law_which" Jid ["_law_marks"] Jk2 Ji3
 Jk8:Addr
 Ji9:FuncData
 JcE:Df K mg "_law_holds" JkA ["_law_found", "_law_due_here"] Jk8 Ji9
 Jnx:Addr
 JkY:FuncData
 Jb5:Df K mg "_law_flat" JmI ["_law_found", "_law_due_here"] Jnx JkY
 Jlc:Addr
 Jjd:FuncData
 Jiu:Df K mg "_law_deeds" JkD ["_law_found", "_law_due_here"] Jlc Jjd
 Jpt:Addr
 Jnn:FuncData
 Jki:Df K mg "_law_due" Jo1 ["_law_ground_here", "_law_now"] Jpt Jnn
 Jnt:Addr
 JkU:FuncData
 JnM:Df K mg "_law_next" JmE ["_law_now", "_law_word", "_law_what"] Jnt JkU
 JgZ:Addr
 Jf8:FuncData
 Jg7:Df K mg "_law_bid_pick" JgM ["_law_own", "_law_his", "_law_cell"] JgZ Jf8
 Jfo:Addr
 Jd0:FuncData
 JfE:Df K mg "_law_reply_pick" JeV ["_law_bid", "_law_own", "_law_cell"] Jfo Jd0
 Jnr:Addr
 JkS:FuncData
 JnK:Df K mg "_law_pick" JmC ["_law_ground_here", "_law_now", "_law_cell"] Jnr JkS
 JhW:Addr
 JgX:FuncData
 Jh9:Df K mg "_law_opening" Jhn ["_law_script", "_law_ground_here", "_law_at_here"] JhW JgX
 Jk4:Addr
 Ji5:FuncData
 Jiq:Df K mg "_law_shows" Jkx ["_law_game", "_law_ground_here", "_law_now", "_law_log"] Jk4 Ji5
 Jny:Addr
 JkZ:FuncData
 Jkj:Df K mg "_law_does" JmJ ["_law_game", "_law_hand_here", "_law_word", "_law_what"] Jny JkZ
 Jns:Addr
 JkT:FuncData
 JnL:Df K mg "_law_open" JmD ["_law_ground_here", "_law_cell"] Jns JkT
 Jnu:Addr
 JkV:FuncData
 JnN:Df K mg "_law_long" JmF ["_law_script", "_law_at_here"] Jnu JkV
 Jpo:Addr
 Jni:FuncData
 Jmf:Df K mg "_law_try" JoX ["_law_game"] Jpo Jni
 Jnq:Addr
 JkR:FuncData
 JdM:Df K mg "_law_told" JmB ["_law_game"] Jnq JkR
 Jsi:Addr
 Jpm:FuncData
 JnQ:Df K mg "_law_as" JrO ["_law_found", "_law_due_here"] Jsi Jpm
 Jla:Addr
 Jjb:FuncData
 Jis:Df K mg "_law_forth" JkB ["_law_game", "_law_ground_here", "_law_times", "_law_log", "_law_seen", "_law_picks"] Jla Jjb
 Jnz:Addr
 Jk0:FuncData
 Jkk:Df K mg "_law_back" JmK ["_law_game", "_law_times", "_law_log", "_law_seen", "_law_many"] Jnz Jk0
 Jpr:Addr
 Jnl:FuncData
 JsX:Df K mg "law" JgK ["_law_script"] Jpr Jnl
 JgF:Addr
 JkP:mg "HANDS" = some (.ref JgF)
 Jia:∀ H:Hp,JH K H JgF [.str "north",.str "south"]
 Jbo:Value
 JcR:mg "MOST_SIGNS" = some Jbo
 JcJ:JY (.int 6) Jbo
 Jbn:Value
 JaJ:mg "MOST_TURNS" = some Jbn
 JaG:JY (.int 30) Jbn
 Jbq:Value
 JaK:mg "MOST_COINS" = some Jbq
 JaH:JY (.int 20) Jbq
 JaW:Value
 Jb9:mg "MOST_PLACES" = some JaW
 Jb6:JY (.int 12) JaW
 Jbp:Value
 JcS:mg "MOST_LANES" = some Jbp
 JcK:JY (.int 40) Jbp
 JsN:mg "all" = none
 Y5:mg "len" = none
 ZD:mg "range" = none
 JjO:mg "min" = none
 JfL:mg "max" = none
 JbJ:mg "tuple" = none
 JsL:mg "set" = none
 Jfb:mg "sorted" = none
 Ye:mg "isinstance" = none
 JsM:mg "int" = none
 Jqn:mg "bool" = none
 Jpd:mg "str" = none
 JhE:mg "ValueError" = none
 JjP:mg "list" = none
 JcQ:Addr
 JfP:mg "BidmoverError" = some (.ref JcQ)
 JfN:Addr
 JlN:mg "BadName" = some (.ref JfN)
 Zr:Addr
 Jh4:mg "BadHand" = some (.ref Zr)
 Ym:Addr
 JcZ:mg "OutOfRange" = some (.ref Ym)
 Jik:Addr
 Joz:mg "Twice" = some (.ref Jik)
 Y8:Addr
 Jh3:mg "NoPlace" = some (.ref Y8)
 JaD:Addr
 Jjk:mg "BadBid" = some (.ref JaD)
 Jdd:Addr
 Jjj:mg "NoLane" = some (.ref Jdd)
 JaR:Addr
 Jji:mg "NotDue" = some (.ref JaR)
 J1:Addr
 Jeh:mg "NothingDone" = some (.ref J1)
 JkO:Addr
 JoA:mg "Taken" = some (.ref JkO)
 Jnb:Addr
 JqX:mg "Full" = some (.ref Jnb)
 JhN:Addr
 JlM:mg "Missing" = some (.ref JhN)
 JX:Addr
 JqY:mg "Book" = some (.ref JX)
 J3:Cls K JX
 JdA:Addr
 Jfm:FuncData
 Jgj:Md K JX "__init__" "Book.__init__" Jf4 ["self", "board", "coins", "turns"] JdA Jfm
 JbW:Addr
 JbC:FuncData
 JaE:Md K JX "needs_with" "Book.needs_with" JbQ ["self", "turns"] JbW JbC
 Jdq:Addr
 JcV:FuncData
 JbM:Md K JX "need_at" "Book.need_at" Jc8 ["self", "place", "turns", "ribbon"] Jdq JcV
 ZG:Addr
 ZA:FuncData
 Yu:Md K JX "need_where_north_leads" "Book.need_where_north_leads" Y4 ["self", "place", "turns"] ZG ZA
 ZF:Addr
 Zz:FuncData
 Yt:Md K JX "need_where_south_leads" "Book.need_where_south_leads" Y3 ["self", "place", "turns"] ZF Zz
 JbD:Addr
 Jbc:FuncData
 YS:Md K JX "check_share" "Book.check_share" Jbs ["self", "place", "turns", "north", "ribbon"] JbD Jbc
 Jee:Addr
 Jdm:FuncData
 Jan:Md K JX "winner" "Book.winner" JdV ["self", "place", "turns", "north", "ribbon"] Jee Jdm
 JhX:Addr
 Jhf:FuncData
 JnR:Md K JX "least" "Book.least" Jho ["self", "place", "turns", "ribbon"] JhX Jhf
 Jef:Addr
 Jdn:FuncData
 Jce:Md K JX "bid_of" "Book.bid_of" JdW ["self", "place", "turns", "north", "ribbon"] Jef Jdn
 Jcq:Addr
 JbU:FuncData
 JaU:Md K JX "answer_of" "Book.answer_of" Jci ["self", "place", "turns", "north", "ribbon", "bid"] Jcq JbU
 JbE:Addr
 Jbd:FuncData
 JaC:Md K JX "answer_wins" "Book.answer_wins" Jbt ["self", "place", "turns", "settled", "holder"] JbE Jbd
 Jdp:Addr
 JcU:FuncData
 Z6:Md K JX "step_of" "Book.step_of" Jc7 ["self", "place", "turns", "north", "ribbon", "hand"] Jdp JcU
 Jok:Mk K JX JdA
 YV:YX K JX "board"
 Ja2:YX K JX "coins"
 JdY:YX K JX "turns"
 Jaj:YX K JX "needs"
 Yd:Addr
 Jfz:mg "Moment" = some (.ref Yd)
 Jx:Cls K Yd
 Jca:Addr
 Jdj:FuncData
 Jam:Md K Yd "__init__" "Moment.__init__" JdS ["self", "place", "turns", "north", "south", "ribbon", "hand", "word", "heard"] Jca Jdj
 JdI:Mk K Yd Jca
 YM:YX K Yd "place"
 YL:YX K Yd "turns"
 YN:YX K Yd "north"
 Zx:YX K Yd "south"
 YE:YX K Yd "ribbon"
 Z5:YX K Yd "hand"
 YK:YX K Yd "word"
 Jay:YX K Yd "heard"
 J4:Addr
 JnB:mg "Game" = some (.ref J4)
 JR:Cls K J4
 Jdz:Addr
 Jfk:FuncData
 JdD:Md K J4 "__init__" "Game.__init__" Jf2 ["self", "board", "place", "turns", "north", "south", "ribbon"] Jdz Jfk
 JcW:Addr
 Jcm:FuncData
 ZU:Md K J4 "standing" "Game.standing" JcG ["self"] JcW Jcm
 Jg0:Addr
 Jf9:FuncData
 JaB:Md K J4 "due" "Game.due" JgN ["self"] Jg0 Jf9
 Jfq:Addr
 Jd2:FuncData
 JaN:Md K J4 "named" "Game.named" JeY ["self"] Jfq Jd2
 Jfs:Addr
 Jd4:FuncData
 JaO:Md K J4 "deeds" "Game.deeds" Je0 ["self"] Jfs Jd4
 Jgf:Addr
 Jfj:FuncData
 Z3:Md K J4 "over" "Game.over" Jf1 ["self"] Jgf Jfj
 Jec:Addr
 Jdk:FuncData
 Jcc:Md K J4 "winner" "Game.winner" JdT ["self"] Jec Jdk
 Jgd:Addr
 Jfh:FuncData
 Ja8:Md K J4 "told" "Game.told" JfZ ["self"] Jgd Jfh
 Jcp:Addr
 JbT:FuncData
 Y9:Md K J4 "check_due" "Game.check_due" Jch ["self", "hand", "word"] Jcp JbT
 Jfr:Addr
 Jd3:FuncData
 ZQ:Md K J4 "go_on" "Game.go_on" JeZ ["self", "deed", "moment"] Jfr Jd3
 Jg1:Addr
 Jga:FuncData
 Jeu:Md K J4 "bid" "Game.bid" JgO ["self", "hand", "coins"] Jg1 Jga
 Jed:Addr
 Jdl:FuncData
 Jcd:Md K J4 "answer" "Game.answer" JdU ["self", "hand", "coins"] Jed Jdl
 Jge:Addr
 Jfi:FuncData
 JdC:Md K J4 "step" "Game.step" Jf0 ["self", "hand", "place"] Jge Jfi
 Jgg:Addr
 Jfl:FuncData
 JdE:Md K J4 "back" "Game.back" Jf3 ["self"] Jgg Jfl
 JkM:Mk K J4 Jdz
 Ja1:YX K J4 "board"
 Jfa:YX K J4 "book"
 JaI:YX K J4 "done"
 Yq:YX K J4 "moments"
 JU:Addr
 JoB:mg "Board" = some (.ref JU)
 YU:Cls K JU
 JcY:Addr
 Jd6:FuncData
 JfF:Md K JU "__init__" "Board.__init__" Je1 ["self", "places", "lanes", "goals"] JcY Jd6
 Jbe:Addr
 JaS:FuncData
 Yg:Md K JU "check_place" "Board.check_place" Jba ["self", "place"] Jbe JaS
 Jft:Addr
 Jd5:FuncData
 YY:Md K JU "ways" "Board.ways" JcH ["self", "place"] Jft Jd5
 JcX:Addr
 Jcn:FuncData
 Jbm:Md K JU "is_goal" "Board.is_goal" JcI ["self", "place"] JcX Jcn
 Jm7:Mk K JU JcY
 Jbj:YX K JU "places"
 Jdb:YX K JU "lanes"
 Jdc:YX K JU "goals"
 Jkc:ExC K Zr
 Jei:ExC K Ym
 JlV:ExC K JaD
 JlT:ExC K JaR
 JlU:ExC K Jdd
 Yp:ExC K J1
 JgD:PySem.W.exmOne K (.ref J1) (.ref JcQ)=some true
 JgA:PySem.W.kitOne K (.ref J1) (.type "ValueError")=some true
 Jb2:PySem.W.kitOne K (.ref J1) (.ref JfN)=some false
 Jb3:PySem.W.kitOne K (.ref J1) (.ref Zr)=some false
 Jbk:PySem.W.kitOne K (.ref J1) (.ref Ym)=some false
 JcO:PySem.W.kitOne K (.ref J1) (.ref Jik)=some false
 Jb0:PySem.W.kitOne K (.ref J1) (.ref Y8)=some false
 JcA:PySem.W.kitOne K (.ref J1) (.ref JaD)=some false
 Jcz:PySem.W.kitOne K (.ref J1) (.ref Jdd)=some false
 Jcy:PySem.W.kitOne K (.ref J1) (.ref JaR)=some false
 Ja3:PySem.W.kitOne K (.ref J1) (.ref J1)=some true
 JcP:PySem.W.kitOne K (.ref J1) (.ref JkO)=some false
 Jc3:PySem.W.kitOne K (.ref J1) (.ref Jnb)=some false
 Jb1:PySem.W.kitOne K (.ref J1) (.ref JhN)=some false
 Jsx:ExC K Jik
 Jkb:ExC K Y8
 JpE:ExC K JfN
def hs:Bool→Str
 | true => "north"
 | false => "south"
theorem JhQ (b:Bool):decide (V.str (hs b)=V.str "north")=b:=by cases b <;> decide +kernel
def Y1 (ns:List Int) (k:Int):Int:=if k < ns.length then ns.getD k.toNat 0 else 0
def YQ (z:Str):Prop:=z.length≤1000∧∀ c∈z.cps.toList,c < 16 ^ 8
theorem JfG {z:Str} (h:YQ z):(reprText z).length≤10002:=Nat.le_trans (PySem.StrLaws.reprText_len z h.2) (by have:=h.1; omega)
def JsD (z:Str):Bool:=decide (z.length≤1000) && z.cps.toList.all fun c=>decide (c < 16 ^ 8)
theorem JsZ {z:Str} (h:JsD z=true):YQ z:=by
 unfold JsD at h;rw [Bool.and_eq_true] at h;exact ⟨of_decide_eq_true h.1,fun c hc=>of_decide_eq_true (List.all_eq_true.mp h.2 c hc)⟩
def JaA (z:Str):Bool:=z == "north" || z == "south"
theorem Zk (b:Bool):JaA (hs b)=true:=by cases b <;> decide +kernel
theorem JeG {z:Str} (h:JaA z=true):∃ b,z=hs b:=by
 unfold JaA at h;rcases Bool.or_eq_true_iff.mp h with q | q
 ·exact ⟨true,beq_iff_eq.mp q⟩
 ·exact ⟨false,beq_iff_eq.mp q⟩
theorem JqB (z:Str):inV (.str z) [.str "north",.str "south"]=JaA z:=by
 have h:∀ a b:Str,(a == b)=(b == a):=fun a b=>by rw [Bool.eq_iff_iff,beq_iff_eq,beq_iff_eq]; exact eq_comm
 show ((("north" : Str) == z) || ((("south" : Str) == z) || false))=(z == "north" || z == "south")
 rw [Bool.or_false,h "north" z,h "south" z]
theorem Zp (b:Bool):YQ (hs b):=JsZ (by cases b <;> decide +kernel)
theorem lt1 (a b:Nat):decide ([a] < [b])=decide (a < b):=by
 rw [Bool.eq_iff_iff,decide_eq_true_eq,decide_eq_true_eq];constructor
 ·intro h;cases h with
  | rel h=>exact h
  | cons h=>cases h
 ·exact fun h=>.rel h
def Jap (c:Nat):Bool:=decide (97≤c) && decide (c≤122)
def ZY (z:Str):Bool:=decide (1≤z.length) && decide (z.length≤6) && z.cps.toList.all Jap
theorem Jng {z:Str} (h:ZY z=true):tm 6 z:=by
 unfold ZY at h;rw [Bool.and_eq_true,Bool.and_eq_true,decide_eq_true_eq,decide_eq_true_eq] at h;refine ⟨h.1.2,fun c hc=>?_⟩;have z:=List.all_eq_true.mp h.2 c hc;unfold Jap at z;rw [Bool.and_eq_true,decide_eq_true_eq,decide_eq_true_eq] at z;have:c≤122:=z.2;omega
theorem Zc {z:Str} (h:ZY z=true):YQ z:=(Jng h).mono (by decide)
structure Jdt (ps:List Str) (zs:List (Str×Str)) (gs:List Str):Prop where
 p1:1≤ps.length
 p2:ps.length≤12
 p3:∀ p∈ps,ZY p=true
 p4:ps.Nodup
 l1:zs.length≤40
 l2:∀ z∈zs,z.1∈ps∧z.2∈ps
 l3:zs.Nodup
 g1:∀ g∈gs,g∈ps
 g2:gs.Nodup
theorem Jdt.glen {ps:List Str} {zs:List (Str×Str)} {gs:List Str} (G:Jdt ps zs gs):gs.length≤12:=by
 have:∀ {l r:List Str},l.Nodup→(∀ x∈l,x∈r)→l.length≤r.length:=by
  intro l
  induction l with
  | nil=>exact fun _ _=>Nat.zero_le _
  | cons x l ih =>
   intro r hn hs
   classical
   have hx:=hs x (List.mem_cons_self ..);have h1:=List.nodup_cons.mp hn;obtain ⟨r1,r2,rfl⟩:=List.append_of_mem hx;have z:=ih (r:=r1 ++ r2) h1.2 fun y hy=>by
    have:=hs y (List.mem_cons_of_mem _ hy);simp only [List.mem_append,List.mem_cons] at this ⊢;rcases this with q | q | q
    ·exact .inl q
    ·subst q; exact absurd hy h1.1
    ·exact .inr q
   simp only [List.length_append,List.length_cons] at z ⊢;omega
 exact Nat.le_trans (this G.g2 G.g1) G.p2
theorem Jfd (z:Str) (ps:List Str):inV (.str z) (ps.map V.str)=decide (z∈ps):=by
 rw [Bool.eq_iff_iff,decide_eq_true_eq];unfold inV;rw [List.any_eq_true];constructor
 ·rintro ⟨v,hv,e⟩;obtain ⟨y,hy,rfl⟩:=List.mem_map.mp hv;have e':(y == z)=true:=e;rw [← beq_iff_eq.mp e'];exact hy
 ·intro h;exact ⟨.str z,List.mem_map.mpr ⟨z,h,rfl⟩,beq_iff_eq.mpr rfl⟩
theorem JdK (ps:List Str):(ps.map V.str).all JbL=true:=by
 rw [List.all_map,List.all_eq_true];exact fun _ _=>rfl
def JiV (p:Str×Str):List J5:=[.inr p.1,.inr p.2]
theorem JrS {p q:Str×Str} (h:JiV p=JiV q):p=q:=by
 unfold JiV at h;simp only [List.cons.injEq,Sum.inr.injEq,and_true] at h;exact Prod.ext h.1 h.2
theorem JnW {zs:List (Str×Str)} (h:zs.Nodup):(zs.map JiV).Nodup:=by
 rw [List.Nodup,List.pairwise_map];exact List.Pairwise.imp (fun hne e=>hne (JrS e)) h
theorem JjJ {K:PySem.W.Frag} {H:Hp} {zs:List (V×(Str×Str))} (h:ZC K H zs):JgG K H (zs.map (·.1)) ((zs.map (·.2)).map JiV):=by
 refine ⟨by simp,fun i v ks hv hk=>?_⟩;rw [List.getElem?_map] at hv;obtain ⟨z,hz,rfl⟩:=Option.map_eq_some_iff.mp hv;rw [List.getElem?_map,List.getElem?_map,hz] at hk;have hk':JiV z.2=ks:=Option.some.inj hk;rw [← hk'];exact h z (List.mem_of_getElem? hz)
theorem Zn {K:PySem.W.Frag} {H H':Hp} {zs:List (V×(Str×Str))} (h:ZC K H zs) (e:Jf H H'):ZC K H' zs:=fun z hz=>let ⟨a,h1,h2⟩:=h z hz; ⟨a,h1,e.tup h2⟩
def JbN (K:PySem.W.Frag) (C:Addr) (H:Hp) (b:Addr) (ps:List Str) (zs:List (V×(Str×Str))) (gs:List Str):Prop :=
 ∃ dx tp tl tg,H b=some (.ins C dx [("places",.ref tp),("lanes",.ref tl),("goals",.ref tg)])∧H tp=some (.tup (ps.map V.str))∧H tl=some (.tup (zs.map (·.1)))∧ZC K H zs∧H tg=some (.tup (gs.map V.str))
theorem JbN.same {K:PySem.W.Frag} {C:Addr} {H H':Hp} {b:Addr} {ps:List Str} {zs:List (V×(Str×Str))} {gs:List Str} (h:JbN K C H b ps zs gs) (e:Jf H H'):JbN K C H' b ps zs gs :=
 let ⟨dx,tp,tl,tg,h1,h2,h3,h4,h5⟩:=h; ⟨dx,tp,tl,tg,e _ _ h1,e _ _ h2,e _ _ h3,Zn h4 e,e _ _ h5⟩
def Y2 (b:Addr) (H H':Hp):Prop:=∀ a u,a≠b→H a=some u→H' a=some u
theorem Y2.of {b:Addr} {H H':Hp} (e:Jf H H'):Y2 b H H':=fun a u _ h=>e a u h
theorem Y2.trans {b:Addr} {H H' H2:Hp} (e:Y2 b H H') (e2:Y2 b H' H2):Y2 b H H2:=fun a u hn h=>e2 a u hn (e a u hn h)
theorem Y2.put {b:Addr} {H:Hp} {o:HO}:Y2 b H (upd H b o):=fun a u hn h=>by rw [JD hn]; exact h
theorem Y2.seq {K:PySem.W.Frag} {b l C dx:Addr} {fs:List (Str×V)} {H H':Hp} {xs:List V} (e:Y2 b H H') (hb:H b=some (.ins C dx fs)) (h:JA K H l xs):JA K H' l xs:=by
 rcases h with (h | ⟨o,h⟩) | h
 ·exact .inl (.inl (e _ _ (Jax h hb (fun z=>nomatch z)) h))
 ·exact .inl (.inr ⟨o,e _ _ (Jax h hb (fun z=>nomatch z)) h⟩)
 ·exact .inr h
theorem Y2.tup {K:PySem.W.Frag} {b l C dx:Addr} {fs:List (Str×V)} {H H':Hp} {xs:List V} (e:Y2 b H H') (hb:H b=some (.ins C dx fs)) (h:JH K H l xs):JH K H' l xs:=by
 rcases h with (h | ⟨o,h⟩) | h
 ·exact .inl (.inl (e _ _ (Jax h hb (fun z=>nomatch z)) h))
 ·exact .inl (.inr ⟨o,e _ _ (Jax h hb (fun z=>nomatch z)) h⟩)
 ·exact .inr h
def Jtf:Sp:=fun vs H Q _=>∃ z:Str,vs=[.str z]∧z.length≤1000∧∀ H',Jf H H'→Q (.bl (ZY z)) H'
def Js7 (K:PySem.W.Frag):Sp:=fun vs H Q _=>∃ l:Addr,vs=[.ref l]∧((∃ ss:List Str,JA K H l (ss.map V.str)∧ss.length≤64∧ss.Nodup)∨(∃ (us:List V) (kss:List (List J5)),JA K H l us∧JgG K H us kss∧kss.length≤64∧kss.Nodup))∧∀ H',Jf H H'→Q .non H'
def Jrx (K:PySem.W.Frag) (k:Addr):Sp:=fun vs H Q E=>∃ (z:Str) (t:Addr) (ps:List Str),vs=[.str z,.ref t]∧YQ z∧(JA K H t (ps.map V.str)∨JH K H t (ps.map V.str))∧(z∈ps→Q .non H)∧(z∉ps→E (.ref k) none H)
def JoP (K:PySem.W.Frag):Sp:=fun vs H Q _=>∃ (l:Addr) (ps:List Str),vs=[.ref l]∧JA K H l (ps.map V.str)∧1≤ps.length∧ps.length≤12∧(∀ p∈ps,ZY p=true)∧ps.Nodup∧∀ H',Jf H H'→Q .non H'
def Jp3 (K:PySem.W.Frag):Sp:=fun vs H Q _=>∃ (l lp:Addr) (zs:List (V×(Str×Str))) (ps:List Str),vs=[.ref l,.ref lp]∧JA K H l (zs.map (·.1))∧ZC K H zs∧JA K H lp (ps.map V.str)∧(∀ p∈ps,YQ p)∧zs.length≤40∧(∀ z∈zs,z.2.1∈ps∧z.2.2∈ps)∧(zs.map (·.2)).Nodup∧∀ H',Jf H H'→Q .non H'
def Jp4 (K:PySem.W.Frag):Sp:=fun vs H Q _=>∃ (l lp:Addr) (gs ps:List Str),vs=[.ref l,.ref lp]∧JA K H l (gs.map V.str)∧JA K H lp (ps.map V.str)∧(∀ p∈ps,YQ p)∧gs.length≤64∧(∀ g∈gs,g∈ps)∧gs.Nodup∧∀ H',Jf H H'→Q .non H'
def Jn7 (K:PySem.W.Frag) (C:Addr):Sp:=fun vs H Q _=>∃ (b lp ll lg dx:Addr) (ps:List Str) (zs:List (V×(Str×Str))) (gs:List Str),vs=[.ref b,.ref lp,.ref ll,.ref lg]∧H b=some (.ins C dx [])∧JA K H lp (ps.map V.str)∧JA K H ll (zs.map (·.1))∧ZC K H zs∧JA K H lg (gs.map V.str)∧Jdt ps (zs.map (·.2)) gs ∧
 ∀ H' ps' zs' gs',Y2 b H H'→ps'.Perm ps→ps'.Pairwise sle→zs'.Perm zs→(zs'.map (·.2)).Pairwise ple→gs'.Perm gs→gs'.Pairwise sle→JbN K C H' b ps' zs' gs'→Q .non H'
def Jp2 (K:PySem.W.Frag) (C k:Addr):Sp:=fun vs H Q E=>∃ (b:Addr) (z:Str) (ps:List Str) (zs:List (V×(Str×Str))) (gs:List Str),vs=[.ref b,.str z]∧YQ z∧JbN K C H b ps zs gs∧(z∈ps→Q .non H)∧(z∉ps→E (.ref k) none H)
def JB (zs:List (Str×Str)) (p:Str):List Str:=(zs.filter fun z=>decide (z.1=p)).map (·.2)
def Js2 (K:PySem.W.Frag) (C k:Addr):Sp:=fun vs H Q E=>∃ (b:Addr) (z:Str) (ps:List Str) (zs:List (V×(Str×Str))) (gs:List Str),vs=[.ref b,.str z]∧YQ z∧zs.length≤40∧JbN K C H b ps zs gs∧(z∈ps→∀ t H',Jf H H'→H' t=some (.tup ((JB (zs.map (·.2)) z).map V.str))→Q (.ref t) H')∧(z∉ps→E (.ref k) none H)
def JpW (K:PySem.W.Frag) (C k:Addr):Sp:=fun vs H Q E=>∃ (b:Addr) (z:Str) (ps:List Str) (zs:List (V×(Str×Str))) (gs:List Str),vs=[.ref b,.str z]∧YQ z∧JbN K C H b ps zs gs∧(z∈ps→Q (.bl (decide (z∈gs))) H)∧(z∉ps→E (.ref k) none H)
def Jvg (K:PySem.W.Frag):Sp:=fun vs H Q _=>∃ (a:Addr) (ns:List Int) (k:Int),vs=[.ref a,.int k]∧JA K H a (ns.map V.int)∧0≤k∧Q (.int (Y1 ns k)) H
def JoQ (K:PySem.W.Frag):Sp:=fun vs H Q _=>∃ (a:Addr) (ns:List Int),vs=[.ref a]∧JA K H a (ns.map V.int)∧ns.length≤63∧∀ H',Q (.bl true) H'
def Jub:Sp:=fun vs H Q _=>∃ (c:Int) (n:Nat) (b:Int),vs=[.int c,.int n,.int b]∧n≤1000∧0 < b∧b < 1000000∧∀ (p:Addr) (xs:List Int) (H':Hp),H p=none→Jf H H'→H' p=some (.lst (xs.map V.int))→xs.length=n→(∀ x∈xs,0≤x∧x < b)→Q (.ref p) H'
theorem JhA {α:Type}:∀ {l r:List α},l.Nodup→(∀ x∈l,x∈r)→l.length≤r.length
 | [],_,_,_=>Nat.zero_le _
 | x :: l,r,hn,hs=>by
  have hx:=hs x (List.mem_cons_self ..);have h1:=List.nodup_cons.mp hn;obtain ⟨r1,r2,rfl⟩:=List.append_of_mem hx;have z:=JhA (l:=l) (r:=r1 ++ r2) h1.2 fun y hy=>by
   have:=hs y (List.mem_cons_of_mem _ hy);simp only [List.mem_append,List.mem_cons] at this ⊢;rcases this with q | q | q
   ·exact .inl q
   ·subst q; exact absurd hy h1.1
   ·exact .inr q
  simp only [List.length_append,List.length_cons] at z ⊢;omega
theorem JcB {xs:List Int} {e:Int} (h0:0≤e) (h1:e < xs.length):∃ y,atI (xs.map V.int) e=some (.int y)∧y∈xs:=by
 obtain ⟨j,rfl⟩:∃ j:Nat,e=(j:Int):=⟨e.toNat,by omega⟩
 have hj:j < xs.length:=by omega
 exact ⟨xs[j],Zt (by rw [List.getElem?_map,List.getElem?_eq_getElem hj]; rfl),List.getElem_mem hj⟩
def LT:Str := "abcdefghijklmnopqrstuvwxyz"
theorem JlB {j:Int} (h0:0≤j) (h1:j < 26):atI LT.cps.toList j=some (97 + j.toNat):=by
 obtain ⟨i,rfl⟩:∃ i:Nat,j=(i:Int):=⟨j.toNat,by omega⟩
 have hi:i < 26:=by omega
 refine Zt ?_;rw [Int.toNat_natCast];have z:∀ i,i < 26→LT.cps.toList[i]?=some (97 + i):=by decide +kernel
 exact z i hi
theorem Jq5:LT.length≤sizeLine:=by decide +kernel
theorem Jmu {j:Nat} (h:j < 26):Jap (97 + j)=true:=by
 unfold Jap;rw [decide_eq_true (by omega),decide_eq_true (by omega)]; rfl
theorem JjU:∀ {ys:List Str},(∀ y∈ys,∃ c,y=⟨#[c]⟩∧Jap c=true)→(Str.join Str.empty ys).length=ys.length∧∀ c∈(Str.join Str.empty ys).cps.toList,Jap c=true
 | [],_=>⟨rfl,fun c hc=>by simp [Str.join,Str.empty] at hc⟩
 | [y],h=>by
  obtain ⟨c,rfl,hc⟩:=h y (List.mem_cons_self ..);exact ⟨rfl,fun d hd=>by
   have e:d=c:=by simpa [Str.join] using hd
   rw [e]; exact hc⟩
 | y :: x :: r,h=>by
  obtain ⟨c,rfl,hc⟩:=h y (List.mem_cons_self ..);obtain ⟨a,b⟩:=JjU (ys:=x :: r) fun q hq=>h q (List.mem_cons_of_mem _ hq)
  have e:Str.join Str.empty (⟨#[c]⟩ :: x :: r)=(⟨#[c]⟩:Str) ++ Str.empty ++ Str.join Str.empty (x :: r):=rfl;rw [e];refine ⟨?_,fun d hd=>?_⟩
  ·rw [strLen_append,strLen_append,a];simp only [List.length_cons];show 1 + 0 + _=_;omega
  ·rcases PyProof.Rows.mem_cps_append.mp hd with q | q
   ·rcases PyProof.Rows.mem_cps_append.mp q with q | q
    ·have e2:d=c:=by simpa using q
     rw [e2]; exact hc
    ·simp [Str.empty] at q
   ·exact b d q
def nam (hd:Str) (j:Nat):Str:=hd ++ ⟨#[97 + j]⟩
theorem Jr3 {hd:Str} {j:Nat} (h1:hd.length≤5) (h2:∀ c∈hd.cps.toList,Jap c=true) (hj:j < 26):ZY (nam hd j)=true:=by
 unfold ZY nam;have e:(hd ++ (⟨#[97 + j]⟩:Str)).length=hd.length + 1:=by rw [strLen_append]; rfl
 rw [Bool.and_eq_true,Bool.and_eq_true,decide_eq_true_eq,decide_eq_true_eq,e,List.all_eq_true];refine ⟨⟨by omega,by omega⟩,fun c hc=>?_⟩;rcases PyProof.Rows.mem_cps_append.mp hc with q | q
 ·exact h2 c q
 ·have e2:c=97 + j:=by simpa using q
  rw [e2]; exact Jmu hj
theorem JtK {hd:Str} {i j:Nat} (h:nam hd i=nam hd j):i=j:=by
 have e:(hd.cps ++ #[97 + i])=(hd.cps ++ #[97 + j]):=congrArg Str.cps h;have e2:=congrArg Array.toList e;rw [Array.toList_append,Array.toList_append] at e2;have e3:=List.append_cancel_left e2;simp at e3;omega
theorem Jr4 {hd:Str} {x:Int} {ss:List Str} (h:ss.length < 26) (hx:∀ m:Nat,m < 26→nam hd ((x + m) % 26).toNat∈ss):False:=by
 have nd:((List.range 26).map fun m=>nam hd ((x + (m:Nat)) % 26).toNat).Nodup:=by
  rw [List.Nodup,List.pairwise_map];refine List.Pairwise.imp_of_mem ?_ (List.pairwise_lt_range (n:=26));intro a b ha hb hlt e;have e2:=JtK e;have:=List.mem_range.mp ha;have:=List.mem_range.mp hb;have h1:=Int.emod_nonneg (x + (a:Nat)) (b:=26) (by decide);have h2:=Int.emod_nonneg (x + (b:Nat)) (b:=26) (by decide);omega
 have z:=JhA (r:=ss) nd fun y hy=>by
  obtain ⟨m,hm,rfl⟩:=List.mem_map.mp hy;exact hx m (List.mem_range.mp hm)
 rw [List.length_map,List.length_range] at z;omega
theorem Jow {xs:List Int} {k:Int} (h0:0≤k) (h1:k≤xs.length):((ZB (xs.map V.int) none (some k)).length:Int)=k:=by
 unfold ZB;rw [List.length_map,HT.JmL];show ((List.take ((if k < 0 then _ else _) - 0) _).length:Int)=k;rw [if_neg (by omega),List.length_take,List.length_drop,List.length_map];omega
theorem Jg2 {xs:List Int} {lo hi:Option Int}:∃ ys:List Int,ZB (xs.map V.int) lo hi=ys.map V.int∧∀ y∈ys,y∈xs:=by
 refine ⟨(xs.drop (HT.YB xs.length 0 lo)).take (HT.YB xs.length xs.length hi - HT.YB xs.length 0 lo),?_,fun y hy=>List.mem_of_mem_drop (List.mem_of_mem_take hy)⟩;unfold ZB;rw [List.length_map,List.map_take,List.map_drop]
def Jrl:Sp:=fun vs H Q _=>∃ (c:Int) (n:Nat),vs=[.int c,.int n]∧1≤n∧n≤12∧∀ (p:Addr) (ss:List Str) (H':Hp),H p=none→Jf H H'→H' p=some (.lst (ss.map V.str))→ss.length=n→(∀ s∈ss,ZY s=true)→ss.Nodup→Q (.ref p) H'
def Jq6 (K:PySem.W.Frag) (H:Hp) (zs:List (V×(Int×Int))):Prop:=∀ z∈zs,∃ a,z.1=.ref a∧JH K H a [.int z.2.1,.int z.2.2]
def JhP (p:Int×Int):List J5:=[.inl p.1,.inl p.2]
theorem Jsa {p q:Int×Int} (h:JhP p=JhP q):p=q:=by
 unfold JhP at h;simp only [List.cons.injEq,Sum.inl.injEq,and_true] at h;exact Prod.ext h.1 h.2
theorem Jn1 {K:PySem.W.Frag} {H:Hp} {zs:List (V×(Int×Int))} (h:Jq6 K H zs):JgG K H (zs.map (·.1)) ((zs.map (·.2)).map JhP):=by
 refine ⟨by simp,fun i v ks hv hk=>?_⟩;rw [List.getElem?_map] at hv;obtain ⟨z,hz,rfl⟩:=Option.map_eq_some_iff.mp hv;rw [List.getElem?_map,List.getElem?_map,hz] at hk;have hk':JhP z.2=ks:=Option.some.inj hk;rw [← hk'];exact h z (List.mem_of_getElem? hz)
structure PW (K:PySem.W.Frag) (H0:Hp) (pl:Addr) (size:Nat) (H:Hp) (zs:List (V×(Int×Int))):Prop where
 sm:Jf H0 H
 at_:H pl=some (.lst (zs.map (·.1)))
 ip:Jq6 K H zs
 nd:(zs.map (·.2)).Nodup
 rg:∀ z∈zs,(0≤z.2.1∧z.2.1 < size)∧(0≤z.2.2∧z.2.2 < size)
theorem PW.add {K:PySem.W.Frag} {H0:Hp} {pl:Addr} {size:Nat} {H H':Hp} {zs:List (V×(Int×Int))} (h:PW K H0 pl size H zs) (n0:H0 pl=none) (e:Jf H H') {t:Addr} {a b:Int} (ht:H' t=some (.tup [.int a,.int b]))
  (hn:(a,b)∉zs.map (·.2)) (hr:(0≤a∧a < size)∧(0≤b∧b < size)):PW K H0 pl size (upd H' pl (.lst (zs.map (·.1) ++ [.ref t]))) (zs ++ [(.ref t,(a,b))]):=by
 have hp':=e _ _ h.at_;have tup:∀ {a:Addr} {xs:List V},JH K H' a xs→JH K (upd H' pl (.lst (zs.map (·.1) ++ [.ref t]))) a xs:=fun {a xs} q=>by
  rcases q with (q | ⟨o,q⟩) | q
  ·exact .inl (.inl (by rw [JD (Jax q hp' (fun z=>nomatch z))]; exact q))
  ·exact .inl (.inr ⟨o,by rw [JD (Jax q hp' (fun z=>nomatch z))]; exact q⟩)
  ·exact .inr q
 refine ⟨fun b' u q=>?_,by rw [Jh,List.map_append]; rfl,fun z hz=>?_,?_,fun z hz=>?_⟩
 ·rw [JD (JC q n0)]; exact e _ _ (h.sm _ _ q)
 ·rcases List.mem_append.mp hz with q | q
  ·obtain ⟨c,h1,h2⟩:=h.ip z q;exact ⟨c,h1,tup (e.tup h2)⟩
  ·rw [List.mem_singleton.mp q];exact ⟨t,rfl,tup (JH.of ht)⟩
 ·rw [List.map_append,List.nodup_append];refine ⟨h.nd,by simp,fun x hx y hy q=>?_⟩;have hy':y=(a,b):=by simpa using hy
  rw [q,hy'] at hx;exact hn hx
 ·rcases List.mem_append.mp hz with q | q
  ·exact h.rg z q
  ·rw [List.mem_singleton.mp q]; exact hr
def Jri (K:PySem.W.Frag):Sp:=fun vs H Q _=>∃ (c d:Int) (n:Nat),vs=[.int c,.int d,.int n]∧1≤n∧n≤12∧∀ (p:Addr) (zs:List (V×(Int×Int))) (H':Hp),H p=none→PW K H p n H' zs→zs.length≤40→Q (.ref p) H'
section
variable {P:Program} {w:World} {K:PySem.W.Frag} {mg:Str→Option Value} {base:Heap}
theorem ZH (T:Txt K mg):JM P w K mg base Yy 1 T.Jsh T.Jpl ["_law_script", "_law_k"] (Jvg K):=by
 refine T.Z0.F.ok Jvi (fun vs H Q E h=>?_) (fun cdv A outer s H vs Q E hr h=>?_)
 ·obtain ⟨a,ns,k,rfl,_⟩:=h;rfl
 ·obtain ⟨a,ns,k,rfl,hS,h0,q⟩:=h;refine ⟨_,(Xh (Xl (Xo (@Jeq _) (Xa 1) (Xe (@JZ _) T.Y5 PySem.boot_len (Xc (Xa 0) (Xv 0))) (JJ _)) (Xn (Xq (Xf (Xac 0) (Xa 0) (Xa 1)))) (XO 0)) (Xn (Xq (Xj 0)))),?_⟩;change let Bq1:=_; Jl _ Bq1 _ _ _;intro Bq1;refine ⟨_,rfl,_,rfl,a,_,rfl,.inl hS,_,_,rfl,rfl,_,rfl,?_⟩;rw [List.length_map];refine YW (fun c=>?_) (fun c=>?_)
  ·have c':k < ns.length:=of_decide_eq_true c;refine ⟨_,rfl,_,rfl,a,_,k,.int (Y1 ns k),rfl,rfl,hS,?_,q⟩;obtain ⟨j,rfl⟩:∃ j:Nat,k=(j:Int):=⟨k.toNat,by omega⟩
   have hj:j < ns.length:=by omega
   refine Zt ?_;rw [List.getElem?_map];unfold Y1;rw [if_pos c',Int.toNat_natCast,List.getD_eq_getElem?_getD,List.getElem?_eq_getElem hj];rfl
  ·have c':¬ k < ns.length:=fun z=>c (decide_eq_true z)
   have e:Y1 ns k=0:=by unfold Y1; rw [if_neg c']
   rw [e] at q;exact q
theorem Jhw (T:Txt K mg):JM P w K mg base Yy 1 T.Jpp T.Jnj ["_law_cell", "_law_many", "_law_base"] Jub:=by
 refine T.Jg6.F.ok JeO (fun vs H Q E h=>?_) (fun cdv A outer s H vs Q E hr h=>?_)
 ·obtain ⟨_,_,_,rfl,_⟩:=h;rfl
 ·obtain ⟨c,n,b,rfl,hn,hb0,hb1,q⟩:=h;refine ⟨_,(Xh (Xd 3 JeO.nd (Xi (@YJ _) (Xa 0) (Xj 0))) (Xh (Xd 4 JeO.nd (Xi (X7 0) (Xa 0) (Xj 0))) (Xh (Xd 5 JeO.nd (XX (Xv 0))) (Xh (Xy PassesOwn.never (XJ T.ZD (Xc (Xa 1) (Xv 0))) (Xk 6 JeO.nd) (Xh (Xd 4 JeO.nd (Xi (X7 0) (Xi (X8 0) (Xi (X8 0) (Xi (@Jau _) (Xa 4) (Xj 0)) (Xi (@Jau _) (Xj 0) (Xa 6))) (Xj 0)) (Xj 0))) (Xh (Xl (Xo (Xab 0) (Xi (X7 0) (Xa 0) (Xj 0)) (Xj 0) (JJ _)) (Xn (Xr (Xs PySem.F.plainAttrs_list PySem.F.slot_list_append PySem.F.type_list_append (@YH _) (Xa 5) (Xc (Xi (X7 0) (Xa 3) (Xa 2)) (Xv 0))))) (Xn (Xr (Xs PySem.F.plainAttrs_list PySem.F.slot_list_append PySem.F.type_list_append (@YH _) (Xa 5) (Xc (Xi (X7 0) (Xi (X8 0) (Xi (@YJ _) (Xa 4) (Xj 0)) (Xi (X7 0) (Xi (@Jau _) (Xa 4) (Xj 0)) (Xj 0))) (Xa 2)) (Xv 0)))))) (Xn (Xd 3 JeO.nd (Xi (@YJ _) (Xa 3) (Xa 2)))))) (by intro _; rfl)) (Xn (Xq (Xa 5))))))),?_⟩
  try dsimp only [cxK,Jcr]
  change let Bq1:=_; let Bq2:=_; let Bq3:=Jl _ Bq2; let Bq4:=(Jl _ Bq3); let Bq5:=Jl (Jc4 _ _ Bq4) Bq1; let Bq6:=Jl _ Bq5; let Bq7:=Jl _ Bq6; Jl _ Bq7 _ _ _;intro Bq1 Bq2 Bq3 Bq4 Bq5 Bq6 Bq7;refine ⟨_,rfl,_,_,rfl,rfl,⟨by decide,by decide⟩,_,rfl,_,_,rfl,rfl,(by show (0:Int) < 2147483647; decide),by show 0≤sizeLine; decide,fun p hp=>?_⟩;have hs0:n < sizeLine:=Nat.lt_of_le_of_lt hn (by decide);refine ⟨_,rfl,(n:Int),rfl,by omega,by omega,?_⟩;let Pq:Nat→St→Hp→Prop:=fun i σ H2=>∃ (r m:Int) (xs:List Int) (v:Option V),Jf H H2∧H2 p=some (.lst (xs.map V.int))∧xs.length=i∧(∀ x∈xs,0≤x∧x < b)∧σ=[some (.int c),some (.int n),some (.int b),some (.int r),some (.int m),some (.ref p),v]
  refine Zs (n:=n) Pq
   ⟨_,_,[],none,Jf.upd hp,Jh,rfl,(fun x hx=>nomatch hx),rfl⟩ ?_ ?_
  ·rintro i σ H2 hi ⟨r,m,xs,v,e,hx,hl,hr,rfl⟩;have add:∀ x:Int,0≤x∧x < b→Jf H (upd H2 p (.lst (xs.map V.int ++ [.int x])))∧upd H2 p (.lst (xs.map V.int ++ [.int x])) p=some (.lst ((xs ++ [x]).map V.int))∧(xs ++ [x]).length=i + 1∧∀ y∈xs ++ [x],0≤y∧y < b:=fun x h=>by
    refine ⟨fun b' u q=>?_,by rw [Jh,List.map_append]; rfl,by simp [hl],fun y hy=>?_⟩
    ·rw [JD (JC q hp)]; exact e b' u q
    ·rcases List.mem_append.mp hy with z | z
     ·exact hr y z
     ·rw [List.mem_singleton.mp z]; exact h
   refine ⟨_,rfl,_,_,rfl,rfl,.inr ⟨by decide,by decide⟩,_,rfl,_,_,rfl,rfl,.inl ⟨by decide,by decide⟩,_,_,rfl,rfl,_,_,rfl,rfl,_,_,rfl,rfl,(by show (0:Int) < 2147483647; decide),?_⟩;have hxl:(xs.map V.int).length < sizeLine:=by rw [List.length_map]; omega
   refine ⟨_,rfl,_,_,rfl,rfl,(by show (0:Int) < 2; decide),rfl,_,rfl,YW (fun _=>?_) (fun _=>?_)⟩
   ·refine ⟨_,rfl,.inl ⟨rfl,_,JA.of hx⟩,_,rfl,_,rfl,_,_,rfl,rfl,hb0,p,_,_,rfl,rfl,hx,hxl,?_⟩;refine ⟨_,rfl,_,rfl,_,_,rfl,rfl,⟨hb0,by show b < 1073741824; omega⟩,?_⟩;obtain ⟨a1,a2,a3,a4⟩:=add (r % b) ⟨Int.emod_nonneg _ (by omega),Int.emod_lt_of_pos _ hb0⟩;exact ⟨_,_,xs ++ [r % b],_,a1,a2,a3,a4,rfl⟩
   ·refine ⟨_,rfl,.inl ⟨rfl,_,JA.of hx⟩,_,rfl,_,_,rfl,rfl,⟨by decide,by decide⟩,_,rfl,_,_,rfl,rfl,.inr ⟨by decide,by decide⟩,_,_,rfl,rfl,(by show (0:Int) < 2147483647; decide),_,_,rfl,rfl,_,rfl,_,_,rfl,rfl,hb0,p,_,_,rfl,rfl,hx,hxl,?_⟩;refine ⟨_,rfl,_,rfl,_,_,rfl,rfl,⟨hb0,by show b < 1073741824; omega⟩,?_⟩;obtain ⟨a1,a2,a3,a4⟩:=add (((m * 48271 + 7 * (0 + (i:Int)) + 11) % 2147483647 / 8 + (m * 48271 + 7 * (0 + (i:Int)) + 11) % 2147483647 * 69621 % 2147483647) % b) ⟨Int.emod_nonneg _ (by omega),Int.emod_lt_of_pos _ hb0⟩;exact ⟨_,_,_,_,a1,a2,a3,a4,rfl⟩
  ·rintro σ H2 ⟨r,m,xs,v,e,hx,hl,hr,rfl⟩;exact ⟨_,rfl,q p xs H2 hp e hx hl hr⟩
theorem Jm0 (T:Txt K mg):JM P w K mg base Yy 1 T.Jgb T.Jff ["text"] Jtf:=by
 refine T.Jgi.F.ok Jmw (fun vs H Q E h=>?_) (fun cdv A outer s H vs Q E hr h=>?_)
 ·obtain ⟨_,rfl,_⟩:=h;rfl
 ·obtain ⟨z,rfl,hz,q⟩:=h;have hzl:z.length≤sizeLine:=Nat.le_trans hz (by decide);refine ⟨_,(@Jd _ _ _ _ _ (@JI _ _ _ _ _ _ _ _ (@PW.pt _ _ _ (@Jad _ _ _ _ _ _ _ (@Jy _ _ _ _ _ _ _ _ (@Jeq _) (@JF _ _ _ _ _ _ _ _ _ (@Jh2 _) rfl T.Y5 PySem.boot_len (@Ja _ _ _ _ _ (@pv _ 0 _ _ rfl (.inl rfl) rfl rfl) (@Jb _) rfl) (by decide) (by decide) rfl rfl) (@Je _ _ _ _) (JJ _)) (@ZP _ _ _ _ (@Jy _ _ _ _ _ _ _ _ (@Jer _) (@JF _ _ _ _ _ _ _ _ _ (@Jh2 _) rfl T.Y5 PySem.boot_len (@Ja _ _ _ _ _ (@pv _ 0 _ _ rfl (.inl rfl) rfl rfl) (@Jb _) rfl) (by decide) (by decide) rfl rfl) (@Ja6 _ _ _ _ _ rfl T.JcR T.JcJ (by decide)) (JJ _))))) (@Jg _ _ _ (@Jo _ _ _ _ (@ZN _ _ _ _))) (@Jr _)) (@Jg _ _ _ (@Jo _ _ _ _ (@JF _ _ _ _ _ _ _ _ _ (@Jst _ rfl) rfl T.JsN PyProof.Rows.boot_all (@Ja _ _ _ _ _ (@JgR _ _ _ _ _ _ _ 1 ["sign"] [] _ _ _ _ ["text"] ((Jn Jdw).names) (by decide +kernel) (@Juw _ _ _ _ (@pv _ 0 _ _ rfl (.inl rfl) rfl rfl)) (fun _ _ _ _=>(@JaX _ _ _ _ _ _ _ _ _ 0 (by decide +kernel) rfl rfl)) (fun _ _ _ _=>(@Jez _)) (fun _ _ _ _=>(@JrV _ _ _ _ _ _ _ _ _ _ _ _ (@Jlu _) (@Jlu _) (@JG _ _ _ _) (@Jaa _ _ _ _ _ _ _ _ _ 0 rfl rfl (by decide) (by decide)) (@JG _ _ _ _) (by with_unfolding_all rfl))) rfl rfl rfl (by intro _; rfl)) (@Jb _) rfl) (by decide) (by decide) rfl rfl)))),?_⟩;change let Bq1:=_; Jl _ Bq1 _ _ _;intro Bq1;refine ⟨_,rfl,z,rfl,hzl,_,_,rfl,rfl,_,rfl,YW (fun c=>YG ?_) (fun c=>?_)⟩
  ·have c':(z.length:Int) < 1:=of_decide_eq_true c;have e:ZY z=false:=by unfold ZY; rw [decide_eq_false (by omega)]; rfl
   rw [← e];exact q H (Jf.refl _)
  refine ⟨_,rfl,z,rfl,hzl,_,_,rfl,rfl,_,rfl,YW (fun d=>?_) (fun d=>?_)⟩
  ·have d':(6:Int) < z.length:=of_decide_eq_true d;have e:ZY z=false:=by unfold ZY; rw [decide_eq_false (p:=z.length≤6) (by omega),Bool.and_false]; rfl
   rw [← e];exact q H (Jf.refl _)
  have c':¬ (z.length:Int) < 1:=fun w=>c (decide_eq_true w)
  have d':¬ (6:Int) < z.length:=fun w=>d (decide_eq_true w)
  have e:ZY z=z.cps.toList.all Jap:=by unfold ZY; rw [decide_eq_true (by omega),decide_eq_true (by omega)]; rfl
  refine ⟨_,rfl,z,rfl,fun D hD=>?_⟩;refine Jmb (fun i v=>∃ c,z.cps[i]?=some c∧v=.bl (Jap c)) rfl hD hzl (fun i c H2 hc e2 Q' hQ=>?_) (fun ys H2 e2 hD2 hl hF=>?_)
  ·refine ⟨_,rfl,_,_,rfl,rfl,_,rfl,?_⟩;have e1:(!decide ([c] < [97]))=decide (97≤c):=by rw [lt1,Bool.eq_iff_iff]; simp
   have e2:(!decide ([122] < [c]))=decide (c≤122):=by rw [lt1,Bool.eq_iff_iff]; simp
   by_cases h1:97≤c
   ·refine YI (e1.trans (decide_eq_true h1)) ⟨_,_,rfl,rfl,?_⟩;refine hQ _ ⟨c,hc,congrArg V.bl (e2.trans ?_)⟩;unfold Jap;rw [decide_eq_true h1]; rfl
   ·refine Yi (e1.trans (decide_eq_false h1)) (hQ _ ⟨c,hc,congrArg V.bl ?_⟩);unfold Jap;rw [decide_eq_false h1]; rfl
  ·have hys:ys=(z.cps.toList.map Jap).map V.bl:=by
    apply List.ext_getElem?;intro i;by_cases hi:i < ys.length
    ·obtain ⟨c,h1,h2⟩:=hF i _ (List.getElem?_eq_getElem hi);rw [List.getElem?_eq_getElem hi,h2,List.getElem?_map,List.getElem?_map,Array.getElem?_toList,h1];rfl
    ·rw [List.getElem?_eq_none (by omega),List.getElem?_eq_none];rw [List.length_map,List.length_map,Array.length_toList];have e9:z.cps.size=z.length:=rfl;omega
   refine ⟨D,z.cps.toList.map Jap,rfl,by rw [← hys]; exact JA.of hD2,?_⟩;have e3:(z.cps.toList.map Jap).all id=ZY z:=by rw [e,List.all_map]; rfl
   rw [e3];exact q H2 e2
theorem Jbw (T:Txt K mg):JM P w K mg base Yy 1 T.JbV T.JbB ["things"] (Js7 K):=by
 refine T.ZX.F.ok Jhj (fun vs H Q E h=>?_) (fun cdv A outer s H vs Q E hr h=>?_)
 ·obtain ⟨_,rfl,_⟩:=h;rfl
 ·obtain ⟨l,rfl,hl,q⟩:=h;refine ⟨_,(Xn (Xl (Xo (@Jeq _) (Xe (@Jn4 _) T.Y5 PySem.boot_len (Xc (Xw (@JqU _ rfl hr.units) T.JsL PyProof.Rows.boot_set (Xc (Xa 0) (Xv 0))) (Xv 0))) (Xe (@JZ _) T.Y5 PySem.boot_len (Xc (Xa 0) (Xv 0))) (JJ _)) (Xn (@JgP _ _)) (XO 0))),?_⟩;rcases hl with ⟨ss,hS,hz,nd⟩ | ⟨us,kss,hS,tt,hz,nd⟩
  ·refine ⟨_,rfl,.inl ⟨l,ss,rfl,hS,hz,fun p hp=>⟨p,_,rfl,Jh,_,rfl,l,_,rfl,.inl ((Jf.upd hp).seq hS),_,_,rfl,rfl,_,rfl,Yi (decide_eq_false ?_) (q _ (Jf.upd hp))⟩⟩⟩;rw [Jj0 nd,List.length_map];exact Int.lt_irrefl _
  ·refine ⟨_,rfl,.inr ⟨l,us,kss,rfl,hS,tt,hz,fun p hp=>⟨p,_,rfl,Jh,_,rfl,l,_,rfl,.inl ((Jf.upd hp).seq hS),_,_,rfl,rfl,_,rfl,Yi (decide_eq_false ?_) (q _ (Jf.upd hp))⟩⟩⟩;rw [Jj0 nd,tt.1];exact Int.lt_irrefl _
theorem JbH (T:Txt K mg):JM P w K mg base (Zg P w) 1 T.Jeb T.Jdi ["place", "places"] (Jrx K T.Y8):=by
 refine T.Jal.F.ok1 Jks (fun vs H Q E h=>?_) (fun cdv A outer s H vs Q E hr h=>?_)
 ·obtain ⟨_,_,_,rfl,_⟩:=h;rfl
 ·obtain ⟨z,t,ps,rfl,ht,hS,q1,q2⟩:=h;refine ⟨_,(Xn (Xl (Xo (@JcM _) (Xa 0) (Xa 1) (by with_unfolding_all rfl)) (Xn (XF T.Jkb T.Jh3 Jcu (X6 (PJ.cons (@JgQ _ _ _ _ (Xa 0)) (PJ.cons (Xx 0) PJ.nil))))) (XO 0))),?_⟩;refine ⟨_,rfl,_,rfl,t,_,rfl,hS,rfl,JdK ps,_,rfl,?_⟩;rw [if_pos rfl,Jfd];by_cases hin:z∈ps
  ·exact Yi (by rw [decide_eq_true hin]; rfl) (q1 hin)
  ·have hz:=JfG ht;have e1:(Str.empty ++ reprText z).length=(reprText z).length:=by rw [strLen_append]; exact Nat.zero_add _
   refine YI (by rw [decide_eq_false hin]; rfl) ⟨_,rfl,z,rfl,Nat.le_trans hz (by decide),_,rfl,by rw [e1]; exact Nat.le_trans hz (by decide),_,rfl,?_,?_,q2 hin⟩
   all_goals
    rw [strLen_append,e1];refine Nat.le_trans (Nat.add_le_add_right hz _) (by decide)
theorem JjL (T:Txt K mg):JM P w K mg base Yy 2 T.Jdo T.JcT ["places"] (JoP K):=by
 refine T.Jdu.F.ok JfH (fun vs H Q E h=>?_) (fun cdv A outer s H vs Q E hr h=>?_)
 ·obtain ⟨_,_,rfl,_⟩:=h;rfl
 ·obtain ⟨l,ps,rfl,hS,h1,h2,h3,h4,q⟩:=h;refine ⟨_,(Xh (Xl (X3 (XH (Xo (@Jeq _) (Xe (@JZ _) T.Y5 PySem.boot_len (Xc (Xa 0) (Xv 0))) (Xj 0) (JJ _)) (XV (Xo (@Jer _) (Xe (@JZ _) T.Y5 PySem.boot_len (Xc (Xa 0) (Xv 0))) (XI T.Jb9 T.Jb6) (JJ _))))) (Xn (@JgP _ _)) (XO 0)) (Xh (Xy PassesOwn.never (@JbG _ _ _ _ (Xa 0)) (Xk 1 JfH.nd) (Xn (Xl (XN (XQ (Xb T.Jgi (Jm0 T) Jp (Xc (Xa 1) (Xv 0))) (by intro _; rfl))) (Xn (@JgP _ _)) (XO 0))) (by intro _; rfl)) (Xn (Xr (Xb T.ZX (Jbw T) Jp (Xc (Xa 0) (Xv 0))))))),?_⟩;change let Bq1:=_; let Bq2:=Jl _ Bq1; Jl _ Bq2 _ _ _;intro Bq1 Bq2;refine ⟨_,rfl,l,_,rfl,.inl hS,_,_,rfl,rfl,_,rfl,Yi (decide_eq_false (by rw [List.length_map]; omega)) ?_⟩;refine ⟨_,rfl,l,_,rfl,.inl hS,_,_,rfl,rfl,_,rfl,Yi (decide_eq_false (by rw [List.length_map]; omega)) ?_⟩;refine ⟨_,rfl,l,rfl,⟨_,hS⟩,Jfe (xs:=ps.map V.str) (fun i σ H2=>Jf H H2∧∃ v,σ=[some (.ref l),v]) ⟨Jf.refl _,none,rfl⟩ (fun i σ H2 _ h=>h.1.seq hS) ?_ ?_⟩
  ·rintro i x σ H2 hx ⟨e2,v,rfl⟩;obtain ⟨p,hp,rfl⟩:=List.mem_map.mp (List.mem_of_getElem? hx);refine ⟨_,rfl,p,rfl,Nat.le_trans (Jng (h3 p hp)).1 (by decide),fun H3 e3=>⟨_,rfl,Yi (by rw [h3 p hp]; rfl) ?_⟩⟩;exact ⟨e2.trans e3,_,rfl⟩
  ·rintro σ H2 ⟨e2,v,rfl⟩;exact ⟨_,rfl,l,rfl,.inl ⟨ps,e2.seq hS,by omega,h4⟩,fun H3 e3=>q H3 (e2.trans e3)⟩
theorem JkH (T:Txt K mg):JM P w K mg base Yy 2 T.Jd8 T.Jdf ["lanes", "places"] (Jp3 K):=by
 refine T.Jej.F.ok Jgm (fun vs H Q E h=>?_) (fun cdv A outer s H vs Q E hr h=>?_)
 ·obtain ⟨_,_,_,_,rfl,_⟩:=h;rfl
 ·obtain ⟨l,lp,zs,ps,rfl,hS,hP,hp,ht,h1,h2,h3,q⟩:=h;refine ⟨_,(Xh (Xl (Xo (@Jer _) (Xe (@JZ _) T.Y5 PySem.boot_len (Xc (Xa 0) (Xv 0))) (XI T.JcS T.JcK) (JJ _)) (Xn (@JgP _ _)) (XO 0)) (Xh (Xy PassesOwn.never (@JbG _ _ _ _ (Xa 0)) (Xk 2 Jgm.nd) (Xh (Xr (Xb T.Jal (JbH T) Za (Xc (Xf (XZ 0) (Xa 2) (Xj 0)) (Xc (Xa 1) (Xv 0))))) (Xn (Xr (Xb T.Jal (JbH T) Za (Xc (Xf (XZ 0) (Xa 2) (Xj 0)) (Xc (Xa 1) (Xv 0))))))) (by intro _; rfl)) (Xn (Xr (Xb T.ZX (Jbw T) Jp (Xc (Xa 0) (Xv 0))))))),?_⟩;change let Bq1:=_; let Bq2:=_; let Bq3:=(Jl _ Bq2); let Bq4:=Jl (Jc4 _ _ Bq3) Bq1; Jl _ Bq4 _ _ _;intro Bq1 Bq2 Bq3 Bq4;refine ⟨_,rfl,l,_,rfl,.inl hS,_,_,rfl,rfl,_,rfl,Yi (decide_eq_false (by rw [List.length_map]; omega)) ?_⟩;let Pq:Nat→St→Hp→Prop:=fun i σ H2=>H2=H∧∃ v,σ=[some (.ref l),some (.ref lp),v]
  refine ⟨_,rfl,l,rfl,⟨_,hS⟩,Jfe (xs:=zs.map (·.1)) Pq ⟨rfl,none,rfl⟩ (fun i σ H2 _ h=>by rw [h.1]; exact hS) ?_ ?_⟩
  ·rintro i x σ H2 hx ⟨rfl,v,rfl⟩;obtain ⟨z,hz,rfl⟩:=List.mem_map.mp (List.mem_of_getElem? hx);obtain ⟨a,ea,ha⟩:=hP z hz;obtain ⟨i1,i2⟩:=h2 z hz;refine ⟨_,rfl,a,_,_,.str z.2.1,ea,rfl,ha,rfl,_,rfl,z.2.1,lp,ps,rfl,ht _ i1,.inl hp,fun _=>?_,fun hn=>absurd i1 hn⟩;exact ⟨_,rfl,a,_,_,.str z.2.2,ea,rfl,ha,rfl,_,rfl,z.2.2,lp,ps,rfl,ht _ i2,.inl hp,fun _=>⟨rfl,_,rfl⟩,fun hn=>absurd i2 hn⟩
  ·rintro σ H2 ⟨rfl,v,rfl⟩;exact ⟨_,rfl,l,rfl,.inr ⟨_,_,hS,JjJ hP,by rw [List.length_map,List.length_map]; omega,JnW h3⟩,fun H3 e3=>q H3 e3⟩
theorem JkI (T:Txt K mg):JM P w K mg base Yy 2 T.Jd9 T.Jdg ["goals", "places"] (Jp4 K):=by
 refine T.Jek.F.ok Jgn (fun vs H Q E h=>?_) (fun cdv A outer s H vs Q E hr h=>?_)
 ·obtain ⟨_,_,_,_,rfl,_⟩:=h;rfl
 ·obtain ⟨l,lp,gs,ps,rfl,hS,hp,ht,h1,h2,h3,q⟩:=h;refine ⟨_,(Xh (Xy PassesOwn.never (@JbG _ _ _ _ (Xa 0)) (Xk 2 Jgn.nd) (Xn (Xr (Xb T.Jal (JbH T) Za (Xc (Xa 2) (Xc (Xa 1) (Xv 0)))))) (by intro _; rfl)) (Xn (Xr (Xb T.ZX (Jbw T) Jp (Xc (Xa 0) (Xv 0)))))),?_⟩;change let Bq1:=_; Jl _ Bq1 _ _ _;intro Bq1;let Pq:Nat→St→Hp→Prop:=fun i σ H2=>H2=H∧∃ v,σ=[some (.ref l),some (.ref lp),v]
  refine ⟨_,rfl,l,rfl,⟨_,hS⟩,Jfe (xs:=gs.map V.str) Pq ⟨rfl,none,rfl⟩ (fun i σ H2 _ h=>by rw [h.1]; exact hS) ?_ ?_⟩
  ·rintro i x σ H2 hx ⟨rfl,v,rfl⟩;obtain ⟨g,hg,rfl⟩:=List.mem_map.mp (List.mem_of_getElem? hx);exact ⟨_,rfl,_,rfl,g,lp,ps,rfl,ht _ (h2 g hg),.inl hp,fun _=>⟨rfl,_,rfl⟩,fun hn=>absurd (h2 g hg) hn⟩
  ·rintro σ H2 ⟨rfl,v,rfl⟩;exact ⟨_,rfl,l,rfl,.inl ⟨gs,hS,h1,h3⟩,fun H3 e3=>q H3 e3⟩
theorem Jma (T:Txt K mg):JM P w K mg base Yy 3 T.JcY T.Jd6 ["self", "places", "lanes", "goals"] (Jn7 K T.JU):=by
 refine T.JfF.F.ok Jl8 (fun vs H Q E h=>?_) (fun cdv A outer s H vs Q E hr h=>?_)
 ·obtain ⟨_,_,_,_,_,_,_,_,rfl,_⟩:=h;rfl
 ·obtain ⟨b,lp,ll,lg,dx,ps,zs,gs,rfl,hb,hp,hl,hP,hg,G,q⟩:=h;refine ⟨_,(Xh (Xr (Xb T.Jdu (JjL T) Jp (Xc (Xa 1) (Xv 0)))) (Xh (Xr (Xb T.Jej (JkH T) Jp (Xc (Xa 2) (Xc (Xa 1) (Xv 0))))) (Xh (Xr (Xb T.Jek (JkI T) Jp (Xc (Xa 3) (Xc (Xa 1) (Xv 0))))) (Xh (Xz (Xa 0) (Xw (@Jak _) T.JbJ PyProof.Rows.boot_tuple (Xc (Xe (@Jg3 _) T.Jfb PyProof.Rows.boot_sorted (Xc (Xa 1) (Xv 0))) (Xv 0)))) (Xh (Xz (Xa 0) (Xw (@Jak _) T.JbJ PyProof.Rows.boot_tuple (Xc (Xe (@JpA _) T.Jfb PyProof.Rows.boot_sorted (Xc (Xa 2) (Xv 0))) (Xv 0)))) (Xn (Xz (Xa 0) (Xw (@Jak _) T.JbJ PyProof.Rows.boot_tuple (Xc (Xe (@Jg3 _) T.Jfb PyProof.Rows.boot_sorted (Xc (Xa 3) (Xv 0))) (Xv 0)))))))))),?_⟩;change let Bq1:=_; let Bq2:=Jl _ Bq1; let Bq3:=Jl _ Bq2; let Bq4:=Jl _ Bq3; let Bq5:=Jl _ Bq4; Jl _ Bq5 _ _ _;intro Bq1 Bq2 Bq3 Bq4 Bq5;have ht:∀ p∈ps,YQ p:=fun p h=>Zc (G.p3 p h)
  have hzl:zs.length≤40:=by have:=G.l1; rwa [List.length_map] at this
  have hl2:∀ z∈zs,z.2.1∈ps∧z.2.2∈ps:=fun z hz=>G.l2 z.2 (List.mem_map.mpr ⟨z,hz,rfl⟩)
  have hgl:=G.glen;refine ⟨_,rfl,lp,ps,rfl,hp,G.p1,G.p2,G.p3,G.p4,fun H1 e1=>?_⟩;refine ⟨_,rfl,_,rfl,ll,lp,zs,ps,rfl,e1.seq hl,Zn hP e1,e1.seq hp,ht,hzl,hl2,G.l3,fun H2 e2=>?_⟩;have e12:=e1.trans e2;refine ⟨_,rfl,_,rfl,lg,lp,gs,ps,rfl,e12.seq hg,e12.seq hp,ht,by omega,G.g1,G.g2,fun H3 e3=>?_⟩;have e13:=e12.trans e3;have hb3:=e13 _ _ hb;refine ⟨_,rfl,lp,ps,rfl,e13.seq hp,by have:=G.p2; omega,fun p4 ps' n4 pp ps4=>⟨p4,_,rfl,.inl ⟨JA.of Jh,fun t5 n5=>?_⟩⟩⟩;have e35:=(Jf.upd (o:=.lst (ps'.map V.str)) n4).trans (Jf.upd (o:=.tup (ps'.map V.str)) n5);refine ⟨_,rfl,b,_,dx,_,rfl,e35 _ _ hb3,T.YU,T.Jbj,by decide,?_⟩;have b6:=(Y2.of (b:=b) (e13.trans e35)).trans (Y2.put (o:=.ins T.JU dx (Yr "places" (.ref t5) [])));have t5b:t5≠b:=fun e=>by
   have z:=(Jf.upd (o:=.lst (ps'.map V.str)) n4) _ _ hb3;rw [e,z] at n5; cases n5
  have hp6:upd (upd (upd H3 p4 (.lst (ps'.map V.str))) t5 (.tup (ps'.map V.str))) b (.ins T.JU dx (Yr "places" (.ref t5) [])) t5=some (.tup (ps'.map V.str)):=by rw [JD t5b,Jh]
  have hb6:upd (upd (upd H3 p4 (.lst (ps'.map V.str))) t5 (.tup (ps'.map V.str))) b (.ins T.JU dx (Yr "places" (.ref t5) [])) b=some (.ins T.JU dx [("places",.ref t5)]):=Jh;generalize upd (upd (upd H3 p4 (.lst (ps'.map V.str))) t5 (.tup (ps'.map V.str))) b (.ins T.JU dx (Yr "places" (.ref t5) []))=H6 at b6 hp6 hb6;refine ⟨_,rfl,ll,zs,rfl,b6.seq hb hl,fun z hz=>let ⟨a,h1,h2⟩:=hP z hz; ⟨a,h1,b6.tup hb h2⟩,by omega,fun p7 zs' n7 zp zs7=>⟨p7,_,rfl,.inl ⟨JA.of Jh,fun t8 n8=>?_⟩⟩⟩;have e68:=(Jf.upd (o:=.lst (zs'.map (·.1))) n7).trans (Jf.upd (o:=.tup (zs'.map (·.1))) n8);refine ⟨_,rfl,b,_,dx,_,rfl,e68 _ _ hb6,T.YU,T.Jdb,by show 1 < 1000; decide,?_⟩;have b9:=(b6.trans (Y2.of e68)).trans (Y2.put (o:=.ins T.JU dx (Yr "lanes" (.ref t8) [("places",.ref t5)])));have t8b:t8≠b:=fun e=>by
   have z:=(Jf.upd (o:=.lst (zs'.map (·.1))) n7) _ _ hb6;rw [e,z] at n8; cases n8
  have hl9:upd (upd (upd H6 p7 (.lst (zs'.map (·.1)))) t8 (.tup (zs'.map (·.1)))) b (.ins T.JU dx (Yr "lanes" (.ref t8) [("places",.ref t5)])) t8=some (.tup (zs'.map (·.1))):=by rw [JD t8b,Jh]
  have hp9:upd (upd (upd H6 p7 (.lst (zs'.map (·.1)))) t8 (.tup (zs'.map (·.1)))) b (.ins T.JU dx (Yr "lanes" (.ref t8) [("places",.ref t5)])) t5=some (.tup (ps'.map V.str)):=by rw [JD t5b]; exact e68 _ _ hp6
  have hb9:upd (upd (upd H6 p7 (.lst (zs'.map (·.1)))) t8 (.tup (zs'.map (·.1)))) b (.ins T.JU dx (Yr "lanes" (.ref t8) [("places",.ref t5)])) b=some (.ins T.JU dx [("places",.ref t5),("lanes",.ref t8)]):=Jh;generalize upd (upd (upd H6 p7 (.lst (zs'.map (·.1)))) t8 (.tup (zs'.map (·.1)))) b (.ins T.JU dx (Yr "lanes" (.ref t8) [("places",.ref t5)]))=H9 at b9 hl9 hp9 hb9;refine ⟨_,rfl,lg,gs,rfl,b9.seq hb hg,by omega,fun p10 gs' n10 gp gs10=>⟨p10,_,rfl,.inl ⟨JA.of Jh,fun t11 n11=>?_⟩⟩⟩;have e911:=(Jf.upd (o:=.lst (gs'.map V.str)) n10).trans (Jf.upd (o:=.tup (gs'.map V.str)) n11);refine ⟨_,rfl,b,_,dx,_,rfl,e911 _ _ hb9,T.YU,T.Jdc,by show 2 < 1000; decide,?_⟩;have b12:=(b9.trans (Y2.of e911)).trans (Y2.put (o:=.ins T.JU dx (Yr "goals" (.ref t11) [("places",.ref t5),("lanes",.ref t8)])));have t11b:t11≠b:=fun e=>by
   have z:=(Jf.upd (o:=.lst (gs'.map V.str)) n10) _ _ hb9;rw [e,z] at n11; cases n11
  refine q _ ps' zs' gs' b12 pp ps4 zp zs7 gp gs10 ⟨dx,t5,t8,t11,Jh,?_,?_,fun z hz=>?_,?_⟩
  ·rw [JD t5b]; exact e911 _ _ hp9
  ·rw [JD t8b]; exact e911 _ _ hl9
  ·obtain ⟨a,h1,h2⟩:=hP z (zp.mem_iff.mp hz);exact ⟨a,h1,b12.tup hb h2⟩
  ·rw [JD t11b,Jh]
theorem Zw (T:Txt K mg):JM P w K mg base (Zg P w) 2 T.Jbe T.JaS ["self", "place"] (Jp2 K T.JU T.Y8):=by
 refine T.Yg.F.ok1 JgJ (fun vs H Q E h=>?_) (fun cdv A outer s H vs Q E hr h=>?_)
 ·obtain ⟨_,_,_,_,_,rfl,_⟩:=h;rfl
 ·obtain ⟨b,z,ps,zs,gs,rfl,ht,⟨dx,tp,tl,tg,hb,hp,_⟩,q1,q2⟩:=h;refine ⟨_,(Xn (Xr (Xb T.Jal (JbH T) Yw (Xc (Xa 1) (Xc (Xm (Xa 0)) (Xv 0)))))),?_⟩;exact ⟨_,rfl,_,rfl,b,_,dx,_,.ref tp,rfl,hb,T.YU,T.Jbj,rfl,z,tp,ps,rfl,ht,.inr (JH.of hp),q1,q2⟩
theorem JiY (T:Txt K mg):JM P w K mg base (Zg P w) 3 T.JcX T.Jcn ["self", "place"] (JpW K T.JU T.Y8):=by
 refine T.Jbm.F.ok1 JiR (fun vs H Q E h=>?_) (fun cdv A outer s H vs Q E hr h=>?_)
 ·obtain ⟨_,_,_,_,_,rfl,_⟩:=h;rfl
 ·obtain ⟨b,z,ps,zs,gs,rfl,ht,B,q1,q2⟩:=h;refine ⟨_,(Xh (Xr (Xg (Xa 0) T.YU T.Yg.m (Zw T) T.Yg.b .nil Yw (Xc (Xa 1) (Xv 0)))) (Xn (Xq (@JkG _ _ _ _ _ _ _ _ (@Jlv _) (Xa 1) (Xm (Xa 0)) (by with_unfolding_all rfl))))),?_⟩;change let Bq1:=_; Jl _ Bq1 _ _ _;intro Bq1;obtain ⟨dx,tp,tl,tg,hb,hp,hl,hP,hg⟩:=id B;refine ⟨_,rfl,b,dx,_,rfl,hb,rfl,_,rfl,b,z,ps,zs,gs,rfl,ht,B,fun hin=>?_,q2⟩;refine ⟨_,rfl,_,rfl,b,_,dx,_,.ref tg,rfl,hb,T.YU,T.Jdc,rfl,tg,_,rfl,.inr (JH.of hg),rfl,JdK gs,?_⟩;rw [if_neg Bool.false_ne_true,Jfd];exact q1 hin
theorem JaZ (T:Txt K mg):JM P w K mg base (Zg P w) 3 T.Jft T.Jd5 ["self", "place"] (Js2 K T.JU T.Y8):=by
 refine T.YY.F.ok1 Jl7 (fun vs H Q E h=>?_) (fun cdv A outer s H vs Q E hr h=>?_)
 ·obtain ⟨_,_,_,_,_,rfl,_⟩:=h;rfl
 ·obtain ⟨b,z,ps,zs,gs,rfl,ht,hlen,B,q1,q2⟩:=h;refine ⟨_,(@Jd _ _ _ _ _ (@JK _ _ _ _ (@J9 _ _ _ _ _ _ _ _ _ _ _ _ _ _ _ _ _ _ _ _ (@pv _ 0 _ _ rfl (.inl rfl) rfl rfl) T.YU T.Yg.m (Zw T) (hr.mono (by decide)) T.Yg.b .nil Yw (@Ja _ _ _ _ _ (@pv _ 1 _ _ rfl (.inr (.inl rfl)) rfl rfl) (@Jb _) rfl) rfl rfl rfl) rfl) (@Jg _ _ _ (@Jo _ _ _ _ (@Z1 _ _ _ _ _ _ _ _ _ (@Jak _) rfl T.JbJ PyProof.Rows.boot_tuple (@Ja _ _ _ _ _ (@JgR _ _ _ _ _ _ _ 1 ["lane", "place"] [1] _ _ _ _ ["self", "place"] ((Jn JcH).names) (by decide +kernel) (@Je5 _ _ _ _ (@Jz _ _ _ _ _ (@pv _ 0 _ _ rfl (.inl rfl) rfl rfl) rfl)) (fun _ _ _ _=>(@JaX _ _ _ _ _ _ _ _ _ 0 (by decide +kernel) rfl rfl)) (fun _ _ _ _=>(@Jig _ _ _ (@Jy _ _ _ _ _ _ _ _ (@Yl _) (@Jw _ _ _ _ _ _ _ (show IxR _ (Jo2 K) from (@JN _)) (@Jaa _ _ _ _ _ _ _ _ _ 0 rfl rfl (by decide) (by decide)) (@Je _ _ _ _) (fun _ _=>rfl)) (@Jbv _ _ _ _ _ _ _ _ _ 1 rfl rfl (by decide) (by decide)) (JJ _)))) (fun _ _ _ _=>(@Jw _ _ _ _ _ _ _ (show IxR _ (Jo2 K) from (@JN _)) (@Jaa _ _ _ _ _ _ _ _ _ 0 rfl rfl (by decide) (by decide)) (@Je _ _ _ _) (fun _ _=>rfl))) rfl rfl rfl (by intro _; rfl)) (@Jb _) rfl) (by decide) (by decide) rfl rfl)))),?_⟩;change let Bq1:=_; Jl _ Bq1 _ _ _;intro Bq1;obtain ⟨dx,tp,tl,tg,hb,hp,hl,hP,hg⟩:=id B;refine ⟨_,rfl,b,dx,_,rfl,hb,rfl,_,rfl,b,z,ps,zs,gs,rfl,ht,B,fun hin=>?_,q2⟩;refine ⟨_,rfl,b,_,dx,_,.ref tl,rfl,hb,T.YU,T.Jdb,rfl,tl,rfl,⟨_,JH.of hl⟩,fun D hD=>?_⟩;let Pq:Nat→List V→Hp→Prop:=fun i ys H2=>Jf H H2∧H2 D=some (.lst ys)∧ys=(JB ((zs.map (·.2)).take i) z).map V.str
  refine Jjh (xs:=zs.map (·.1)) Pq rfl (fun i ys H2 p=>JH.of (p.1 _ _ hl)) ?_ (fun i ys H2 p=>p.2.1) ?_ ?_
  ·exact ⟨Jf.upd hD,Jh,by simp [JB]⟩
  ·rintro i x ys H2 hx ⟨e2,hy,rfl⟩;rw [List.getElem?_map] at hx;obtain ⟨y,hy1,rfl⟩:=Option.map_eq_some_iff.mp hx;obtain ⟨a,ea,ha⟩:=hP y (List.mem_of_getElem? hy1);have ha2:=e2.tup ha;have step:(zs.map (·.2)).take (i + 1)=(zs.map (·.2)).take i ++ [y.2]:=by
    rw [List.take_succ,List.getElem?_map,hy1]; rfl
   have wstep:JB ((zs.map (·.2)).take (i + 1)) z=JB ((zs.map (·.2)).take i) z ++ (if y.2.1=z then [y.2.2] else []):=by
    unfold JB;rw [step,List.filter_append,List.map_append];by_cases h:y.2.1=z
    ·simp [h]
    ·simp [h]
   have wl:(JB ((zs.map (·.2)).take i) z).length≤40:=by
    unfold JB;rw [List.length_map];refine Nat.le_trans (List.length_filter_le _ _) ?_;rw [List.length_take,List.length_map];omega
   refine ⟨_,rfl,a,_,_,.str y.2.1,ea,rfl,ha2,rfl,_,rfl,rfl,_,rfl,?_⟩;by_cases h:y.2.1=z
   ·refine YI (by rw [h]; exact decide_eq_true rfl) ⟨_,rfl,a,_,_,.str y.2.2,ea,rfl,ha2,rfl,hy,by rw [List.length_map]; exact Nat.lt_of_le_of_lt wl (by decide),fun b' u e=>?_,Jh,?_⟩
    ·rw [JD (JC e hD)]; exact e2 b' u e
    ·rw [wstep,if_pos h,List.map_append]; rfl
   ·refine Yi (decide_eq_false (fun e=>h (V.str.inj e))) ⟨e2,hy,?_⟩;rw [wstep,if_neg h,List.append_nil]
  ·rintro ys H2 ⟨e2,hy,rfl⟩;rw [List.length_map] at hy;rw [show zs.length=(zs.map (·.2)).length by simp,List.take_length] at hy;refine ⟨D,_,rfl,.inl ⟨JA.of hy,fun t n=>?_⟩⟩;exact q1 hin t _ (e2.trans (Jf.upd n)) Jh
theorem JmZ (T:Txt K mg):JM P w K mg base Yy 2 T.Jk7 T.Ji8 ["_law_cell", "_law_many"] Jrl:=by
 refine T.Jir.F.ok Zu (fun vs H Q E h=>?_) (fun cdv A outer s H vs Q E hr h=>?_)
 ·obtain ⟨_,_,rfl,_⟩:=h;rfl
 ·obtain ⟨c,n,rfl,hn1,hn2,q⟩:=h;refine ⟨_,(@Jd _ _ _ _ _ (@Js _ _ 2 _ _ _ _ Zu.nd rfl (Or.inr rfl) (@JG _ _ _ _) rfl (by first | exact .inl rfl | exact .inr rfl | assumption)) (@Jd _ _ _ _ _ (@Yc _ _ _ (@Js _ _ 3 _ _ _ _ Zu.nd rfl (Or.inl rfl) (@Jj _ _ _ _ _ _ _ _ _ _ _ _ _ _ _ T.Jg6 (Jhw T) (hr.mono (by decide)) Jp (@Ja _ _ _ _ _ (@Jm _ _ _ _ _ _ _ _ (@YJ _) (@pv _ 0 _ _ rfl (.inl rfl) rfl rfl) (@Je _ _ _ _)) (@Ja _ _ _ _ _ (@Jm _ _ _ _ _ _ _ _ (@Jau _) (@Je _ _ _ _) (@pv _ 1 _ _ rfl (.inl rfl) rfl rfl)) (@Ja _ _ _ _ _ (@Je _ _ _ _) (@Jb _) rfl) rfl) rfl) rfl (by decide) rfl rfl) rfl (.inl rfl))) (@Jd _ _ _ _ _ (@Js _ _ 4 _ _ _ _ Zu.nd rfl (Or.inl rfl) (@Y6 _ _ _ _ (@Jb _)) rfl (.inl rfl)) (@Jd _ _ _ _ _ (@Ze _ _ _ _ _ _ _ _ PassesOwn.never rfl (@Zi _ _ _ _ _ _ rfl T.ZD (@Ja _ _ _ _ _ (@pv _ 1 _ _ rfl (.inl rfl) rfl rfl) (@Jb _) rfl) rfl) (@JT _ _ 5 _ Zu.nd rfl (Or.inl rfl) (.inl rfl)) (@Jd _ _ _ _ _ (@Js _ _ 6 _ _ _ _ Zu.nd rfl (Or.inl rfl) (@Jcj _ _ _ _ _ _ _ _ _ _ (@Jey _) (@pv _ 3 _ _ rfl (.inl rfl) rfl rfl) (@JbF _ _ _ (@Jm _ _ _ _ _ _ _ _ (@Jau _) (@Je _ _ _ _) (@pv _ 5 _ _ rfl (.inl rfl) rfl rfl))) (@JbF _ _ _ (@Jm _ _ _ _ _ _ _ _ (@JV _) (@Jm _ _ _ _ _ _ _ _ (@Jau _) (@Je _ _ _ _) (@pv _ 5 _ _ rfl (.inl rfl) rfl rfl)) (@Je _ _ _ _)))) rfl (.inl rfl)) (@Jd _ _ _ _ _ (@Js _ _ 7 _ _ _ _ Zu.nd rfl (Or.inl rfl) (@Jm _ _ _ _ _ _ _ _ (@JV _) (@Je _ _ _ _) (@Jm _ _ _ _ _ _ _ _ (@JS _) (@Jw _ _ _ _ _ _ _ (@JP _) (@pv _ 3 _ _ rfl (.inl rfl) rfl rfl) (@Jm _ _ _ _ _ _ _ _ (@JV _) (@Jm _ _ _ _ _ _ _ _ (@Jau _) (@Je _ _ _ _) (@pv _ 5 _ _ rfl (.inl rfl) rfl rfl)) (@Je _ _ _ _)) (fun _ _=>rfl)) (@Je _ _ _ _))) rfl (.inl rfl)) (@Jd _ _ _ _ _ (@Yc _ _ _ (@JI _ _ _ _ _ _ _ _ (@Jy _ _ _ _ _ _ _ _ (@Yl _) (@Jm _ _ _ _ _ _ _ _ (@JS _) (@pv _ 0 _ _ rfl (.inl rfl) rfl rfl) (@Je _ _ _ _)) (@Je _ _ _ _) (JJ _)) (@Jd _ _ _ _ _ (@Js _ _ 6 _ _ _ _ Zu.nd rfl (Or.inl rfl) (@Jcj _ _ _ _ _ _ _ _ _ _ (@Jey _) (@pv _ 3 _ _ rfl (.inl rfl) rfl rfl) (@Jgq _) (@JbF _ _ _ (@Je _ _ _ _))) rfl (.inl rfl)) (@Jd _ _ _ _ _ (@Js _ _ 7 _ _ _ _ Zu.nd rfl (Or.inl rfl) (@Jm _ _ _ _ _ _ _ _ (@JV _) (@Je _ _ _ _) (@Jm _ _ _ _ _ _ _ _ (@JS _) (@Jw _ _ _ _ _ _ _ (@JP _) (@pv _ 3 _ _ rfl (.inl rfl) rfl rfl) (@Je _ _ _ _) (fun _ _=>rfl)) (@Je _ _ _ _))) rfl (.inl rfl)) (@Jg _ _ _ (@Jhr _ _ _ _ _ _ (@Jm _ _ _ _ _ _ _ _ (@JS _) (@Jm _ _ _ _ _ _ _ _ (@JV _) (@Jw _ _ _ _ _ _ _ (@JP _) (@pv _ 3 _ _ rfl (.inl rfl) rfl rfl) (@Je _ _ _ _) (fun _ _=>rfl)) (@Jm _ _ _ _ _ _ _ _ (@Jau _) (@Je _ _ _ _) (@pv _ 5 _ _ rfl (.inl rfl) rfl rfl))) (@Je _ _ _ _)) (@Jux _ _ _ _ _ _ _ (@pv _ 6 _ _ rfl (.inl rfl) rfl rfl) (@Jm _ _ _ _ _ _ _ _ (@JS _) (@Jw _ _ _ _ _ _ _ (@JP _) (@pv _ 3 _ _ rfl (.inl rfl) rfl rfl) (@Je _ _ _ _) (fun _ _=>rfl)) (@pv _ 7 _ _ rfl (.inl rfl) rfl rfl)) (@JrA _) (by intro _; rfl)) rfl rfl rfl)))) (@Jr _))) (@Jd _ _ _ _ _ (@Yc _ _ _ (@JI _ _ _ _ _ _ _ _ (@Jy _ _ _ _ _ _ _ _ (@Yl _) (@Jm _ _ _ _ _ _ _ _ (@JS _) (@pv _ 0 _ _ rfl (.inl rfl) rfl rfl) (@Je _ _ _ _)) (@Je _ _ _ _) (JJ _)) (@Jd _ _ _ _ _ (@Js _ _ 6 _ _ _ _ Zu.nd rfl (Or.inl rfl) (@Jm _ _ _ _ _ _ _ _ (@JuA _) (@Y6 _ _ _ _ (@Ja _ _ _ _ _ (@Jm _ _ _ _ _ _ _ _ (@JS _) (@Jm _ _ _ _ _ _ _ _ (@JV _) (@Jw _ _ _ _ _ _ _ (@JP _) (@pv _ 3 _ _ rfl (.inl rfl) rfl rfl) (@Je _ _ _ _) (fun _ _=>rfl)) (@Jm _ _ _ _ _ _ _ _ (@YJ _) (@pv _ 5 _ _ rfl (.inl rfl) rfl rfl) (@Je _ _ _ _))) (@Je _ _ _ _)) (@Jb _) rfl)) (@Je _ _ _ _)) rfl (.inl rfl)) (@Jg _ _ _ (@Js _ _ 7 _ _ _ _ Zu.nd rfl (Or.inl rfl) (@Jm _ _ _ _ _ _ _ _ (@JV _) (@Je _ _ _ _) (@Jm _ _ _ _ _ _ _ _ (@JS _) (@Jm _ _ _ _ _ _ _ _ (@JV _) (@pv _ 5 _ _ rfl (.inl rfl) rfl rfl) (@Jw _ _ _ _ _ _ _ (@JP _) (@pv _ 3 _ _ rfl (.inl rfl) rfl rfl) (@Je _ _ _ _) (fun _ _=>rfl))) (@Je _ _ _ _))) rfl (.inl rfl)))) (@Jr _))) (@Jd _ _ _ _ _ (@Yc _ _ _ (@Js _ _ 8 _ _ _ _ Zu.nd rfl (Or.inl rfl) (@Jae _ _ _ _ _ _ _ _ _ _ _ _ PySem.F.plainAttrs_str PySem.F.slot_str_join PySem.F.type_str_join (@JtL _) (@JG _ _ _ _) (@Ja _ _ _ _ _ (@JgR _ _ _ _ _ _ _ 1 ["_law_x", "_law_letters"] [2] _ _ _ _ ["_law_cell", "_law_many", "_law_letters", "_law_free", "_law_found", "_law_k", "_law_places", "_law_size", "_law_head", "_law_more", "_law_name"] ((Jn Jie).names) (by decide +kernel) (@JbG _ _ _ _ (@Jcj _ _ _ _ _ _ _ _ _ _ (@Jey _) (@pv _ 6 _ _ rfl (.inl rfl) rfl rfl) (@Jgq _) (@JbF _ _ _ (@Jm _ _ _ _ _ _ _ _ (@YR _) (@pv _ 7 _ _ rfl (.inl rfl) rfl rfl) (@Je _ _ _ _))))) (fun _ _ _ _=>(@JaX _ _ _ _ _ _ _ _ _ 0 (by decide +kernel) rfl rfl)) (fun _ _ _ _=>(@Jez _)) (fun _ _ _ _=>(@Jw _ _ _ _ _ _ _ (@Jnd _) (@Jbv _ _ _ _ _ _ _ _ _ 1 rfl rfl (by decide) (by decide)) (@Jaa _ _ _ _ _ _ _ _ _ 0 rfl rfl (by decide) (by decide)) (fun _ _=>rfl))) rfl rfl rfl (by intro _; rfl)) (@Jb _) rfl) rfl rfl rfl rfl rfl) rfl (.inl rfl))) (@Jg _ _ _ (@Ze _ _ _ _ _ _ _ _ PassesOwn.never rfl (@Zi _ _ _ _ _ _ rfl T.ZD (@Ja _ _ _ _ _ (@Je _ _ _ _) (@Jb _) rfl) rfl) (@JT _ _ 9 _ Zu.nd rfl (Or.inl rfl) (.inl rfl)) (@Jd _ _ _ _ _ (@Js _ _ 10 _ _ _ _ Zu.nd rfl (Or.inl rfl) (@Jm _ _ _ _ _ _ _ _ (@Jo7 _) (@pv _ 8 _ _ rfl (.inl rfl) rfl rfl) (@Jw _ _ _ _ _ _ _ (@Jnd _) (@pv _ 2 _ _ rfl (.inr (.inl rfl)) rfl rfl) (@Jm _ _ _ _ _ _ _ _ (@JS _) (@Jm _ _ _ _ _ _ _ _ (@JV _) (@Jw _ _ _ _ _ _ _ (@JP _) (@pv _ 6 _ _ rfl (.inl rfl) rfl rfl) (@Jm _ _ _ _ _ _ _ _ (@YR _) (@pv _ 7 _ _ rfl (.inl rfl) rfl rfl) (@Je _ _ _ _)) (fun _ _=>rfl)) (@pv _ 9 _ _ rfl (.inl rfl) rfl rfl)) (@Je _ _ _ _)) (fun _ _=>rfl))) rfl (.inl rfl)) (@Jg _ _ _ (@JI _ _ _ _ _ _ _ _ (@Jy _ _ _ _ _ _ _ _ (@JcM _) (@pv _ 10 _ _ rfl (.inl rfl) rfl rfl) (@pv _ 4 _ _ rfl (.inl rfl) rfl rfl) (by with_unfolding_all rfl)) (@Jd _ _ _ _ _ (@JK _ _ _ _ (@Jae _ _ _ _ _ _ _ _ _ _ _ _ PySem.F.plainAttrs_list PySem.F.slot_list_append PySem.F.type_list_append (@YH _) (@pv _ 4 _ _ rfl (.inl rfl) rfl rfl) (@Ja _ _ _ _ _ (@pv _ 10 _ _ rfl (.inl rfl) rfl rfl) (@Jb _) rfl) rfl rfl rfl rfl rfl) rfl) (@Jg _ _ _ (@JrR _ _))) (@Jr _)))) (by intro _; rfl)))))))) (by intro _; rfl)) (@Jg _ _ _ (@Jo _ _ _ _ (@pv _ 4 _ _ rfl (.inl rfl) rfl rfl))))))),?_⟩
  try dsimp only [cxK,Jcr]
  change let Bq1:=_; let Bq2:=_; let Bq3:=(JeN _ (Jl _ Bq2) _); let Bq4:=(Jl _ Bq3); let Bq5:=(Jc4 _ _ Bq4); let Bq6:=Jl _ Bq5; let Bq7:=_; let Bq8:=Jl (JiL (JeN _ (Jl _ Bq7) _)) Bq6; let Bq9:=_; let Bq10:=Jl _ Bq9; let Bq11:=Jl (JiL (JeN _ (Jl _ Bq10) _)) Bq8; let Bq12:=Jl _ Bq11; let Bq13:=(Jl _ Bq12); let Bq14:=Jl (Jc4 _ _ Bq13) Bq1; let Bq15:=Jl _ Bq14; let Bq16:=Jl _ Bq15; Jl _ Bq16 _ _ _;intro Bq1 Bq2 Bq3 Bq4 Bq5 Bq6 Bq7 Bq8 Bq9 Bq10 Bq11 Bq12 Bq13 Bq14 Bq15 Bq16;refine ⟨fun σ1 H1=>∃ (pf:Addr) (fs:List Int),Jf H H1∧H1 pf=some (.lst (fs.map V.int))∧fs.length=7 * n∧(∀ x∈fs,0≤x∧x < 26)∧σ1=[some (.int c),some (.int n),some (.str LT),some (.ref pf),none,none,none,none,none,none,none],
   ⟨_,rfl,_,_,rfl,rfl,⟨by decide,by decide⟩,_,rfl,_,_,rfl,rfl,.inl ⟨by decide,by decide⟩,c / 4,7 * n,26,congrArg (fun z=>[V.int (c / 4),V.int z,V.int 26]) (by omega:7 * (n:Int)=((7 * n:Nat):Int)),by omega,by decide,by decide,fun pf fs H1 h1 e1 h2 h3 h4=>⟨pf,fs,e1,h2,h3,h4,rfl⟩⟩,?_⟩
  rintro σ1 H1 ⟨pf,fs,e1,hf,hfl,hfr,rfl⟩;refine ⟨by show 0≤sizeLine; decide,fun pl hpl=>?_⟩;have npl:H pl=none:=by
   cases hd:H pl with
   | none=>rfl
   | some u=>rw [e1 _ _ hd] at hpl; cases hpl
  have sl:=hfl;refine ⟨_,rfl,(n:Int),rfl,by omega,by omega,?_⟩;let Pq:Nat→St→Hp→Prop:=fun i σ H2=>∃ (ss:List Str) (v5 v6 v7 v8 v9 v10:Option V),Jf H1 H2∧H2 pl=some (.lst (ss.map V.str))∧ss.length=i∧(∀ s∈ss,ZY s=true)∧ss.Nodup∧σ=[some (.int c),some (.int n),some (.str LT),some (.ref pf),some (.ref pl),v5,v6,v7,v8,v9,v10]
  refine Zs (n:=n) Pq
   ⟨[],none,none,none,none,none,none,Jf.upd hpl,Jh,rfl,(fun s hs=>nomatch hs),List.nodup_nil,rfl⟩ ?_ ?_
  ·rintro i σ H2 hi ⟨ss,v5,v6,v7,v8,v9,v10,e2,hs2,hsl,hsg,hsn,rfl⟩;have hf2:=JA.of (K:=K) (e2 _ _ hf);have at_:∀ {H':Hp} {e:Int},Jf H2 H'→0≤e→e < 7 * n→∃ y,(0≤y∧y < 26)∧atI (fs.map V.int) e=some (.int y):=fun {H' e} _ h0 h1=>by
    obtain ⟨y,h2,h3⟩:=JcB (xs:=fs) (e:=e) h0 (by omega);exact ⟨y,hfr y h3,h2⟩
   refine ⟨_,rfl,_,rfl,_,_,rfl,rfl,.inl ⟨by decide,by decide⟩,_,rfl,_,rfl,_,_,rfl,rfl,.inl ⟨by decide,by decide⟩,_,_,rfl,rfl,_,rfl,pf,_,rfl,hf2,fun p1 n1=>?_⟩;obtain ⟨ys1,ey1,my1⟩:=Jg2 (xs:=fs) (lo:=some (7 * (0 + (i:Int)))) (hi:=some (7 * (0 + (i:Int)) + 6));have ly1:ys1.length=6:=by
    have z:=congrArg List.length ey1;rw [List.length_map] at z;rw [← z];unfold ZB;rw [List.length_map];have a1:HT.YB fs.length 0 (some (7 * (0 + (i:Int))))=7 * i:=by
     rw [show (7 * (0 + (i:Int)))=((7 * i:Nat):Int) by omega,HT.Joc];omega
    have a2:HT.YB fs.length fs.length (some (7 * (0 + (i:Int)) + 6))=7 * i + 6:=by
     rw [show (7 * (0 + (i:Int)) + 6)=((7 * i + 6:Nat):Int) by omega,HT.Joc];omega
    rw [a1,a2,List.length_take,List.length_drop,List.length_map];omega
   have e3:=Jf.upd (o:=.lst (ZB (fs.map V.int) (some (7 * (0 + (i:Int)))) (some (7 * (0 + (i:Int)) + 6)))) n1;have h3:upd H2 p1 (.lst (ZB (fs.map V.int) (some (7 * (0 + (i:Int)))) (some (7 * (0 + (i:Int)) + 6)))) p1=some (.lst (ys1.map V.int)):=by rw [Jh,ey1]
   generalize upd H2 p1 (.lst (ZB (fs.map V.int) (some (7 * (0 + (i:Int)))) (some (7 * (0 + (i:Int)) + 6))))=H3 at e3 h3;obtain ⟨y1,yr1,ya1⟩:=at_ e3 (e:=7 * (0 + (i:Int)) + 6) (by omega) (by omega);refine ⟨_,rfl,_,rfl,_,_,rfl,rfl,.inl ⟨by decide,by decide⟩,_,_,rfl,rfl,pf,_,_,.int y1,rfl,rfl,e3.seq hf2,ya1,_,_,rfl,rfl,(by show (0:Int) < 6; decide),_,_,rfl,rfl,?_⟩;let Mq:St→Hp→Prop:=fun σ1 H4=>∃ (pp:Addr) (xs:List Int) (sz:Int),Jf H2 H4∧H4 pp=some (.lst (xs.map V.int))∧xs.length=6∧(∀ x∈xs,0≤x∧x < 26)∧1≤sz∧sz≤6∧σ1=[some (.int c),some (.int n),some (.str LT),some (.ref pf),some (.ref pl),some (.int (0 + (i:Int))),some (.ref pp),some (.int sz),v8,v9,v10]
   refine ⟨Mq,?_,?_⟩
   ·refine ⟨_,rfl,_,_,rfl,rfl,(by show (0:Int) < 4; decide),rfl,_,rfl,YW (fun _=>?_) (fun _=>?_)⟩
    ·refine ⟨_,rfl,_,rfl,pf,_,rfl,e3.seq hf2,fun p4 n4=>?_⟩;obtain ⟨ys2,ey2,my2⟩:=Jg2 (xs:=fs) (lo:=none) (hi:=some 6);have ly2:ys2.length=6:=by
      have z:=congrArg List.length ey2;rw [List.length_map] at z;have z2:=Jow (xs:=fs) (k:=6) (by decide) (by omega);omega
     have n42:H2 p4=none:=by
      cases hd:H2 p4 with
      | none=>rfl
      | some u=>rw [e3 _ _ hd] at n4; cases n4
     have e4:=e3.trans (Jf.upd (o:=.lst (ZB (fs.map V.int) none (some 6))) n4);obtain ⟨y6,yr6,ya6⟩:=at_ e4 (e:=6) (by omega) (by omega);refine ⟨_,rfl,pf,_,_,.int y6,rfl,rfl,e4.seq hf2,ya6,_,_,rfl,rfl,(by show (0:Int) < 6; decide),_,_,rfl,rfl,?_⟩;obtain ⟨y0,yr0,ya0⟩:=at_ e4 (e:=0) (by omega) (by omega);obtain ⟨yo,yro,yao⟩:=at_ e4 (e:=1) (by omega) (by omega);have hsz1:1≤1 + y6 % 6∧1 + y6 % 6≤6:=by omega
     refine ⟨_,rfl,pf,_,_,.int yo,rfl,rfl,e4.seq hf2,yao,_,rfl,_,_,rfl,rfl,.inl ⟨by decide,by decide⟩,_,_,rfl,rfl,_,_,rfl,rfl,(by show (0:Int) < 26; decide),?_⟩;have hj0:=Int.emod_nonneg y0 (b:=1 + y6 % 6) (by omega);have hj1:=Int.emod_lt_of_pos y0 (b:=1 + y6 % 6) (by omega);refine ⟨_,rfl,_,rfl,pf,_,_,.int y0,rfl,rfl,e4.seq hf2,ya0,_,rfl,_,_,rfl,rfl,(by show (0:Int) < 1 + y6 % 6; omega),p4,_,_,(y0 % (1 + y6 % 6)).toNat,rfl,rfl,Jh,?_,?_⟩
     ·rw [ey2,List.length_map,ly2];unfold ixN;rw [if_pos hj0,if_pos (by omega)]
     ·refine ⟨p4,ys2.set (y0 % (1 + y6 % 6)).toNat ((yo + 5 * (0 + (i:Int))) % 26),1 + y6 % 6,fun b u e=>?_,?_,by rw [List.length_set]; exact ly2,fun x hx=>?_,hsz1.1,hsz1.2,rfl⟩
      ·rw [JD (JC e n42)]; exact e4 b u e
      ·rw [Jh,ey2,List.map_set]
      ·rcases List.mem_or_eq_of_mem_set hx with w | w
       ·exact hfr x (my2 x w)
       ·rw [w]; omega
    ·exact ⟨p1,ys1,1 + y1 % 6,e3,h3,ly1,fun x hx=>hfr x (my1 x hx),by omega,by omega,rfl⟩
   rintro σ1 H4 ⟨pp,xs,sz,e4,hx4,lx4,rx4,s41,s42,rfl⟩;let Mq:St→Hp→Prop:=fun σ1 H4=>∃ (pp:Addr) (xs:List Int) (sz:Int),Jf H2 H4∧H4 pp=some (.lst (xs.map V.int))∧xs.length=6∧(∀ x∈xs,0≤x∧x < 26)∧1≤sz∧sz≤6∧σ1=[some (.int c),some (.int n),some (.str LT),some (.ref pf),some (.ref pl),some (.int (0 + (i:Int))),some (.ref pp),some (.int sz),v8,v9,v10]
   refine ⟨Mq,?_,?_⟩
   ·refine ⟨_,rfl,_,_,rfl,rfl,(by show (0:Int) < 4; decide),rfl,_,rfl,YW (fun _=>?_) (fun _=>⟨pp,xs,sz,e4,hx4,lx4,rx4,s41,s42,rfl⟩)⟩;obtain ⟨yo,yro,yao⟩:=at_ e4 (e:=1) (by omega) (by omega);refine ⟨_,rfl,pf,_,_,.int yo,rfl,rfl,e4.seq hf2,yao,_,rfl,_,_,rfl,rfl,⟨by decide,by decide⟩,_,_,rfl,rfl,_,_,rfl,rfl,(by show (0:Int) < 26; decide),by show 1≤sizeLine; decide,fun p5 n5=>?_⟩;have e5:=e4.trans (Jf.upd (o:=.lst [.int ((yo + (0 + (i:Int)) / 6) % 26)]) n5);refine ⟨p5,6,_,rfl,rfl,Jh,by decide,by decide,by show 1 * 6≤sizeLine; decide,fun p6 n6=>?_⟩;have e6:=e5.trans (Jf.upd (o:=.lst (List.replicate (6:Int).toNat [V.int ((yo + (0 + (i:Int)) / 6) % 26)]).flatten) n6);obtain ⟨y0,yr0,ya0⟩:=at_ e6 (e:=0) (by omega) (by omega);refine ⟨_,rfl,_,rfl,pf,_,_,.int y0,rfl,rfl,e6.seq hf2,ya0,_,_,rfl,rfl,_,_,rfl,rfl,(by show (0:Int) < 6; decide),_,_,rfl,rfl,?_⟩;refine ⟨p6,List.replicate 6 ((yo + (0 + (i:Int)) / 6) % 26),_,e6,?_,by simp,fun x hx=>?_,?_,?_,rfl⟩
    ·rw [Jh]; rfl
    ·rw [(List.mem_replicate.mp hx).2]; omega
    ·omega
    ·omega
   try clear hx4 lx4 rx4 s41 s42 e4 pp xs sz H4 e3 h3 H3 ya1 yr1 y1 ly1 my1 ey1 ys1
   rintro σ1 H4 ⟨pp,xs,sz,e4,hx4,lx4,rx4,s41,s42,rfl⟩;let Mq:St→Hp→Prop:=fun σ1 H5=>∃ hd:Str,Jf H2 H5∧H5 pp=some (.lst (xs.map V.int))∧hd.length≤5∧(∀ c∈hd.cps.toList,Jap c=true)∧σ1=[some (.int c),some (.int n),some (.str LT),some (.ref pf),some (.ref pl),some (.int (0 + (i:Int))),some (.ref pp),some (.int sz),some (.str hd),v9,v10]
   refine ⟨Mq,?_,?_⟩
   ·refine ⟨rfl,_,rfl,_,rfl,_,_,rfl,rfl,_,rfl,pp,_,rfl,JA.of hx4,fun p5 n5=>⟨p5,rfl,⟨_,JA.of Jh⟩,fun D hD=>?_⟩⟩;have e5:=Jf.upd (o:=.lst (ZB (xs.map V.int) none (some (sz - 1)))) n5;have hcl:=Jow (xs:=xs) (k:=sz - 1) (by omega) (by omega);refine JlK (xs:=ZB (xs.map V.int) none (some (sz - 1))) (fun _ v=>∃ c,v=.str ⟨#[c]⟩∧Jap c=true) rfl (JA.of Jh) hD (by have:sizeLine=16777216:=sizeLine_eq; omega) (fun i x H6 hx6 e6 Q' hQ=>?_) (fun ys H6 e6 hD6 hl6 hF=>?_)
    ·obtain ⟨j,hj,rfl⟩:=List.mem_map.mp (JtN (List.mem_of_getElem? hx6));obtain ⟨hj0,hj1⟩:=rx4 j hj;exact ⟨_,rfl,_,rfl,_,_,_,rfl,rfl,Jq5,JlB hj0 hj1,hQ _ ⟨_,rfl,Jmu (by omega)⟩⟩
    ·obtain ⟨zs,rfl,hz⟩:∃ zs:List Str,ys=zs.map V.str∧∀ y∈zs,∃ c,y=⟨#[c]⟩∧Jap c=true:=by
      try clear hD6 hl6
      induction ys with
      | nil=>exact ⟨[],rfl,fun u hu=>nomatch hu⟩
      | cons v r ih =>
       obtain ⟨zs,rfl,hz⟩:=ih fun i v' e=>hF (i + 1) v' (by simpa using e)
       obtain ⟨d,rfl,hu⟩:=hF 0 v rfl;refine ⟨⟨#[d]⟩ :: zs,rfl,fun u' h'=>?_⟩;rcases List.mem_cons.mp h' with rfl | h'
       ·exact ⟨d,rfl,hu⟩
       ·exact hz u' h'
     rw [List.length_map] at hl6;obtain ⟨j1,j2⟩:=JjU hz;have ej:Txt.join Str.empty zs=Str.join Str.empty zs:=StrLaws.glued_eq_join _ _;have hsum:(zs.map (·.length)).sum=zs.length:=PyProof.Rows.sumLen_of_ones zs fun u hu=>by
      obtain ⟨d,rfl,_⟩:=hz u hu;rfl
     refine ⟨_,D,zs,rfl,rfl,JA.of hD6,by show _ + zs.length * 0≤_; omega,Txt.join Str.empty zs,(e4.trans e5).trans e6,e6 _ _ (e5 _ _ hx4),?_,?_,rfl⟩
     ·rw [ej,j1]; omega
     ·rw [ej]; exact j2
   rintro σ1 H5 ⟨hd,e5,hx5,hd1,hd2,rfl⟩;obtain ⟨x,hxa,hxm⟩:=JcB (xs:=xs) (e:=sz - 1) (by omega) (by omega);have hs5:=e5 _ _ hs2;let Pq:Nat→St→Hp→Prop:=fun j σ H6=>H6=H5∧(∀ m:Nat,m < j→nam hd ((x + m) % 26).toNat∈ss)∧∃ v9 v10,σ=[some (.int c),some (.int n),some (.str LT),some (.ref pf),some (.ref pl),some (.int (0 + (i:Int))),some (.ref pp),some (.int sz),some (.str hd),v9,v10]
   refine ⟨26,rfl,by decide,by decide,Zs (n:=26) Pq ⟨rfl,fun m hm=>absurd hm (Nat.not_lt_zero _),_,_,rfl⟩ ?_ ?_⟩
   ·rintro j σ H6 hj ⟨rfl,hin,v9,v10,rfl⟩;have m0:=Int.emod_nonneg (x + (0 + (j:Int))) (b:=26) (by decide);have m1:=Int.emod_lt_of_pos (x + (0 + (j:Int))) (b:=26) (by decide);have en:(x + (0 + (j:Int))) % 26=(x + (j:Nat)) % 26:=by rw [Int.zero_add]
    refine ⟨_,rfl,_,rfl,_,rfl,_,rfl,_,_,rfl,rfl,pp,_,_,.int x,rfl,rfl,JA.of hx5,hxa,_,rfl,_,_,rfl,rfl,_,_,rfl,rfl,(by show (0:Int) < 26; decide),_,_,_,rfl,rfl,Jq5,JlB m0 m1,_,_,rfl,rfl,?_,?_⟩
    ·show hd.length + 1≤sizeLine;have:sizeLine=16777216:=sizeLine_eq;omega
    ·refine ⟨_,rfl,_,rfl,pl,_,rfl,.inl (JA.of hs5),rfl,JdK ss,_,rfl,?_⟩;rw [if_pos rfl,Jfd];show if (!decide (nam hd ((x + (0 + (j:Int))) % 26).toNat∈ss))=true then _ else _;rw [en];by_cases hmem:nam hd ((x + (j:Nat)) % 26).toNat∈ss
     ·refine Yi (by rw [decide_eq_true hmem]; rfl) ⟨rfl,fun m hm=>?_,_,_,rfl⟩;by_cases hmj:m=j
      ·rw [hmj]; exact hmem
      ·exact hin m (by omega)
     ·refine YI (by rw [decide_eq_false hmem]; rfl) ?_;refine ⟨_,rfl,.inl ⟨rfl,_,JA.of hs5⟩,_,rfl,pl,_,_,rfl,rfl,hs5,by rw [List.length_map]; have:sizeLine=16777216:=sizeLine_eq; omega,?_⟩;refine ⟨ss ++ [nam hd ((x + (j:Nat)) % 26).toNat],_,_,_,_,_,_,fun b u e=>?_,?_,by simp [hsl],fun s hs=>?_,?_,rfl⟩
      ·rw [JD (JC e hpl)]; exact e5 b u (e2 b u e)
      ·rw [Jh,List.map_append];rfl
      ·rcases List.mem_append.mp hs with w | w
       ·exact hsg s w
       ·rw [List.mem_singleton.mp w];exact Jr3 hd1 hd2 (by rw [en] at m0 m1; omega)
      ·rw [List.nodup_append];refine ⟨hsn,by simp,fun a ha b hb e=>?_⟩;rw [List.mem_singleton] at hb;subst hb e;exact hmem ha
   ·rintro σ H6 ⟨rfl,hin,_⟩;exact (Jr4 (x:=x) (ss:=ss) (by omega) fun m hm=>hin m hm).elim
  ·rintro σ H2 ⟨ss,v5,v6,v7,v8,v9,v10,e2,hs2,hsl,hsg,hsn,rfl⟩;exact ⟨_,rfl,q pl ss H2 npl (e1.trans e2) hs2 hsl hsg hsn⟩
theorem JrZ (T:Txt K mg):JM P w K mg base Yy 2 T.Jk5 T.Ji6 ["_law_cell", "_law_draw", "_law_size"] (Jri K):=by
 refine T.Jlk.F.ok Z9 (fun vs H Q E h=>?_) (fun cdv A outer s H vs Q E hr h=>?_)
 ·obtain ⟨_,_,_,rfl,_⟩:=h;rfl
 ·obtain ⟨c,d,n,rfl,hn1,hn2,q⟩:=h;have hu:=JgT hr;have szl:sizeLine=16777216:=sizeLine_eq;refine ⟨_,(Xh (Xd 3 Z9.nd (XX (Xv 0))) (Xh (Xd 4 Z9.nd (Xi (X7 0) (Xi (@YJ _) (Xa 0) (Xj 0)) (Xj 0))) (Xh (XS (Xl (Xo (Xab 0) (Xi (X7 0) (Xa 0) (Xj 0)) (Xj 0) (JJ _)) (Xn (Xy PassesOwn.never (XJ T.ZD (Xc (Xi (@YR _) (Xa 2) (Xj 0)) (Xv 0))) (Xk 5 Z9.nd) (Xh (Xr (Xs PySem.F.plainAttrs_list PySem.F.slot_list_append PySem.F.type_list_append (@YH _) (Xa 3) (Xc (XA (Xc (Xa 5) (Xc (Xi (X8 0) (Xa 5) (Xj 0)) (Xv 0)))) (Xv 0)))) (Xn (Xr (Xs PySem.F.plainAttrs_list PySem.F.slot_list_append PySem.F.type_list_append (@YH _) (Xa 3) (Xc (XA (Xc (Xa 5) (Xc (Xe (@JcD _ rfl) T.JfL PyProof.Rows.boot_max (Xc (Xj 0) (Xc (Xi (@YR _) (Xa 5) (Xj 0)) (Xv 0)))) (Xv 0)))) (Xv 0)))))) (by intro _; rfl))) (XO 0))) (Xh (XS (Xl (Xo (Xab 0) (Xi (X7 0) (Xa 0) (Xj 0)) (Xj 0) (JJ _)) (Xn (Xy PassesOwn.never (@Jqc _ _ _ _ _ _ _ rfl T.ZD (Xc (Xj 0) (Xc (Xi (@YR _) (Xa 2) (Xj 0)) (Xv 0))) rfl rfl) (Xk 5 Z9.nd) (Xh (Xr (Xs PySem.F.plainAttrs_list PySem.F.slot_list_append PySem.F.type_list_append (@YH _) (Xa 3) (Xc (XA (Xc (Xa 5) (Xc (Xi (X8 0) (Xa 5) (Xj 0)) (Xv 0)))) (Xv 0)))) (Xn (Xr (Xs PySem.F.plainAttrs_list PySem.F.slot_list_append PySem.F.type_list_append (@YH _) (Xa 3) (Xc (XA (Xc (Xa 5) (Xc (Xj 0) (Xv 0)))) (Xv 0)))))) (by intro _; rfl))) (XO 0))) (Xh (XS (Xl (Xo (Xab 0) (Xi (X7 0) (Xa 0) (Xj 0)) (Xj 0) (JJ _)) (Xn (Xd 4 Z9.nd (Xi (@Jau _) (Xj 0) (Xe (@JcD _ rfl) T.JfL PyProof.Rows.boot_max (Xc (Xj 0) (Xc (Xi (@YR _) (Xa 2) (Xj 0)) (Xv 0))))))) (XO 0))) (Xh (XS (Xl (Xo (Xab 0) (Xi (X7 0) (Xa 0) (Xj 0)) (Xj 0) (JJ _)) (Xn (Xd 4 Z9.nd (Xi (X7 0) (Xi (X8 0) (Xi (@YJ _) (Xa 0) (Xj 0)) (Xj 0)) (Xj 0)))) (XO 0))) (Xh (XS (Xd 6 Z9.nd (Xb T.Jg6 (Jhw T) Jp (Xc (Xa 1) (Xc (Xi (@Jau _) (Xj 0) (Xa 4)) (Xc (Xa 2) (Xv 0))))))) (Xh (Xy PassesOwn.never (XJ T.ZD (Xc (Xa 4) (Xv 0))) (Xk 5 Z9.nd) (Xh (Xd 7 Z9.nd (XA (Xc (Xf (Xac 0) (Xa 6) (Xi (@Jau _) (Xj 0) (Xa 5))) (Xc (Xf (Xac 0) (Xa 6) (Xi (X8 0) (Xi (@Jau _) (Xj 0) (Xa 5)) (Xj 0))) (Xv 0))))) (Xh (XS (Xl (Xo (Xab 0) (Xi (X7 0) (Xa 0) (Xj 0)) (Xj 0) (JJ _)) (Xn (Xd 7 Z9.nd (XA (Xc (Xi (X8 0) (Xj 0) (Xi (@YJ _) (Xa 5) (Xj 0))) (Xc (Xf (Xac 0) (Xa 6) (Xa 5)) (Xv 0)))))) (XO 0))) (Xn (XS (Xl (Xo (@Jg8 _ hu) (Xa 7) (Xa 3) (by with_unfolding_all rfl)) (Xn (Xr (Xs PySem.F.plainAttrs_list PySem.F.slot_list_append PySem.F.type_list_append (@YH _) (Xa 3) (Xc (Xa 7) (Xv 0))))) (XO 0)))))) (by intro _; rfl)) (Xn (Xq (Xa 3))))))))))),?_⟩
  try dsimp only [cxK,Jcr]
  change let Bq1:=_; let Bq2:=_; let Bq3:=Jl _ Bq2; let Bq4:=(Jl _ Bq3); let Bq5:=Jl (Jc4 _ _ Bq4) Bq1; let Bq6:=Jl _ Bq5; let Bq7:=Jl _ Bq6; let Bq8:=Jl _ Bq7; let Bq9:=_; let Bq10:=(Jl _ Bq9); let Bq11:=Jl (JiL (JeN _ (Jc4 _ _ Bq10) _)) Bq8; let Bq12:=_; let Bq13:=(Jl _ Bq12); let Bq14:=Jl (JiL (JeN _ (Jc4 _ _ Bq13) _)) Bq11; let Bq15:=Jl _ Bq14; Jl _ Bq15 _ _ _;intro Bq1 Bq2 Bq3 Bq4 Bq5 Bq6 Bq7 Bq8 Bq9 Bq10 Bq11 Bq12 Bq13 Bq14 Bq15;refine ⟨by show 0≤sizeLine; decide,fun pl hpl=>?_⟩;have W0:PW K H pl n (upd H pl (.lst [])) []:=⟨Jf.upd hpl,Jh,(fun z hz=>nomatch hz),List.nodup_nil,(fun z hz=>nomatch hz)⟩
  generalize upd H pl (.lst [])=H1 at W0;refine ⟨_,rfl,_,_,rfl,rfl,⟨by decide,by decide⟩,_,_,rfl,rfl,(by show (0:Int) < 9; decide),?_⟩;let Mq:St→Hp→Prop:=fun σ1 H2=>∃ zs v5,PW K H pl n H2 zs∧(c % 4=0→zs.length≤22)∧(c % 4≠0→zs=[])∧σ1=[some (.int c),some (.int d),some (.int n),some (.ref pl),some (.int (c / 4 % 9)),v5,none,none]
  refine ⟨Mq,?_,?_⟩
  ·refine ⟨_,rfl,_,_,rfl,rfl,(by show (0:Int) < 4; decide),rfl,_,rfl,YW (fun c0=>?_) (fun c0=>⟨[],none,W0,fun _=>Nat.zero_le _,fun _=>rfl,rfl⟩)⟩;have c0':c % 4=0:=V.int.inj (of_decide_eq_true c0);refine ⟨_,rfl,_,_,rfl,rfl,(n:Int) - 1,rfl,by omega,by omega,?_⟩;rw [show ((n:Int) - 1).toNat=n - 1 by omega];refine Zs (n:=n - 1) (fun i σ H2=>∃ zs v5,PW K H pl n H2 zs∧zs.length=2 * i∧(∀ z∈zs,z.2.1 < i)∧σ=[some (.int c),some (.int d),some (.int n),some (.ref pl),some (.int (c / 4 % 9)),v5,none,none]) ⟨[],none,W0,rfl,(fun z hz=>nomatch hz),rfl⟩ ?_ ?_
   ·rintro i σ H2 hi ⟨zs,v5,W,hl,hz,rfl⟩;refine ⟨_,rfl,.inl ⟨rfl,_,JA.of W.at_⟩,_,rfl,_,rfl,_,_,rfl,rfl,by show 2≤sizeLine; omega,fun t1 n1=>⟨pl,_,_,rfl,rfl,(Jf.upd n1) _ _ W.at_,by rw [List.length_map]; omega,?_⟩⟩;have W1:=W.add hpl (Jf.upd n1) (t:=t1) (a:=0 + (i:Int)) (b:=0 + (i:Int) + 1) Jh (fun q=>by
     obtain ⟨z,h1,h2⟩:=List.mem_map.mp q;have:=hz z h1;rw [h2] at this;have:(0:Int) + i < i:=this;omega) ⟨by omega,by omega⟩
    refine ⟨_,rfl,.inl ⟨rfl,_,JA.of W1.at_⟩,_,rfl,_,rfl,_,_,rfl,rfl,_,_,rfl,by show 2≤sizeLine; omega,fun t2 n2=>⟨pl,_,_,rfl,rfl,(Jf.upd n2) _ _ W1.at_,by rw [List.length_map,List.length_append]; show _ + 1 < _; omega,?_⟩⟩;have W2:=W1.add hpl (Jf.upd n2) (t:=t2) (a:=0 + (i:Int)) (b:=if 0 + (i:Int) - 1 > 0 then 0 + (i:Int) - 1 else 0) Jh (fun q=>by
     rw [List.map_append,List.mem_append] at q;rcases q with q | q
     ·obtain ⟨z,h1,h2⟩:=List.mem_map.mp q;have:=hz z h1;rw [h2] at this;have:(0:Int) + i < i:=this;omega
     ·have e:=congrArg Prod.snd (List.mem_singleton.mp q);have e:(if 0 + (i:Int) - 1 > 0 then 0 + (i:Int) - 1 else 0)=0 + (i:Int) + 1:=e;split at e <;> omega) ⟨by omega,by split <;> omega⟩
    exact ⟨_,_,W2,by simp [hl]; omega,fun z hz2=>by
     rcases List.mem_append.mp hz2 with q | q
     ·rcases List.mem_append.mp q with q | q
      ·have:=hz z q; show z.2.1 < ((i + 1:Nat):Int); omega
      ·rw [List.mem_singleton.mp q]; show (0:Int) + i < ((i + 1:Nat):Int); omega
     ·rw [List.mem_singleton.mp q]; show (0:Int) + i < ((i + 1:Nat):Int); omega,rfl⟩
   ·rintro σ H2 ⟨zs,v5,W,hl,hz,rfl⟩;exact ⟨zs,v5,W,fun _=>by omega,fun h=>absurd c0' h,rfl⟩
  rintro σ1 H2 ⟨zs,v5,W,l1,l2,rfl⟩;let Mq:St→Hp→Prop:=fun σ1 H2=>∃ zs v5,PW K H pl n H2 zs∧(c % 4=0∨c % 4=1→zs.length≤22)∧(c % 4≠0→c % 4≠1→zs=[])∧σ1=[some (.int c),some (.int d),some (.int n),some (.ref pl),some (.int (c / 4 % 9)),v5,none,none]
  refine ⟨Mq,?_,?_⟩
  ·refine ⟨_,rfl,_,_,rfl,rfl,(by show (0:Int) < 4; decide),rfl,_,rfl,YW (fun c1=>?_) (fun c1=>⟨zs,v5,W,fun h=>l1 (h.elim id fun e=>absurd (decide_eq_true (congrArg V.int e)) c1),fun h _=>l2 h,rfl⟩)⟩;have c1':c % 4=1:=V.int.inj (of_decide_eq_true c1);obtain rfl:zs=[]:=l2 (by omega);refine ⟨_,rfl,_,_,rfl,rfl,1,(n:Int) - 1,rfl,⟨by omega,by omega,by omega,by omega⟩,?_⟩;rw [show ((n:Int) - 1 - 1).toNat=n - 2 by omega];refine Zs (n:=n - 2) (fun i σ H2=>∃ zs v5,PW K H pl n H2 zs∧zs.length=2 * i∧(∀ z∈zs,z.2.1 < 1 + i)∧σ=[some (.int c),some (.int d),some (.int n),some (.ref pl),some (.int (c / 4 % 9)),v5,none,none]) ⟨[],v5,W,rfl,(fun z hz=>nomatch hz),rfl⟩ ?_ ?_
   ·rintro i σ H2 hi ⟨zs,v5,W,hl,hz,rfl⟩;refine ⟨_,rfl,.inl ⟨rfl,_,JA.of W.at_⟩,_,rfl,_,rfl,_,_,rfl,rfl,by show 2≤sizeLine; omega,fun t1 n1=>⟨pl,_,_,rfl,rfl,(Jf.upd n1) _ _ W.at_,by rw [List.length_map]; omega,?_⟩⟩;have W1:=W.add hpl (Jf.upd n1) (t:=t1) (a:=1 + (i:Int)) (b:=1 + (i:Int) + 1) Jh (fun q=>by
     obtain ⟨z,h1,h2⟩:=List.mem_map.mp q;have:=hz z h1;rw [h2] at this;have:(1:Int) + i < 1 + i:=this;omega) ⟨by omega,by omega⟩
    refine ⟨_,rfl,.inl ⟨rfl,_,JA.of W1.at_⟩,_,rfl,by show 2≤sizeLine; omega,fun t2 n2=>⟨pl,_,_,rfl,rfl,(Jf.upd n2) _ _ W1.at_,by rw [List.length_map,List.length_append]; show _ + 1 < _; omega,?_⟩⟩;have W2:=W1.add hpl (Jf.upd n2) (t:=t2) (a:=1 + (i:Int)) (b:=0) Jh (fun q=>by
     rw [List.map_append,List.mem_append] at q;rcases q with q | q
     ·obtain ⟨z,h1,h2⟩:=List.mem_map.mp q;have:=hz z h1;rw [h2] at this;have:(1:Int) + i < 1 + i:=this;omega
     ·have e:=congrArg Prod.snd (List.mem_singleton.mp q);have e:(0:Int)=1 + (i:Int) + 1:=e;omega) ⟨by omega,by omega⟩
    exact ⟨_,_,W2,by simp [hl]; omega,fun z hz2=>by
     rcases List.mem_append.mp hz2 with q | q
     ·rcases List.mem_append.mp q with q | q
      ·have:=hz z q; show z.2.1 < 1 + ((i + 1:Nat):Int); omega
      ·rw [List.mem_singleton.mp q]; show (1:Int) + i < 1 + ((i + 1:Nat):Int); omega
     ·rw [List.mem_singleton.mp q]; show (1:Int) + i < 1 + ((i + 1:Nat):Int); omega,rfl⟩
   ·rintro σ H2 ⟨zs,v5,W,hl,hz,rfl⟩;exact ⟨zs,v5,W,fun _=>by omega,fun h h'=>absurd c1' h',rfl⟩
  try clear l1 l2 W v5 zs H2
  rintro σ1 H2 ⟨zs,v5,W,l1,l2,rfl⟩;have m9:0≤c / 4 % 9∧c / 4 % 9≤8:=by omega
  let Mq:St→Hp→Prop:=fun σ1 H3=>∃ m:Int,H3=H2∧0≤m∧zs.length + m≤40∧(c % 4=2→m≤2 * ((n:Int) - 2)∨m=0)∧σ1=[some (.int c),some (.int d),some (.int n),some (.ref pl),some (.int m),v5,none,none]
  refine ⟨Mq,?_,?_⟩
  ·refine ⟨_,rfl,_,_,rfl,rfl,(by show (0:Int) < 4; decide),rfl,_,rfl,YW (fun c2=>?_) (fun c2=>⟨_,rfl,m9.1,?_,fun h=>absurd (decide_eq_true (congrArg V.int h)) c2,rfl⟩)⟩
   ·have c2':c % 4=2:=V.int.inj (of_decide_eq_true c2);obtain rfl:zs=[]:=l2 (by omega) (by omega);refine ⟨_,rfl,_,_,rfl,rfl,_,_,rfl,_,_,rfl,rfl,.inl ⟨by decide,by decide⟩,_,rfl,?_,?_,fun _=>?_,rfl⟩
    ·split <;> omega
    ·show ((0:Nat):Int) + _≤40;split <;> omega
    ·split <;> omega
   ·by_cases h:c % 4=0∨c % 4=1
    ·have:=l1 h; omega
    ·rw [l2 (fun e=>h (.inl e)) (fun e=>h (.inr e))];show ((0:Nat):Int) + _≤40;omega
  rintro σ1 H3 ⟨m,rfl,hm0,hm1,hm2,rfl⟩;let Mq:St→Hp→Prop:=fun σ1 H4=>∃ m:Nat,H4=H3∧zs.length + m≤40∧(c % 4=2→m≤2 * (n - 2))∧σ1=[some (.int c),some (.int d),some (.int n),some (.ref pl),some (.int m),v5,none,none]
  refine ⟨Mq,?_,?_⟩
  ·refine ⟨_,rfl,_,_,rfl,rfl,(by show (0:Int) < 4; decide),rfl,_,rfl,YW (fun c3=>?_) (fun c3=>⟨m.toNat,rfl,by omega,fun h=>by have:=hm2 h; omega,by rw [Int.toNat_of_nonneg hm0]⟩)⟩;have c3':c % 4=3:=V.int.inj (of_decide_eq_true c3);obtain rfl:zs=[]:=l2 (by omega) (by omega);refine ⟨_,rfl,_,_,rfl,rfl,⟨by decide,by decide⟩,_,_,rfl,rfl,_,_,rfl,rfl,(by show (0:Int) < 41; decide),((c / 4 + 40) % 41).toNat,rfl,?_,fun h=>by omega,?_⟩
   ·show 0 + _≤40;omega
   ·rw [Int.toNat_of_nonneg (by omega)]; rfl
  try clear hm2 hm1 hm0 m
  rintro σ1 H4 ⟨m,rfl,hm1,hm2,rfl⟩;refine ⟨fun σ1 H5=>∃ (pe:Addr) (es:List Int),PW K H pl n H5 zs∧JA K H5 pe (es.map V.int)∧pe≠pl∧es.length=2 * m∧(∀ x∈es,0≤x∧x < n)∧σ1=[some (.int c),some (.int d),some (.int n),some (.ref pl),some (.int m),v5,some (.ref pe),none],
   ⟨_,rfl,_,rfl,_,_,rfl,rfl,.inl ⟨by decide,by decide⟩,_,rfl,d,2 * m,n,congrArg (fun z=>[V.int d,V.int z,V.int n]) (by omega:2 * (m:Int)=((2 * m:Nat):Int)),by omega,by omega,by omega,fun pe es H4 h1 e4 h2 h3 h4=>?_⟩,?_⟩
  ·exact ⟨pe,es,⟨W.sm.trans e4,e4 _ _ W.at_,fun z hz=>let ⟨a,g1,g2⟩:=W.ip z hz; ⟨a,g1,e4.tup g2⟩,W.nd,W.rg⟩,JA.of h2,(fun e=>by rw [e,W.at_] at h1; cases h1),h3,h4,rfl⟩
  rintro σ1 H4 ⟨pe,es,W4,he,hne,hel,her,rfl⟩;refine ⟨_,rfl,(m:Int),rfl,by omega,by omega,?_⟩;refine Zs (n:=m) (fun i σ H5=>∃ zs' v5 v7,PW K H pl n H5 zs'∧JA K H5 pe (es.map V.int)∧zs'.length≤zs.length + i∧σ=[some (.int c),some (.int d),some (.int n),some (.ref pl),some (.int m),v5,some (.ref pe),v7]) ⟨zs,v5,none,W4,he,by omega,rfl⟩ ?_ ?_
  ·rintro i σ H5 hi ⟨zs',v5,v7,W5,he5,hl5,rfl⟩;obtain ⟨x1,a1,g1⟩:=JcB (xs:=es) (e:=2 * (0 + (i:Int))) (by omega) (by omega);obtain ⟨x2,a2,g2⟩:=JcB (xs:=es) (e:=2 * (0 + (i:Int)) + 1) (by omega) (by omega);refine ⟨_,rfl,_,rfl,_,_,rfl,rfl,.inl ⟨by decide,by decide⟩,pe,_,_,.int x1,rfl,rfl,he5,a1,_,rfl,_,rfl,_,_,rfl,rfl,.inl ⟨by decide,by decide⟩,_,_,rfl,rfl,pe,_,_,.int x2,rfl,rfl,he5,a2,by show 2≤sizeLine; omega,fun t n1=>?_⟩;have e6:=Jf.upd (o:=.tup [.int x1,.int x2]) n1;let Mq:St→Hp→Prop:=fun σ1 H6=>∃ t a b,Jf H5 H6∧H6 t=some (.tup [.int a,.int b])∧((0≤a∧a < n)∧(0≤b∧b < n))∧σ1=[some (.int c),some (.int d),some (.int n),some (.ref pl),some (.int m),some (.int (0 + (i:Int))),some (.ref pe),some (.ref t)]
   refine ⟨Mq,?_,?_⟩
   ·refine ⟨_,rfl,_,_,rfl,rfl,(by show (0:Int) < 4; decide),rfl,_,rfl,YW (fun c2=>?_) (fun c2=>⟨t,x1,x2,e6,Jh,⟨her x1 g1,her x2 g2⟩,rfl⟩)⟩;have c2':c % 4=2:=V.int.inj (of_decide_eq_true c2);have hmm:=hm2 c2';obtain ⟨x3,a3,g3⟩:=JcB (xs:=es) (e:=0 + (i:Int)) (by omega) (by omega);refine ⟨_,rfl,_,_,rfl,rfl,⟨by decide,by decide⟩,_,_,rfl,rfl,_,rfl,_,rfl,pe,_,_,.int x3,rfl,rfl,e6.seq he5,a3,by show 2≤sizeLine; omega,fun t2 n2=>?_⟩;exact ⟨t2,1 + (0 + (i:Int)) / 2,x3,e6.trans (Jf.upd n2),Jh,⟨by omega,her x3 g3⟩,rfl⟩
   rintro σ1 H6 ⟨t,a,b,e6,ht,hab,rfl⟩;refine ⟨fun σ1 H7=>∃ zs' v5 v7,PW K H pl n H7 zs'∧JA K H7 pe (es.map V.int)∧zs'.length≤zs.length + (i + 1)∧σ1=[some (.int c),some (.int d),some (.int n),some (.ref pl),some (.int m),v5,some (.ref pe),v7],?_,fun σ' H' h=>h⟩;have W6:PW K H pl n H6 zs':=⟨W5.sm.trans e6,e6 _ _ W5.at_,fun z hz=>let ⟨a,g1,g2⟩:=W5.ip z hz; ⟨a,g1,e6.tup g2⟩,W5.nd,W5.rg⟩
   classical
   refine ⟨_,rfl,_,rfl,t,pl,_,JhP (a,b),_,rfl,rfl,JH.of ht,JA.of W6.at_,Jn1 W6.ip,_,rfl,?_⟩;have emem:(JhP (a,b)∈(zs'.map (·.2)).map JhP)↔(a,b)∈zs'.map (·.2):=by
    constructor
    ·intro h;obtain ⟨y,h1,h2⟩:=List.mem_map.mp h;rw [← Jsa h2]; exact h1
    ·exact fun h=>List.mem_map.mpr ⟨_,h,rfl⟩
   by_cases hin:(a,b)∈zs'.map (·.2)
   ·refine Yi (by rw [if_pos rfl,decide_eq_true (emem.mpr hin)]; rfl) ⟨zs',_,_,W6,e6.seq he5,by omega,rfl⟩
   ·refine YI (by rw [if_pos rfl,decide_eq_false (fun h=>hin (emem.mp h))]; rfl) ?_;refine ⟨_,rfl,.inl ⟨rfl,_,JA.of W6.at_⟩,_,rfl,pl,_,_,rfl,rfl,W6.at_,by rw [List.length_map]; omega,?_⟩;refine ⟨_,_,_,W6.add hpl (Jf.refl _) ht hin hab,?_,by simp; omega,rfl⟩;rcases e6.seq he5 with (h | ⟨o,h⟩) | h
    ·exact .inl (.inl (by rw [JD hne]; exact h))
    ·exact .inl (.inr ⟨o,by rw [JD hne]; exact h⟩)
    ·exact .inr h
  ·rintro σ H5 ⟨zs',v5,v7,W5,he5,hl5,rfl⟩;exact ⟨_,rfl,q pl zs' H5 hpl W5 (by omega)⟩
end
def Jrr:Sp:=fun vs H Q _=>∃ (c kd:Int) (n:Nat),vs=[.int c,.int kd,.int n]∧1≤n∧n≤12∧∀ (p:Addr) (gs:List Int) (H':Hp),H p=none→Jf H H'→H' p=some (.lst (gs.map V.int))→gs.Nodup→(∀ g∈gs,0≤g∧g < n)→Q (.ref p) H'
def nm (ps:List Str) (x:Int):Str:=ps.getD x.toNat Str.empty
theorem Jdx {ps:List Str} {x:Int} (h0:0≤x) (h1:x < ps.length):atI (ps.map V.str) x=some (.str (nm ps x)):=by
 obtain ⟨j,rfl⟩:∃ j:Nat,x=(j:Int):=⟨x.toNat,by omega⟩
 have hj:j < ps.length:=by omega
 refine Zt ?_;unfold nm;rw [List.getElem?_map,List.getD_eq_getElem?_getD,Int.toNat_natCast,List.getElem?_eq_getElem hj];rfl
theorem JhB {ps:List Str} {x:Int} (h0:0≤x) (h1:x < ps.length):nm ps x∈ps:=by
 have hj:x.toNat < ps.length:=by omega
 unfold nm;rw [List.getD_eq_getElem?_getD,List.getElem?_eq_getElem hj];exact List.getElem_mem hj
theorem Jgv {ps:List Str} (nd:ps.Nodup) {x y:Int} (h0:0≤x) (h1:x < ps.length) (g0:0≤y) (g1:y < ps.length) (e:nm ps x=nm ps y):x=y:=by
 have hx:x.toNat < ps.length:=by omega
 have hy:y.toNat < ps.length:=by omega
 unfold nm at e;rw [List.getD_eq_getElem?_getD,List.getD_eq_getElem?_getD,List.getElem?_eq_getElem hx,List.getElem?_eq_getElem hy] at e;have e:ps[x.toNat]=ps[y.toNat]:=e;have z:x.toNat=y.toNat:=by
  rcases Nat.lt_trichotomy x.toNat y.toNat with h | h | h
  ·exact absurd e (List.pairwise_iff_getElem.mp nd _ _ hx hy h)
  ·exact h
  ·exact absurd e.symm (List.pairwise_iff_getElem.mp nd _ _ hy hx h)
 omega
def nm2 (ps:List Str) (p:Int×Int):Str×Str:=(nm ps p.1,nm ps p.2)
theorem Jlz {α β:Type} {f:α→β}:∀ {l:List α},l.Nodup→(∀ a∈l,∀ b∈l,f a=f b→a=b)→(l.map f).Nodup:=by
 intro l h hi;rw [List.Nodup,List.pairwise_map];exact List.Pairwise.imp_of_mem (fun ha hb hne e=>hne (hi _ ha _ hb e)) h
structure Ground (K:PySem.W.Frag) (H:Hp) (t:Addr) (ps:List Str) (zs:List (V×(Str×Str))) (gs:List Str):Prop where
 good:Jdt ps (zs.map (·.2)) gs
 at_:∃ pn pl pg,H t=some (.tup [.ref pn,.ref pl,.ref pg])∧H pn=some (.lst (ps.map V.str))∧H pl=some (.lst (zs.map (·.1)))∧ZC K H zs∧H pg=some (.lst (gs.map V.str))
theorem Ground.same {K:PySem.W.Frag} {H H':Hp} {t:Addr} {ps:List Str} {zs:List (V×(Str×Str))} {gs:List Str} (G:Ground K H t ps zs gs) (e:Jf H H'):Ground K H' t ps zs gs :=
 ⟨G.good,let ⟨pn,pl,pg,h1,h2,h3,h4,h5⟩:=G.at_; ⟨pn,pl,pg,e _ _ h1,e _ _ h2,e _ _ h3,Zn h4 e,e _ _ h5⟩⟩
def JpY (K:PySem.W.Frag):Sp:=fun vs H Q _=>∃ (a:Addr) (ns:List Int) (k:Int),vs=[.ref a,.int k]∧JA K H a (ns.map V.int)∧0≤k∧∀ t ps zs gs H',Jf H H'→Ground K H' t ps zs gs→Q (.ref t) H'
section
variable {P:Program} {w:World} {K:PySem.W.Frag} {mg:Str→Option Value} {base:Heap}
theorem Jr0 (T:Txt K mg):JM P w K mg base Yy 2 T.Jk9 T.Jja ["_law_cell", "_law_kind", "_law_size"] Jrr:=by
 refine T.Jll.F.ok JeP (fun vs H Q E h=>?_) (fun cdv A outer s H vs Q E hr h=>?_)
 ·obtain ⟨_,_,_,rfl,_⟩:=h;rfl
 ·obtain ⟨c,kd,n,rfl,hn1,hn2,q⟩:=h;have szl:sizeLine=16777216:=sizeLine_eq;refine ⟨_,(@Jd _ _ _ _ _ (@Yc _ _ _ (@Js _ _ 3 _ _ _ _ JeP.nd rfl (Or.inr rfl) (@Jj _ _ _ _ _ _ _ _ _ _ _ _ _ _ _ T.Jg6 (Jhw T) (hr.mono (by decide)) Jp (@Ja _ _ _ _ _ (@Jm _ _ _ _ _ _ _ _ (@YJ _) (@pv _ 0 _ _ rfl (.inl rfl) rfl rfl) (@Je _ _ _ _)) (@Ja _ _ _ _ _ (@pv _ 2 _ _ rfl (.inl rfl) rfl rfl) (@Ja _ _ _ _ _ (@Je _ _ _ _) (@Jb _) rfl) rfl) rfl) rfl (by decide) rfl rfl) rfl (by first | exact .inl rfl | exact .inr rfl | assumption))) (@Jd _ _ _ _ _ (@Yc _ _ _ (@Jo3 _ _ _ _ _ _ _ _ _ _ 4 1 ["_law_k", "_law_marks"] [3] _ _ _ _ ["_law_cell", "_law_kind", "_law_size", "_law_marks", "_law_found"] ((Jn Jif).names) (by decide +kernel) JeP.nd rfl (@Zi _ _ _ _ _ _ rfl T.ZD (@Ja _ _ _ _ _ (@pv _ 2 _ _ rfl (.inl rfl) rfl rfl) (@Jb _) rfl) rfl) (fun _ _ _ _=>(@JaX _ _ _ _ _ _ _ _ _ 0 (by decide +kernel) rfl rfl)) (fun _ _ _ _=>(@Jig _ _ _ (@Jy _ _ _ _ _ _ _ _ (@Yl _) (@Jw _ _ _ _ _ _ _ (show IxR _ (Jhq K) from (@JP _)) (@Jbv _ _ _ _ _ _ _ _ _ 1 rfl rfl (by decide) (by decide)) (@Jaa _ _ _ _ _ _ _ _ _ 0 rfl rfl (by decide) (by decide)) (fun _ _=>rfl)) (@Je _ _ _ _) (JJ _)))) (fun _ _ _ _=>(@Jaa _ _ _ _ _ _ _ _ _ 0 rfl rfl (by decide) (by decide))) rfl rfl rfl rfl rfl (by intro _; rfl))) (@Jd _ _ _ _ _ (@Yc _ _ _ (@JI _ _ _ _ _ _ _ _ (@PW.pt _ _ _ (@JmQ _ _ _ _ _ _ _ (@Jy _ _ _ _ _ _ _ _ (@Jeq _) (@pv _ 1 _ _ rfl (.inl rfl) rfl rfl) (@Je _ _ _ _) (JJ _)) (@JkF _ _ _ _ (@Jy _ _ _ _ _ _ _ _ (@Jih _) (@Jm _ _ _ _ _ _ _ _ (@JS _) (@pv _ 0 _ _ rfl (.inl rfl) rfl rfl) (@Je _ _ _ _)) (@Je _ _ _ _) (JJ _))))) (@Jg _ _ _ (@Js _ _ 4 _ _ _ _ JeP.nd rfl (Or.inl rfl) (@Y6 _ _ _ _ (@Ja _ _ _ _ _ (@Jm _ _ _ _ _ _ _ _ (@YR _) (@pv _ 2 _ _ rfl (.inl rfl) rfl rfl) (@Je _ _ _ _)) (@Jb _) rfl)) rfl (.inl rfl))) (@Jr _))) (@Jd _ _ _ _ _ (@Yc _ _ _ (@JI _ _ _ _ _ _ _ _ (@PW.pt _ _ _ (@JmQ _ _ _ _ _ _ _ (@Jy _ _ _ _ _ _ _ _ (@Yl _) (@Jm _ _ _ _ _ _ _ _ (@JS _) (@pv _ 0 _ _ rfl (.inl rfl) rfl rfl) (@Je _ _ _ _)) (@Je _ _ _ _) (JJ _)) (@JkF _ _ _ _ (@Jy _ _ _ _ _ _ _ _ (@JmV _ hr.units0) (@pv _ 4 _ _ rfl (.inl rfl) rfl rfl) (@Y6 _ _ _ _ (@Jb _)) (JJ _))))) (@Jg _ _ _ (@Js _ _ 4 _ _ _ _ JeP.nd rfl (Or.inl rfl) (@Y6 _ _ _ _ (@Ja _ _ _ _ _ (@Jm _ _ _ _ _ _ _ _ (@YR _) (@pv _ 2 _ _ rfl (.inl rfl) rfl rfl) (@Je _ _ _ _)) (@Jb _) rfl)) rfl (.inl rfl))) (@Jr _))) (@Jg _ _ _ (@Jo _ _ _ _ (@pv _ 4 _ _ rfl (.inl rfl) rfl rfl))))))),?_⟩;change let Bq1:=_; let Bq2:=Jl _ Bq1; let Bq3:=Jl _ Bq2; let Bq4:=Jl _ Bq3; Jl _ Bq4 _ _ _;intro Bq1 Bq2 Bq3 Bq4;refine ⟨fun σ1 H1=>∃ (pm:Addr) (ms:List Int),Jf H H1∧JA K H1 pm (ms.map V.int)∧ms.length=n∧σ1=[some (.int c),some (.int kd),some (.int n),some (.ref pm),none],
   ⟨_,rfl,_,_,rfl,rfl,⟨by decide,by decide⟩,_,rfl,_,n,_,rfl,by omega,by decide,by decide,fun pm ms H1 h1 e1 h2 h3 h4=>⟨pm,ms,e1,JA.of h2,h3,rfl⟩⟩,?_⟩
  rintro σ1 H1 ⟨pm,ms,e1,hm,hml,rfl⟩;have fresh:∀ {p:Addr} {H':Hp},Jf H H'→H' p=none→H p=none:=fun {p H'} e h=>by
   cases hd:H p with
   | none=>rfl
   | some u=>rw [e _ _ hd] at h; cases h
  let R:St→Hp→Prop:=fun σ1 H2=>∃ (p:Addr) (gs:List Int),H p=none∧Jf H H2∧H2 p=some (.lst (gs.map V.int))∧gs.Nodup∧(∀ g∈gs,0≤g∧g < n)∧σ1=[some (.int c),some (.int kd),some (.int n),some (.ref pm),some (.ref p)]
  have one:∀ {p:Addr} {H2:Hp},Jf H H2→H2 p=none→R [some (.int c),some (.int kd),some (.int n),some (.ref pm),some (.ref p)] (upd H2 p (.lst [.int ((n:Int) - 1)])):=fun {p H2} e2 np =>
   ⟨p,[(n:Int) - 1],fresh e2 np,e2.trans (Jf.upd np),Jh,by simp,fun g hg=>by rw [List.mem_singleton.mp hg]; omega,rfl⟩
  refine ⟨R,?_,?_⟩
  ·refine ⟨_,rfl,(n:Int),rfl,by omega,by omega,fun D hD=>?_⟩;rw [show ((n:Int)).toNat=n from Int.toNat_natCast n];refine Jj2 (n:=n) (fun i ys H2=>Jf H1 H2∧H2 D=some (.lst ys)∧∃ gs:List Int,ys=gs.map V.int∧gs.length≤i∧gs.Nodup∧∀ g∈gs,0≤g∧g < i) rfl ⟨Jf.upd hD,Jh,[],rfl,Nat.le_refl _,List.nodup_nil,fun g hg=>nomatch hg⟩ (fun i ys H2 p=>p.2.1) ?_ ?_
   ·rintro i ys H2 hi ⟨e2,hy,gs,rfl,hgl,hgn,hgr⟩;obtain ⟨x,a1,_⟩:=JcB (xs:=ms) (e:=0 + (i:Int)) (by omega) (by omega);refine ⟨_,rfl,_,rfl,pm,_,_,.int x,rfl,rfl,e2.seq hm,a1,rfl,_,rfl,YW (fun _=>?_) (fun _=>?_)⟩
    ·refine ⟨_,rfl,hy,by rw [List.length_map]; omega,fun b u e=>?_,Jh,gs ++ [0 + (i:Int)],by rw [List.map_append]; rfl,by simp; omega,?_,fun g hg=>?_⟩
     ·rw [JD (JC e hD)]; exact e2 b u e
     ·rw [List.nodup_append];refine ⟨hgn,by simp,fun x hx y hy e=>?_⟩;rw [List.mem_singleton] at hy;have:=hgr x hx;omega
     ·rcases List.mem_append.mp hg with w | w
      ·have:=hgr g w; omega
      ·rw [List.mem_singleton.mp w]; omega
    ·exact ⟨e2,hy,gs,rfl,by omega,hgn,fun g hg=>by have:=hgr g hg; omega⟩
   ·rintro ys H2 ⟨e2,hy,gs,rfl,_,hgn,hgr⟩;exact ⟨D,gs,fresh e1 hD,e1.trans e2,hy,hgn,hgr,rfl⟩
  rintro σ1 H2 ⟨p2,gs2,np2,e2,hp2,nd2,rg2,rfl⟩;refine ⟨R,?_,?_⟩
  ·refine ⟨_,rfl,_,_,rfl,rfl,_,rfl,YW (fun _=>?_) (fun _=>Yk ⟨p2,gs2,np2,e2,hp2,nd2,rg2,rfl⟩)⟩;refine ⟨_,rfl,_,_,rfl,rfl,(by show (0:Int) < 3; decide),rfl,_,rfl,YW (fun _=>?_) (fun _=>⟨p2,gs2,np2,e2,hp2,nd2,rg2,rfl⟩)⟩;exact ⟨_,rfl,_,_,rfl,rfl,by show 1≤sizeLine; omega,fun p np=>one e2 np⟩
  try clear rg2 nd2 hp2 e2 np2 gs2 p2 H2
  rintro σ1 H2 ⟨p2,gs2,np2,e2,hp2,nd2,rg2,rfl⟩;refine ⟨R,?_,?_⟩
  ·refine ⟨_,rfl,_,_,rfl,rfl,(by show (0:Int) < 3; decide),rfl,_,rfl,YW (fun _=>?_) (fun _=>Yk ⟨p2,gs2,np2,e2,hp2,nd2,rg2,rfl⟩)⟩;refine ⟨_,rfl,by show 0≤sizeLine; omega,fun l nl=>⟨p2,l,_,rfl,rfl,(Jf.upd nl).seq (JA.of hp2),JA.of Jh,_,rfl,YW (fun _=>?_) (fun _=>?_)⟩⟩
   ·exact ⟨_,rfl,_,_,rfl,rfl,by show 1≤sizeLine; omega,fun p np=>one (e2.trans (Jf.upd nl)) np⟩
   ·exact ⟨p2,gs2,np2,e2.trans (Jf.upd nl),(Jf.upd nl) _ _ hp2,nd2,rg2,rfl⟩
  try clear rg2 nd2 hp2 e2 np2 gs2 p2 H2
  rintro σ1 H2 ⟨p2,gs2,np2,e2,hp2,nd2,rg2,rfl⟩;exact ⟨_,rfl,q p2 gs2 H2 np2 e2 hp2 nd2 rg2⟩
theorem JfJ {K:PySem.W.Frag} {H:Hp} {D:Addr} {ys ys':List V} {zs:List (V×(Str×Str))} (h:ZC K H zs) (hD:H D=some (.lst ys)):ZC K (upd H D (.lst ys')) zs:=fun z hz=>by
 obtain ⟨a,h1,h2⟩:=h z hz;refine ⟨a,h1,?_⟩;rcases h2 with (q | ⟨o,q⟩) | q
 ·exact .inl (.inl (by rw [JD (Jax q hD (fun z=>nomatch z))]; exact q))
 ·exact .inl (.inr ⟨o,by rw [JD (Jax q hD (fun z=>nomatch z))]; exact q⟩)
 ·exact .inr q
theorem Jqh (T:Txt K mg):JM P w K mg base Yy 3 T.Jjg T.JhU ["_law_script", "_law_at_here"] (JpY K):=by
 refine T.Jjr.F.ok Jaq (fun vs H Q E h=>?_) (fun cdv A outer s H vs Q E hr h=>?_)
 ·obtain ⟨_,_,_,rfl,_⟩:=h;rfl
 ·obtain ⟨a,ns,k,rfl,hS,h0,q⟩:=h;have szl:sizeLine=16777216:=sizeLine_eq;refine ⟨_,(@Jd _ _ _ _ _ (@Yc _ _ _ (@Js _ _ 2 _ _ _ _ Jaq.nd rfl (Or.inl rfl) (@Jj _ _ _ _ _ _ _ _ _ _ _ _ _ _ _ T.Z0 (ZH T) (hr.mono (by decide)) Jp (@Ja _ _ _ _ _ (@pv _ 0 _ _ rfl (.inl rfl) rfl rfl) (@Ja _ _ _ _ _ (@Jm _ _ _ _ _ _ _ _ (@JV _) (@pv _ 1 _ _ rfl (.inl rfl) rfl rfl) (@Je _ _ _ _)) (@Jb _) rfl) rfl) rfl (by decide) rfl rfl) rfl (.inl rfl))) (@Jd _ _ _ _ _ (@Yc _ _ _ (@Js _ _ 3 _ _ _ _ Jaq.nd rfl (Or.inl rfl) (@Jw _ _ _ _ _ _ _ (@JP _) (@Y6 _ _ _ _ (@Ja _ _ _ _ _ (@Je _ _ _ _) (@Ja _ _ _ _ _ (@Je _ _ _ _) (@Ja _ _ _ _ _ (@Je _ _ _ _) (@Ja _ _ _ _ _ (@Je _ _ _ _) (@Ja _ _ _ _ _ (@Je _ _ _ _) (@Ja _ _ _ _ _ (@Je _ _ _ _) (@Ja _ _ _ _ _ (@Je _ _ _ _) (@Jb _) rfl) rfl) rfl) rfl) rfl) rfl) rfl)) (@Jm _ _ _ _ _ _ _ _ (@JS _) (@pv _ 2 _ _ rfl (.inl rfl) rfl rfl) (@Je _ _ _ _)) (fun _ _=>rfl)) rfl (.inl rfl))) (@Jd _ _ _ _ _ (@Yc _ _ _ (@JI _ _ _ _ _ _ _ _ (@Jy _ _ _ _ _ _ _ _ (@Yl _) (@Jm _ _ _ _ _ _ _ _ (@JS _) (@Jm _ _ _ _ _ _ _ _ (@YJ _) (@pv _ 2 _ _ rfl (.inl rfl) rfl rfl) (@Je _ _ _ _)) (@Je _ _ _ _)) (@Je _ _ _ _) (JJ _)) (@Jg _ _ _ (@Js _ _ 3 _ _ _ _ Jaq.nd rfl (Or.inl rfl) (@Jm _ _ _ _ _ _ _ _ (@JV _) (@Je _ _ _ _) (@Jm _ _ _ _ _ _ _ _ (@JS _) (@Jm _ _ _ _ _ _ _ _ (@YJ _) (@pv _ 2 _ _ rfl (.inl rfl) rfl rfl) (@Je _ _ _ _)) (@Je _ _ _ _))) rfl (.inl rfl))) (@Jr _))) (@Jd _ _ _ _ _ (@Yc _ _ _ (@Js _ _ 4 _ _ _ _ Jaq.nd rfl (Or.inr rfl) (@Jj _ _ _ _ _ _ _ _ _ _ _ _ _ _ _ T.Jir (JmZ T) (hr.mono (by decide)) Jp (@Ja _ _ _ _ _ (@Jj _ _ _ _ _ _ _ _ _ _ _ _ _ _ _ T.Z0 (ZH T) (hr.mono (by decide)) Jp (@Ja _ _ _ _ _ (@pv _ 0 _ _ rfl (.inl rfl) rfl rfl) (@Ja _ _ _ _ _ (@Jm _ _ _ _ _ _ _ _ (@JV _) (@pv _ 1 _ _ rfl (.inl rfl) rfl rfl) (@Je _ _ _ _)) (@Jb _) rfl) rfl) rfl (by decide) rfl rfl) (@Ja _ _ _ _ _ (@pv _ 3 _ _ rfl (.inl rfl) rfl rfl) (@Jb _) rfl) rfl) rfl (by decide) rfl rfl) rfl (by first | exact .inl rfl | exact .inr rfl | assumption))) (@Jd _ _ _ _ _ (@Yc _ _ _ (@Js _ _ 5 _ _ _ _ Jaq.nd rfl (Or.inl rfl) (@Jj _ _ _ _ _ _ _ _ _ _ _ _ _ _ _ T.Z0 (ZH T) (hr.mono (by decide)) Jp (@Ja _ _ _ _ _ (@pv _ 0 _ _ rfl (.inl rfl) rfl rfl) (@Ja _ _ _ _ _ (@pv _ 1 _ _ rfl (.inl rfl) rfl rfl) (@Jb _) rfl) rfl) rfl (by decide) rfl rfl) rfl (.inl rfl))) (@Jd _ _ _ _ _ (@Yc _ _ _ (@Js _ _ 6 _ _ _ _ Jaq.nd rfl (Or.inl rfl) (@Jj _ _ _ _ _ _ _ _ _ _ _ _ _ _ _ T.Jlk (JrZ T) (hr.mono (by decide)) Jp (@Ja _ _ _ _ _ (@pv _ 5 _ _ rfl (.inl rfl) rfl rfl) (@Ja _ _ _ _ _ (@Jj _ _ _ _ _ _ _ _ _ _ _ _ _ _ _ T.Z0 (ZH T) (hr.mono (by decide)) Jp (@Ja _ _ _ _ _ (@pv _ 0 _ _ rfl (.inl rfl) rfl rfl) (@Ja _ _ _ _ _ (@Jm _ _ _ _ _ _ _ _ (@JV _) (@pv _ 1 _ _ rfl (.inl rfl) rfl rfl) (@Je _ _ _ _)) (@Jb _) rfl) rfl) rfl (by decide) rfl rfl) (@Ja _ _ _ _ _ (@pv _ 3 _ _ rfl (.inl rfl) rfl rfl) (@Jb _) rfl) rfl) rfl) rfl (by decide) rfl rfl) rfl (.inl rfl))) (@Jd _ _ _ _ _ (@Yc _ _ _ (@Js _ _ 7 _ _ _ _ Jaq.nd rfl (Or.inl rfl) (@Jj _ _ _ _ _ _ _ _ _ _ _ _ _ _ _ T.Jll (Jr0 T) (hr.mono (by decide)) Jp (@Ja _ _ _ _ _ (@Jj _ _ _ _ _ _ _ _ _ _ _ _ _ _ _ T.Z0 (ZH T) (hr.mono (by decide)) Jp (@Ja _ _ _ _ _ (@pv _ 0 _ _ rfl (.inl rfl) rfl rfl) (@Ja _ _ _ _ _ (@Jm _ _ _ _ _ _ _ _ (@JV _) (@pv _ 1 _ _ rfl (.inl rfl) rfl rfl) (@Je _ _ _ _)) (@Jb _) rfl) rfl) rfl (by decide) rfl rfl) (@Ja _ _ _ _ _ (@Jm _ _ _ _ _ _ _ _ (@JS _) (@pv _ 5 _ _ rfl (.inl rfl) rfl rfl) (@Je _ _ _ _)) (@Ja _ _ _ _ _ (@pv _ 3 _ _ rfl (.inl rfl) rfl rfl) (@Jb _) rfl) rfl) rfl) rfl (by decide) rfl rfl) rfl (.inl rfl))) (@Jd _ _ _ _ _ (@Yc _ _ _ (@Jo3 _ _ _ _ _ _ _ _ _ _ 8 2 ["_law_a", "_law_b", "_law_names_here"] [4] _ _ _ _ ["_law_script", "_law_at_here", "_law_cell", "_law_size", "_law_names_here", "_law_kind", "_law_pairs_here", "_law_goals_here", "_law_lanes"] ((Jn JeW).names) (by decide +kernel) Jaq.nd rfl (@JbG _ _ _ _ (@pv _ 6 _ _ rfl (.inl rfl) rfl rfl)) (fun _ _ _ _=>(show PG _ _ (Jpj K 2 _) from Jgr rfl (@Yh _ _ _ _ _ (@JaX _ _ _ _ _ _ _ _ _ 0 (by decide +kernel) rfl rfl) (@Yh _ _ _ _ _ (@JaX _ _ _ _ _ _ _ _ _ 1 (by decide +kernel) rfl rfl) (@JeA _) rfl) rfl))) (fun _ _ _ _=>(@Jez _)) (fun _ _ _ _=>(@J7 _ _ _ _ _ (@Ja _ _ _ _ _ (@Jw _ _ _ _ _ _ _ (show IxR _ (Jhq K) from (@JP _)) (@Jbv _ _ _ _ _ _ _ _ _ 2 rfl rfl (by decide) (by decide)) (@Jaa _ _ _ _ _ _ _ _ _ 0 rfl rfl (by decide) (by decide)) (fun _ _=>rfl)) (@Ja _ _ _ _ _ (@Jw _ _ _ _ _ _ _ (show IxR _ (Jhq K) from (@JP _)) (@Jbv _ _ _ _ _ _ _ _ _ 2 rfl rfl (by decide) (by decide)) (@Jaa _ _ _ _ _ _ _ _ _ 1 rfl rfl (by decide) (by decide)) (fun _ _=>rfl)) (@Jb _) rfl) rfl))) rfl rfl rfl rfl rfl (by intro _; rfl))) (@Jg _ _ _ (@Jo _ _ _ _ (@J7 _ _ _ _ _ (@Ja _ _ _ _ _ (@pv _ 4 _ _ rfl (.inr (.inl rfl)) rfl rfl) (@Ja _ _ _ _ _ (@pv _ 8 _ _ rfl (.inl rfl) rfl rfl) (@Ja _ _ _ _ _ (@JgR _ _ _ _ _ _ _ 1 ["_law_k", "_law_names_here"] [4] _ _ _ _ ["_law_script", "_law_at_here", "_law_cell", "_law_size", "_law_names_here", "_law_kind", "_law_pairs_here", "_law_goals_here", "_law_lanes"] ((Jn JeW).names) (by decide +kernel) (@JbG _ _ _ _ (@pv _ 7 _ _ rfl (.inl rfl) rfl rfl)) (fun _ _ _ _=>(@JaX _ _ _ _ _ _ _ _ _ 0 (by decide +kernel) rfl rfl)) (fun _ _ _ _=>(@Jez _)) (fun _ _ _ _=>(@Jw _ _ _ _ _ _ _ (show IxR _ (Jhq K) from (@JP _)) (@Jbv _ _ _ _ _ _ _ _ _ 1 rfl rfl (by decide) (by decide)) (@Jaa _ _ _ _ _ _ _ _ _ 0 rfl rfl (by decide) (by decide)) (fun _ _=>rfl))) rfl rfl rfl (by intro _; rfl)) (@Jb _) rfl) rfl) rfl)))))))))))),?_⟩
  try dsimp only [cxK,Jcr]
  change let Bq1:=_; let Bq2:=Jl _ Bq1; let Bq3:=Jl _ Bq2; let Bq4:=Jl _ Bq3; let Bq5:=Jl _ Bq4; let Bq6:=Jl _ Bq5; let Bq7:=Jl _ Bq6; let Bq8:=Jl _ Bq7; Jl _ Bq8 _ _ _;intro Bq1 Bq2 Bq3 Bq4 Bq5 Bq6 Bq7 Bq8;refine ⟨fun σ1 H1=>∃ c:Int,H1=H∧σ1=[some (.ref a),some (.int k),some (.int c),none,none,none,none,none,none],
   ⟨_,rfl,_,rfl,_,_,rfl,rfl,a,ns,_,rfl,hS,by omega,_,rfl,rfl⟩,?_⟩
  rintro σ1 H1 ⟨c,rfl,rfl⟩;let Mq:St→Hp→Prop:=fun σ1 H2=>∃ n:Nat,Jf H1 H2∧1≤n∧n≤12∧σ1=[some (.ref a),some (.int k),some (.int c),some (.int n),none,none,none,none,none]
  refine ⟨Mq,?_,?_⟩
  ·refine ⟨by show 7≤sizeLine; omega,fun l nl=>?_⟩;obtain ⟨n,hn,h1,h2⟩:∃ n:Nat,atI [V.int 4,V.int 3,V.int 5,V.int 6,V.int 2,V.int 5,V.int 1] (c % 7)=some (.int n)∧1≤n∧n≤12:=by
    have h:c % 7=0∨c % 7=1∨c % 7=2∨c % 7=3∨c % 7=4∨c % 7=5∨c % 7=6:=by omega
    rcases h with h | h | h | h | h | h | h <;> rw [h]
    ·exact ⟨4,rfl,by decide,by decide⟩
    ·exact ⟨3,rfl,by decide,by decide⟩
    ·exact ⟨5,rfl,by decide,by decide⟩
    ·exact ⟨6,rfl,by decide,by decide⟩
    ·exact ⟨2,rfl,by decide,by decide⟩
    ·exact ⟨5,rfl,by decide,by decide⟩
    ·exact ⟨1,rfl,by decide,by decide⟩
   exact ⟨_,rfl,_,_,rfl,rfl,(by show (0:Int) < 7; decide),l,_,_,.int n,rfl,rfl,JA.of Jh,hn,n,Jf.upd nl,h1,h2,rfl⟩
  rintro σ1 H2 ⟨n,e2,hn1,hn2,rfl⟩;let Mq:St→Hp→Prop:=fun σ1 H3=>∃ n:Nat,H3=H2∧1≤n∧n≤12∧σ1=[some (.ref a),some (.int k),some (.int c),some (.int n),none,none,none,none,none]
  refine ⟨Mq,?_,?_⟩
  ·refine ⟨_,rfl,_,_,rfl,rfl,⟨by decide,by decide⟩,_,_,rfl,rfl,(by show (0:Int) < 6; decide),rfl,_,rfl,YW (fun _=>?_) (fun _=>⟨n,rfl,hn1,hn2,rfl⟩)⟩;refine ⟨_,rfl,_,_,rfl,rfl,⟨by decide,by decide⟩,_,_,rfl,rfl,(by show (0:Int) < 12; decide),_,_,rfl,rfl,(1 + c / 42 % 12).toNat,rfl,by omega,by omega,?_⟩;rw [Int.toNat_of_nonneg (by omega)]; rfl
  try clear hn1 hn2 n
  rintro σ1 H3 ⟨n,rfl,hn1,hn2,rfl⟩;refine ⟨fun σ1 H4=>∃ (pn:Addr) (ps:List Str),Jf H1 H4∧H4 pn=some (.lst (ps.map V.str))∧ps.length=n∧(∀ s∈ps,ZY s=true)∧ps.Nodup∧σ1=[some (.ref a),some (.int k),some (.int c),some (.int n),some (.ref pn),none,none,none,none],
   ⟨_,rfl,_,rfl,_,_,rfl,rfl,a,ns,_,rfl,e2.seq hS,by omega,_,rfl,_,n,rfl,hn1,hn2,fun pn ps H4 h1 e4 h2 h3 h4 h5=>⟨pn,ps,e2.trans e4,h2,h3,h4,h5,rfl⟩⟩,?_⟩
  rintro σ1 H4 ⟨pn,ps,e4,hpn,hpl,hpg,hpd,rfl⟩;refine ⟨fun σ1 H5=>∃ kd:Int,H5=H4∧σ1=[some (.ref a),some (.int k),some (.int c),some (.int n),some (.ref pn),some (.int kd),none,none,none],
   ⟨_,rfl,_,rfl,a,ns,_,rfl,e4.seq hS,h0,_,rfl,rfl⟩,?_⟩
  rintro σ1 H5 ⟨kd,rfl,rfl⟩;refine ⟨fun σ1 H6=>∃ (pp:Addr) (zs:List (V×(Int×Int))),PW K H5 pp n H6 zs∧zs.length≤40∧σ1=[some (.ref a),some (.int k),some (.int c),some (.int n),some (.ref pn),some (.int kd),some (.ref pp),none,none],
   ⟨_,rfl,_,rfl,_,rfl,_,_,rfl,rfl,a,ns,_,rfl,e4.seq hS,by omega,_,rfl,kd,_,n,rfl,hn1,hn2,fun pp zs H6 h1 W hl=>⟨pp,zs,W,hl,rfl⟩⟩,?_⟩
  rintro σ1 H6 ⟨pp,zs,W,hzl,rfl⟩;have e6:=e4.trans W.sm;refine ⟨fun σ1 H7=>∃ (pg:Addr) (gs:List Int),Jf H6 H7∧H7 pg=some (.lst (gs.map V.int))∧gs.Nodup∧(∀ g∈gs,0≤g∧g < n)∧σ1=[some (.ref a),some (.int k),some (.int c),some (.int n),some (.ref pn),some (.int kd),some (.ref pp),some (.ref pg),none],
   ⟨_,rfl,_,rfl,_,_,rfl,rfl,a,ns,_,rfl,e6.seq hS,by omega,_,rfl,_,_,rfl,rfl,(by show (0:Int) < 4; decide),_,rfl,_,_,n,rfl,hn1,hn2,fun pg gs H7 h1 e7 h2 h3 h4=>⟨pg,gs,e7,h2,h3,h4,rfl⟩⟩,?_⟩
  rintro σ1 H7 ⟨pg,gs,e7,hpgs,hgd,hgr,rfl⟩;have e17:=e6.trans e7;have hpn7:=e7 _ _ (W.sm _ _ hpn);have hpp7:=e7 _ _ W.at_;let Mq:St→Hp→Prop:=fun σ1 H8=>∃ (pl:Addr) (ls:List (V×(Str×Str))),Jf H7 H8∧H8 pl=some (.lst (ls.map (·.1)))∧ZC K H8 ls∧ls.map (·.2)=(zs.map (·.2)).map (nm2 ps)∧σ1=[some (.ref a),some (.int k),some (.int c),some (.int n),some (.ref pn),some (.int kd),some (.ref pp),some (.ref pg),some (.ref pl)]
  refine ⟨Mq,?_,?_⟩
  ·refine ⟨_,rfl,pp,rfl,⟨_,JA.of hpp7⟩,fun D hD=>?_⟩;refine Jj3 (xs:=zs.map (·.1)) (fun i ys H8=>Jf H7 H8∧H8 D=some (.lst ys)∧∃ ls:List (V×(Str×Str)),ys=ls.map (·.1)∧ZC K H8 ls∧ls.map (·.2)=((zs.take i).map (·.2)).map (nm2 ps)) rfl rfl (fun i ys H8 p=>JA.of (p.1 _ _ hpp7)) ⟨Jf.upd hD,Jh,[],rfl,(fun z hz=>nomatch hz),rfl⟩ (fun i ys H8 p=>p.2.1) ?_ ?_
   ·rintro i x ys H8 hx ⟨e8,hy,ls,rfl,hP,hls⟩;rw [List.getElem?_map] at hx;obtain ⟨z,hz,rfl⟩:=Option.map_eq_some_iff.mp hx;obtain ⟨b,eb,hb⟩:=W.ip z (List.mem_of_getElem? hz);obtain ⟨r1,r2⟩:=W.rg z (List.mem_of_getElem? hz);refine ⟨b,.int z.2.1,.int z.2.2,eb,(e7.trans e8).tup hb,?_⟩;simp only [JeM,if_true];have hll:ls.length≤40:=by
     have z:=congrArg List.length hls;rw [List.length_map,List.length_map,List.length_map,List.length_take] at z;omega
    refine ⟨_,rfl,_,rfl,pn,_,_,_,rfl,rfl,JA.of (e8 _ _ hpn7),Jdx r1.1 (by omega),_,rfl,_,rfl,pn,_,_,_,rfl,rfl,JA.of (e8 _ _ hpn7),Jdx r2.1 (by omega),by show 2≤sizeLine; omega,fun t nt=>?_⟩;have e9:=Jf.upd (o:=.tup [.str (nm ps z.2.1),.str (nm ps z.2.2)]) nt;refine ⟨e9 _ _ hy,by rw [List.length_map]; omega,fun b u e=>?_,Jh,ls ++ [(.ref t,nm2 ps z.2)],by rw [List.map_append]; rfl,fun z' hz'=>?_,?_⟩
    ·rw [JD (JC e hD)]; exact e9 _ _ (e8 b u e)
    ·rcases List.mem_append.mp hz' with q | q
     ·exact JfJ (Zn hP e9) (e9 _ _ hy) z' q
     ·rw [List.mem_singleton.mp q];exact JfJ (zs:=[(.ref t,nm2 ps z.2)]) (fun z' hz'=>by rw [List.mem_singleton.mp hz']; exact ⟨t,rfl,JH.of Jh⟩) (e9 _ _ hy) _ (List.mem_singleton.mpr rfl)
    ·rw [List.map_append,hls,List.take_succ,hz,List.map_append,List.map_append]; rfl
   ·rintro ys H8 ⟨e8,hy,ls,rfl,hP,hls⟩;rw [List.length_map,List.take_length] at hls;exact ⟨D,ls,e8,hy,hP,hls,rfl⟩
  rintro σ1 H8 ⟨pl,ls,e8,hll,hP,hls,rfl⟩;refine ⟨_,rfl,_,rfl,_,rfl,pg,rfl,⟨_,JA.of (e8 _ _ hpgs)⟩,fun D hD=>?_⟩;refine JlK (xs:=gs.map V.int) (fun i v=>∃ g,gs[i]?=some g∧v=.str (nm ps g)) rfl (JA.of (e8 _ _ hpgs)) hD ?_ (fun i x H9 hx e9 Q' hQ=>?_) (fun ys H9 e9 hy hyl hF=>?_)
  ·rw [List.length_map];have:gs.length≤n:=by
    have z:=JhA (r:=(List.range n).map fun (i:Nat)=>(i:Int)) hgd fun x hx=>by
     have:=hgr x hx;exact List.mem_map.mpr ⟨x.toNat,List.mem_range.mpr (by omega),by omega⟩
    simpa using z
   omega
  ·rw [List.getElem?_map] at hx;obtain ⟨g,hg,rfl⟩:=Option.map_eq_some_iff.mp hx;have:=hgr g (List.mem_of_getElem? hg);exact ⟨_,rfl,_,rfl,pn,_,_,_,rfl,rfl,JA.of (e9 _ _ (e8 _ _ hpn7)),Jdx this.1 (by omega),hQ _ ⟨g,hg,rfl⟩⟩
  ·have eys:ys=(gs.map (nm ps)).map V.str:=by
    apply List.ext_getElem?;intro i;by_cases hi:i < ys.length
    ·obtain ⟨g,h1,h2⟩:=hF i _ (List.getElem?_eq_getElem hi);rw [List.getElem?_eq_getElem hi,h2,List.getElem?_map,List.getElem?_map,h1];rfl
    ·rw [List.getElem?_eq_none (by omega),List.getElem?_eq_none];rw [List.length_map] at hyl;rw [List.length_map,List.length_map];omega
   subst eys;refine ⟨by show 3≤sizeLine; omega,fun t nt=>q t ps ls (gs.map (nm ps)) _ ((e17.trans e8).trans (e9.trans (Jf.upd nt))) ⟨⟨by omega,by omega,hpg,hpd,?_,?_,?_,?_,?_⟩,pn,pl,D,Jh,?_,?_,?_,?_⟩⟩
   ·rw [hls,List.length_map,List.length_map]; exact hzl
   ·intro z hz;rw [hls] at hz;obtain ⟨y,hy1,rfl⟩:=List.mem_map.mp hz;obtain ⟨z',hz',rfl⟩:=List.mem_map.mp hy1;obtain ⟨r1,r2⟩:=W.rg z' hz';exact ⟨JhB r1.1 (by omega),JhB r2.1 (by omega)⟩
   ·rw [hls];refine Jlz W.nd fun x hx y hy e=>?_
    obtain ⟨z',hz',rfl⟩:=List.mem_map.mp hx;obtain ⟨z2,hz2,rfl⟩:=List.mem_map.mp hy;obtain ⟨r1,r2⟩:=W.rg z' hz';obtain ⟨r3,r4⟩:=W.rg z2 hz2;have e1:=congrArg Prod.fst e;have e2:=congrArg Prod.snd e;exact Prod.ext (Jgv hpd r1.1 (by omega) r3.1 (by omega) e1) (Jgv hpd r2.1 (by omega) r4.1 (by omega) e2)
   ·intro g hg;obtain ⟨x,hx,rfl⟩:=List.mem_map.mp hg;have:=hgr x hx;exact JhB this.1 (by omega)
   ·refine Jlz hgd fun x hx y hy e=>?_
    have h1:=hgr x hx;have h2:=hgr y hy;exact Jgv hpd h1.1 (by omega) h2.1 (by omega) e
   ·exact (e9.trans (Jf.upd nt)) _ _ (e8 _ _ hpn7)
   ·exact (e9.trans (Jf.upd nt)) _ _ hll
   ·exact Zn hP (e9.trans (Jf.upd nt))
   ·exact (Jf.upd nt) _ _ hy
end
def rf (x:Str):List V:=[.str "refused",.str x]
def YT (z:Str) (n:Int) (zs:List (Str×Str)) (gs:List Str):V:=if z∈gs then .str "north" else if n=0∨JB zs z=[] then .str "south" else .non
theorem JqL {z:Str} {n:Int} {zs zs':List (Str×Str)} {gs gs':List Str} (h1:zs'.Perm zs) (h2:gs'.Perm gs):YT z n zs' gs'=YT z n zs gs:=by
 unfold YT;have e1:(z∈gs')↔(z∈gs):=h2.mem_iff;have e2:(JB zs' z=[])↔(JB zs z=[]):=by
  have hp:(JB zs' z).Perm (JB zs z):=(h1.filter _).map _;constructor
  ·intro e; rw [e] at hp; exact hp.symm.eq_nil
  ·intro e; rw [e] at hp; exact hp.eq_nil
 simp only [e1,e2]
def Js3 (k:Addr):Sp:=fun vs H Q E=>∃ n m:Int,vs=[.int n,.int m]∧(0≤m∧m≤30)∧(0≤n∧n≤m→Q .non H)∧(¬ (0≤n∧n≤m)→E (.ref k) none H)
def Jrv (K:PySem.W.Frag) (C k1 k2:Addr):Sp:=fun vs H Q E=>∃ (b:Addr) (z:Str) (n:Int) (ps:List Str) (zs:List (V×(Str×Str))) (gs:List Str),vs=[.ref b,.str z,.int n]∧YQ z∧zs.length≤40∧JbN K C H b ps zs gs ∧
 (z∉ps→E (.ref k1) none H)∧(z∈ps→¬ (0≤n∧n≤30)→E (.ref k2) none H)∧(z∈ps→0≤n∧n≤30→∀ H',Jf H H'→Q (YT z n (zs.map (·.2)) gs) H')
def Jcl (n s:Int) (r:Bool) (b a:Int):List V :=
 if b > a then (if r then [.str (hs false),.int (n + b),.int (s - b),.str (hs true)] else [.str (hs true),.int (n - b),.int (s + b),.str (hs false)])
 else if a > b then (if r then [.str (hs true),.int (n - a),.int (s + a),.str (hs true)] else [.str (hs false),.int (n + a),.int (s - a),.str (hs false)])
 else (if r then [.str (hs true),.int (n - a),.int (s + a),.str (hs false)] else [.str (hs false),.int (n + a),.int (s - a),.str (hs true)])
def JnS:Sp:=fun vs H Q _=>∃ (b:Bool) (n s:Int),vs=[.str (hs b),.int n,.int s]∧Q (.int (if b then n else s)) H
def JmU (b:Bool) (c n s:Int) (r:Bool):List V:=if b then [.str (hs b),.int (n - c),.int (s + c),.str (hs r)] else [.str (hs b),.int (n + c),.int (s - c),.str (hs r)]
def Juc:Sp:=fun vs H Q _=>∃ (b:Bool) (c n s:Int) (r:Bool),vs=[.str (hs b),.int c,.int n,.int s,.str (hs r)]∧∀ p H',Jf H H'→H' p=some (.tup (JmU b c n s r))→Q (.ref p) H'
theorem JiW (n s:Int) (r:Bool) (b a:Int):Jcl n s r b a=if b > a then JmU (!r) b n s r else if a > b then JmU r a n s r else JmU r a n s (!r):=by
 unfold Jcl JmU;cases r <;> rfl
def ZM (n s:Int):Prop:=0≤n∧0≤s∧n + s≤20
instance (n s:Int):Decidable (ZM n s):=by unfold ZM; exact inferInstance
def JfA (n s:Int) (r:Bool) (b a:Int):Prop:=(0≤b∧b≤(if r then s else n))∧(0≤a∧a≤(if r then n else s))
instance (n s:Int) (r:Bool) (b a:Int):Decidable (JfA n s r b a):=by unfold JfA; exact inferInstance
def JlZ (k:Addr):Sp:=fun vs H Q E=>∃ z:Str,vs=[.str z]∧YQ z∧(JaA z=true→Q .non H)∧(JaA z=false→E (.ref k) none H)
def Jrj (k:Addr):Sp:=fun vs H Q E=>∃ z:Str,vs=[.str z]∧YQ z∧(∀ b,z=hs b→Q (.str (hs (!b))) H)∧(JaA z=false→E (.ref k) none H)
def Jko (k:Addr):Sp:=fun vs H Q E=>∃ n s:Int,vs=[.int n,.int s]∧(ZM n s→Q .non H)∧(¬ ZM n s→E (.ref k) none H)
def Jmq (k:Addr):Sp:=fun vs H Q E=>∃ n s:Int,vs=[.int n,.int s]∧(0≤n∧n≤s→Q .non H)∧(¬ (0≤n∧n≤s)→E (.ref k) none H)
def JpU (k1 k2 k3:Addr):Sp:=fun vs H Q E=>∃ (n s:Int) (z:Str) (b a:Int),vs=[.int n,.int s,.str z,.int b,.int a]∧YQ z∧(¬ ZM n s→E (.ref k1) none H)∧(ZM n s→JaA z=false→E (.ref k2) none H) ∧
 (∀ r,z=hs r→ZM n s→¬ JfA n s r b a→E (.ref k3) none H)∧(∀ r,z=hs r→ZM n s→JfA n s r b a→∀ p H',Jf H H'→H' p=some (.tup (Jcl n s r b a))→Q (.ref p) H')
theorem tcT {σ:St} {H:Hp} {F G:Hp→Prop} (h:F H):JeM σ H (fun b H3=>if b=true then F H3 else G H3):=by
 show if true=true then F H else G H;rw [if_pos rfl];exact h
abbrev Zb (zs:List (Str×Str)) (gs:List Str) (c:Int) (t:Nat) (p:Str) (r:Bool):Int:=Y7 (JB zs) (fun p=>decide (p∈gs)) c t p r
abbrev loB (zs:List (Str×Str)) (gs:List Str) (c:Int) (t:Nat) (p:Str) (r:Bool):Int:=loA (JB zs) (fun p=>decide (p∈gs)) c t p r
abbrev hiC (zs:List (Str×Str)) (gs:List Str) (c:Int) (t:Nat) (p:Str) (r:Bool):Int:=hiB (JB zs) (fun p=>decide (p∈gs)) c t p r
theorem Jew {ps:List Str} {zs:List (Str×Str)} {gs:List Str} (G:Jdt ps zs gs) {p w:Str} (h:w∈JB zs p):w∈ps:=by
 unfold JB at h;obtain ⟨z,hz,rfl⟩:=List.mem_map.mp h;exact (G.l2 z (List.mem_filter.mp hz).1).2
theorem Jlm {ps:List Str} {zs:List (Str×Str)} {gs:List Str} (G:Jdt ps zs gs) (p:Str):(JB zs p).length≤40:=by
 unfold JB;rw [List.length_map];exact Nat.le_trans (List.length_filter_le _ _) G.l1
theorem Jdt.perm {ps ps':List Str} {zs zs':List (Str×Str)} {gs gs':List Str} (G:Jdt ps zs gs) (p:ps'.Perm ps) (z:zs'.Perm zs) (g:gs'.Perm gs):Jdt ps' zs' gs' :=
 ⟨by rw [p.length_eq]; exact G.p1,by rw [p.length_eq]; exact G.p2,fun x h=>G.p3 x (p.mem_iff.mp h),p.nodup_iff.mpr G.p4,by rw [z.length_eq]; exact G.l1,
  fun x h=>let q:=G.l2 x (z.mem_iff.mp h); ⟨p.mem_iff.mpr q.1,p.mem_iff.mpr q.2⟩,z.nodup_iff.mpr G.l3,fun x h=>p.mem_iff.mpr (G.g1 x (g.mem_iff.mp h)),g.nodup_iff.mpr G.g2⟩
structure Bd (K:PySem.W.Frag) (C:Addr) (H:Hp) (b:Addr) (ps:List Str) (zs:List (V×(Str×Str))) (gs:List Str):Prop where
 B:JbN K C H b ps zs gs
 G:Jdt ps (zs.map (·.2)) gs
theorem Bd.same {K:PySem.W.Frag} {C:Addr} {H H':Hp} {b:Addr} {ps:List Str} {zs:List (V×(Str×Str))} {gs:List Str} (h:Bd K C H b ps zs gs) (e:Jf H H'):Bd K C H' b ps zs gs:=⟨h.B.same e,h.G⟩
theorem Bd.zl {K:PySem.W.Frag} {C:Addr} {H:Hp} {b:Addr} {ps:List Str} {zs:List (V×(Str×Str))} {gs:List Str} (h:Bd K C H b ps zs gs):zs.length≤40:=by have:=h.G.l1; rwa [List.length_map] at this
theorem Y2.bd {K:PySem.W.Frag} {C C' dx:Addr} {H H':Hp} {b k:Addr} {ps:List Str} {zs:List (V×(Str×Str))} {gs:List Str} {fs:List (Str×V)} (h:Bd K C H b ps zs gs) (e:Y2 k H H') (hk:H k=some (.ins C' dx fs)) (hn:k≠b):Bd K C H' b ps zs gs:=by
 obtain ⟨⟨d,tp,tl,tg,h1,h2,h3,h4,h5⟩,G⟩:=h;exact ⟨⟨d,tp,tl,tg,e _ _ (fun z=>hn z.symm) h1,e _ _ (Jax h2 hk (fun z=>nomatch z)) h2,e _ _ (Jax h3 hk (fun z=>nomatch z)) h3,fun z hz=>let ⟨a,q1,q2⟩:=h4 z hz; ⟨a,q1,e.tup hk q2⟩,e _ _ (Jax h5 hk (fun z=>nomatch z)) h5⟩,G⟩
def Jbf (p:Str) (r:Bool):List J5:=[.inr p,.inr (hs r)]
theorem Zf {a b:Bool} (h:hs a=hs b):a=b:=by cases a <;> cases b <;> first | rfl | (exact absurd h (by decide +kernel))
theorem JnC {p q:Str} {r s:Bool} (h:Jbf p r=Jbf q s):p=q∧r=s:=by
 unfold Jbf at h;simp only [List.cons.injEq,Sum.inr.injEq,and_true] at h;exact ⟨h.1,Zf h.2⟩
def JfT (H:Hp) (a:Addr) (ps:List Str) (f:Str→Bool→Int):Prop:=∃ kvs:List (List J5×V),H a=some (.dT kvs)∧∀ p∈ps,∀ r,ZK kvs (Jbf p r)=some (.int (f p r))
theorem JfT.same {H H':Hp} {a:Addr} {ps:List Str} {f:Str→Bool→Int} (h:JfT H a ps f) (e:Jf H H'):JfT H' a ps f:=let ⟨kvs,h1,h2⟩:=h; ⟨kvs,e _ _ h1,h2⟩
structure Bk (K:PySem.W.Frag) (C CB:Addr) (H:Hp) (k b:Addr) (ps:List Str) (zs:List (V×(Str×Str))) (gs:List Str) (c:Int) (t n:Nat):Prop where
 B:Bd K C H b ps zs gs
 c0:0≤c
 c1:c≤20
 t1:t≤30
 at_:∃ (dx l:Addr) (rs:List Addr),H k=some (.ins CB dx [("board",.ref b),("coins",.int c),("turns",.int t),("needs",.ref l)])∧H l=some (.lst (rs.map V.ref))∧rs.length=n∧∀ (i:Nat) a,rs[i]?=some a→JfT H a ps (Zb (zs.map (·.2)) gs c i)
theorem Bk.same {K:PySem.W.Frag} {C CB:Addr} {H H':Hp} {k b:Addr} {ps:List Str} {zs:List (V×(Str×Str))} {gs:List Str} {c:Int} {t n:Nat} (h:Bk K C CB H k b ps zs gs c t n) (e:Jf H H'):Bk K C CB H' k b ps zs gs c t n :=
 ⟨h.B.same e,h.c0,h.c1,h.t1,let ⟨dx,l,rs,h1,h2,h3,h4⟩:=h.at_; ⟨dx,l,rs,e _ _ h1,e _ _ h2,h3,fun i a q=>(h4 i a q).same e⟩⟩
section
variable (K:PySem.W.Frag) (C CB:Addr)
def Jue:Sp:=fun vs H Q _=>∃ (k b:Addr) (z:Str) (m:Nat) (ps:List Str) (zs:List (V×(Str×Str))) (gs:List Str) (c:Int) (t n:Nat),vs=[.ref k,.str z,.int ((m:Int) + 1)]∧Bk K C CB H k b ps zs gs c t n∧m < n∧z∈ps∧JB (zs.map (·.2)) z≠[] ∧
 ∀ H',Jf H H'→Q (.int (loB (zs.map (·.2)) gs c m z false)) H'
def Jud:Sp:=fun vs H Q _=>∃ (k b:Addr) (z:Str) (m:Nat) (ps:List Str) (zs:List (V×(Str×Str))) (gs:List Str) (c:Int) (t n:Nat),vs=[.ref k,.str z,.int ((m:Int) + 1)]∧Bk K C CB H k b ps zs gs c t n∧m < n∧z∈ps∧JB (zs.map (·.2)) z≠[] ∧
 ∀ H',Jf H H'→Q (.int (hiC (zs.map (·.2)) gs c m z true)) H'
def Js9:Sp:=fun vs H Q _=>∃ (k b:Addr) (z:Str) (m:Nat) (r:Bool) (ps:List Str) (zs:List (V×(Str×Str))) (gs:List Str) (c:Int) (t n:Nat),vs=[.ref k,.str z,.int m,.str (hs r)]∧Bk K C CB H k b ps zs gs c t n∧m≤n∧m≤30∧z∈ps ∧
 ∀ H',Jf H H'→Q (.int (Zb (zs.map (·.2)) gs c m z r)) H'
def Jrk:Sp:=fun vs H Q _=>∃ (k b:Addr) (m:Nat) (ps:List Str) (zs:List (V×(Str×Str))) (gs:List Str) (c:Int) (t n:Nat),vs=[.ref k,.int m]∧Bk K C CB H k b ps zs gs c t n∧m≤n∧m≤30 ∧
 ∀ a H',Jf H H'→JfT H' a ps (Zb (zs.map (·.2)) gs c m)→Q (.ref a) H'
def Jmr (x:Addr):Sp:=fun vs H Q E=>∃ (k b dx:Addr) (c t:Int) (ps:List Str) (zs:List (V×(Str×Str))) (gs:List Str),vs=[.ref k,.ref b,.int c,.int t]∧H k=some (.ins CB dx [])∧k≠b∧Bd K C H b ps zs gs ∧
 (¬ (0≤c∧c≤20)→E (.ref x) none H)∧(0≤c∧c≤20→¬ (0≤t∧t≤30)→E (.ref x) none H) ∧
 (0≤c∧c≤20→0≤t∧t≤30→∀ H',Y2 k H H'→Bk K C CB H' k b ps zs gs c t.toNat (t.toNat + 1)→Q .non H')
def Jkp (ps:List Str) (c:Int) (t:Nat) (z:Str) (m north:Int) (x:Str):Prop:=z∈ps∧(0≤m∧m≤t)∧(0≤north∧north≤c)∧JaA x=true
def Jgl (kP kR kH:Addr) (ps:List Str) (c:Int) (t:Nat) (z:Str) (m north:Int) (x:Str) (H:Hp) (E:XK):Prop :=
 (z∉ps→E (.ref kP) none H)∧(z∈ps→¬ (0≤m∧m≤t)→E (.ref kR) none H)∧(z∈ps→0≤m∧m≤t→¬ (0≤north∧north≤c)→E (.ref kR) none H)∧(z∈ps→0≤m∧m≤t→0≤north∧north≤c→JaA x=false→E (.ref kH) none H)
theorem JdG {kP kR kH:Addr} {ps:List Str} {c:Int} {t:Nat} {z:Str} {m north:Int} {x:Str} {H:Hp} {E:XK} (h:Jkp ps c t z m north x):Jgl kP kR kH ps c t z m north x H E :=
 ⟨fun z=>absurd h.1 z,fun _ z=>absurd h.2.1 z,fun _ _ z=>absurd h.2.2.1 z,fun _ _ _ z=>by rw [h.2.2.2] at z; cases z⟩
def Jrh (kP kR kH:Addr):Sp:=fun vs H Q E=>∃ (k b:Addr) (z x:Str) (m north:Int) (ps:List Str) (zs:List (V×(Str×Str))) (gs:List Str) (c:Int) (t:Nat),vs=[.ref k,.str z,.int m,.int north,.str x]∧YQ z∧YQ x∧Bk K C CB H k b ps zs gs c t (t + 1) ∧
 Jgl kP kR kH ps c t z m north x H E∧(Jkp ps c t z m north x→Q .non H)
def JpQ (kP kR kH:Addr):Sp:=fun vs H Q E=>∃ (k b:Addr) (z x:Str) (m north:Int) (ps:List Str) (zs:List (V×(Str×Str))) (gs:List Str) (c:Int) (t:Nat),vs=[.ref k,.str z,.int m,.int north,.str x]∧YQ z∧YQ x∧Bk K C CB H k b ps zs gs c t (t + 1) ∧
 Jgl kP kR kH ps c t z m north x H E∧(z∈ps→(0≤m∧m≤t)→(0≤north∧north≤c)→∀ r,x=hs r→∀ H',Jf H H'→Q (.str (hs (decide (Zb (zs.map (·.2)) gs c m.toNat z r≤north)))) H')
def Juz:Option Int→V
 | none=>.non
 | some i=>.int i
def JiX:Option Str→V
 | none=>.non
 | some i=>.str i
def Yv (zs:List (Str×Str)) (gs:List Str) (m:Nat) (z:Str):Prop:=z∈gs∨m=0∨JB zs z=[]
instance (zs:List (Str×Str)) (gs:List Str) (m:Nat) (z:Str):Decidable (Yv zs gs m z):=by unfold Yv; exact inferInstance
theorem Jfv {z:Str} {m:Nat} {zs:List (Str×Str)} {gs:List Str}:(Yv zs gs m z→∃ x,YT z (m:Int) zs gs=.str x)∧(¬ Yv zs gs m z→YT z (m:Int) zs gs=.non):=by
 unfold YT Yv;by_cases hg:z∈gs
 ·rw [if_pos hg]; exact ⟨fun _=>⟨_,rfl⟩,fun h=>absurd (.inl hg) h⟩
 ·rw [if_neg hg];by_cases h0:(m:Int)=0∨JB zs z=[]
  ·rw [if_pos h0];refine ⟨fun _=>⟨_,rfl⟩,fun h=>absurd (.inr ?_) h⟩;rcases h0 with h0 | h0
   ·exact .inl (by omega)
   ·exact .inr h0
  ·rw [if_neg h0];refine ⟨fun h=>?_,fun _=>rfl⟩;rcases h with h | h | h
   ·exact absurd h hg
   ·exact absurd (.inl (by omega)) h0
   ·exact absurd (.inr h) h0
abbrev gB (gs:List Str):Str→Bool:=fun p=>decide (p∈gs)
def Jg4 (zs:List (Str×Str)) (gs:List Str) (c:Int) (m:Nat) (z:Str) (k:Int) (r:Bool):V :=
 if Yv zs gs m z then .non else if decide (Zb zs gs c m z r≤k)=!r then .int (JuV (JB zs) (gB gs) c (m - 1) z k r) else .non
def Jjn (zs:List (Str×Str)) (gs:List Str) (c:Int) (m:Nat) (z:Str) (k:Int) (r:Bool) (b:Int):V :=
 if Yv zs gs m z then .non else Juz (Jh5 (JB zs) (gB gs) c (m - 1) z k r b)
def Jep (zs:List (Str×Str)) (gs:List Str) (c:Int) (m:Nat) (z:Str) (k:Int) (r h:Bool):V :=
 if Yv zs gs m z then .non else JiX (Jdv (JB zs) (gB gs) c (m - 1) z k r h)
theorem Joo {α:Type} {f:α→Bool} {w:α}:∀ {l:List α} {i:Nat},l[i]?=some w→(∀ x∈l.take i,f x=false)→f w=true→l.find? f=some w
 | [],i,h,_,_=>by simp at h
 | a :: l,0,h,_,hw=>by
  have:a=w:=by simpa using h
  subst this;rw [List.find?_cons,hw]
 | a :: l,i + 1,h,hn,hw=>by
  rw [List.find?_cons,hn a (by simp)];exact Joo (by simpa using h) (fun x hx=>hn x (by simp [hx])) hw
theorem Jo5 (n s:Int) (r:Bool) (b a:Int):∃ s',Jcl n s r b a=[.str (hs (after n r b a).1),.int (after n r b a).2.1,.int s',.str (hs (after n r b a).2.2)]:=by
 unfold Jcl after;by_cases h1:b > a
 ·rw [if_pos h1,if_pos h1]; cases r <;> exact ⟨_,rfl⟩
 ·rw [if_neg h1,if_neg h1];by_cases h2:a > b
  ·rw [if_pos h2,if_pos h2]; cases r <;> exact ⟨_,rfl⟩
  ·rw [if_neg h2,if_neg h2]; cases r <;> exact ⟨_,rfl⟩
theorem JnE {n c:Int} {r:Bool} {b a:Int} (hn:0≤n∧n≤c) (hb:0≤b) (hb2:b≤own c n (!r)) (ha:0≤a) (ha2:a≤own c n r):0≤(after n r b a).2.1∧(after n r b a).2.1≤c:=by
 unfold after;unfold own at hb2 ha2;by_cases h1:b > a
 ·rw [if_pos h1]; cases r <;> simp at hb2 ha2 ⊢ <;> omega
 ·rw [if_neg h1];by_cases h2:a > b
  ·rw [if_pos h2]; cases r <;> simp at hb2 ha2 ⊢ <;> omega
  ·rw [if_neg h2]; cases r <;> simp at hb2 ha2 ⊢ <;> omega
def Jp5 (kP kR kH:Addr):Sp:=fun vs H Q E=>∃ (k b:Addr) (z x:Str) (m north:Int) (ps:List Str) (zs:List (V×(Str×Str))) (gs:List Str) (c:Int) (t:Nat),vs=[.ref k,.str z,.int m,.int north,.str x]∧YQ z∧YQ x∧Bk K C CB H k b ps zs gs c t (t + 1) ∧
 Jgl kP kR kH ps c t z m north x H E∧(z∈ps→(0≤m∧m≤t)→(0≤north∧north≤c)→∀ r,x=hs r→∀ H',Jf H H'→Q (Jg4 (zs.map (·.2)) gs c m.toNat z north r) H')
def JoL (kP kR kH:Addr):Sp:=fun vs H Q E=>∃ (k b:Addr) (z x y:Str) (m north:Int) (ps:List Str) (zs:List (V×(Str×Str))) (gs:List Str) (c:Int) (t:Nat),vs=[.ref k,.str z,.int m,.int north,.str x,.str y]∧YQ z∧YQ x∧YQ y∧Bk K C CB H k b ps zs gs c t (t + 1) ∧
 Jgl kP kR kH ps c t z m north x H E∧(Jkp ps c t z m north x→JaA y=false→E (.ref kH) none H)∧(z∈ps→(0≤m∧m≤t)→(0≤north∧north≤c)→∀ r h,x=hs r→y=hs h→∀ H',Jf H H'→Q (Jep (zs.map (·.2)) gs c m.toNat z north r h) H')
def Jrw:Sp:=fun vs H Q _=>∃ (k b p:Addr) (z:Str) (m:Nat) (l r h:Bool) (n s:Int) (ps:List Str) (zs:List (V×(Str×Str))) (gs:List Str) (c:Int) (t:Nat),vs=[.ref k,.str z,.int ((m:Int) + 1),.ref p,.str (hs h)]∧H p=some (.tup [.str (hs l),.int n,.int s,.str (hs r)])∧Bk K C CB H k b ps zs gs c t (t + 1) ∧
 z∈ps∧m + 1≤t∧(0≤n∧n≤c)∧¬ Yv (zs.map (·.2)) gs (m + 1) z∧∀ H',Jf H H'→Q (.bl ((Jdv (JB (zs.map (·.2))) (gB gs) c m z n r l).isSome == (l == h))) H'
def Jms (kP kR kH kB:Addr):Sp:=fun vs H Q E=>∃ (k b:Addr) (z x:Str) (m north bid:Int) (ps:List Str) (zs:List (V×(Str×Str))) (gs:List Str) (c:Int) (t:Nat),vs=[.ref k,.str z,.int m,.int north,.str x,.int bid]∧YQ z∧YQ x∧Bk K C CB H k b ps zs gs c t (t + 1) ∧
 Jgl kP kR kH ps c t z m north x H E∧(z∈ps→(0≤m∧m≤t)→(0≤north∧north≤c)→∀ r,x=hs r→¬ (0≤bid∧bid≤own c north (!r))→E (.ref kB) none H) ∧
 (z∈ps→(0≤m∧m≤t)→(0≤north∧north≤c)→∀ r,x=hs r→0≤bid∧bid≤own c north (!r)→∀ H',Jf H H'→Q (Jjn (zs.map (·.2)) gs c m.toNat z north r bid) H')
end
section
variable {P:Program} {w:World} {K:PySem.W.Frag} {mg:Str→Option Value} {base:Heap}
theorem Z4 (T:Txt K mg):JM P w K mg base (Zg P w) 1 T.Jd7 T.Jde ["number", "most"] (Js3 T.Ym):=by
 refine T.ZE.F.ok1 Jkq (fun vs H Q E h=>?_) (fun cdv A outer s H vs Q E hr h=>?_)
 ·obtain ⟨_,_,rfl,_⟩:=h;rfl
 ·obtain ⟨n,m,rfl,hm,q1,q2⟩:=h;refine ⟨_,(Xn (Xl (X3 (XH (Xo (@Jeq _) (Xa 0) (Xj 0) (JJ _)) (XV (Xo (@Jer _) (Xa 0) (Xa 1) (JJ _))))) (Xn (XF T.Jei T.JcZ Jcu (X6 (PJ.cons (Xx 0) (PJ.cons (@Jof _ _ _ _ (Xa 1)) PJ.nil))))) (XO 0))),?_⟩;have fm:∀ m:Nat,m < 31→(m:Int).natAbs.log2 < 1920∧(Str.empty ++ Str.ofString "it goes from 0 to " ++ Str.ofString (toString (m:Int))).length≤sizeLine:=by decide +kernel
  obtain ⟨m,rfl⟩:∃ j:Nat,m=(j:Int):=⟨m.toNat,by omega⟩
  have fm:=fm m (by omega);have bad:¬ (0≤n∧n≤m)→Jmm T.Ym E (Jjw [tC (.str "it goes from 0 to "),JoK (fun σ H Q=>∃ v,σ[1]?=some (some v)∧Q v H)] Str.empty) { nx:=fun _ H'=>Q .non H',rt:=Q } [some (.int n),some (.int (m:Int))] H:=fun hb =>
   ⟨_,rfl,by decide +kernel,_,rfl,_,rfl,fm.1,_,rfl,fm.2,fm.2,q2 hb⟩
  refine ⟨_,rfl,_,_,rfl,rfl,_,rfl,YW (fun c=>?_) (fun c=>?_)⟩
  ·exact YG (bad fun z=>by have:=z.1; have:=of_decide_eq_true c; omega)
  refine ⟨_,rfl,_,rfl,_,_,rfl,rfl,_,rfl,YW (fun d=>?_) (fun d=>?_)⟩
  ·exact bad fun z=>by have:=z.2; have:=of_decide_eq_true d; omega
  ·exact q1 ⟨Int.not_lt.mp fun z=>c (decide_eq_true z),Int.not_lt.mp fun z=>d (decide_eq_true z)⟩
theorem Jda (T:Txt K mg):JM P w K mg base (Zg P w) 4 T.Jlb T.Jjc ["board", "place", "turns"] (Jrv K T.JU T.Y8 T.Ym):=by
 refine T.JcF.F.ok1 JrL (fun vs H Q E h=>?_) (fun cdv A outer s H vs Q E hr h=>?_)
 ·obtain ⟨_,_,_,_,_,_,rfl,_⟩:=h;rfl
 ·obtain ⟨b,z,n,ps,zs,gs,rfl,ht,hl,B,q1,q2,q3⟩:=h;refine ⟨_,(Xh (Xr (Xg (Xa 0) T.YU T.Yg.m (Zw T) T.Yg.b .nil Yw (Xc (Xa 1) (Xv 0)))) (Xh (Xr (Xb T.ZE (Z4 T) Yw (Xc (Xa 2) (Xc (XI T.JaJ T.JaG) (Xv 0))))) (Xh (Xl (XQ (Xg (Xa 0) T.YU T.Jbm.m (JiY T) T.Jbm.b .nil Yw (Xc (Xa 1) (Xv 0))) (by intro _; rfl)) (Xn (Xq (Xx 0))) (XO 0)) (Xh (Xl (X3 (XH (Xo (Xab 0) (Xa 2) (Xj 0) (JJ _)) (XV (Xo (Xab 0) (Xe (@JZ _) T.Y5 PySem.boot_len (Xc (Xg (Xa 0) T.YU T.YY.m (JaZ T) T.YY.b .nil Yw (Xc (Xa 1) (Xv 0))) (Xv 0))) (Xj 0) (JJ _))))) (Xn (Xq (Xx 0))) (XO 0)) (Xn (Xq (XW 0))))))),?_⟩;change let Bq1:=_; let Bq2:=Jl _ Bq1; let Bq3:=Jl _ Bq2; let Bq4:=Jl _ Bq3; Jl _ Bq4 _ _ _;intro Bq1 Bq2 Bq3 Bq4;obtain ⟨dx,tp,tl,tg,hb,_⟩:=id B;refine ⟨_,rfl,b,dx,_,rfl,hb,rfl,_,rfl,b,z,ps,zs,gs,rfl,ht,B,fun hin=>?_,q1⟩;refine ⟨_,rfl,n,30,rfl,⟨by decide,by decide⟩,fun hn=>?_,q2 hin⟩;refine ⟨_,rfl,b,dx,_,rfl,hb,rfl,_,rfl,b,z,ps,zs,gs,rfl,ht,B,fun _=>⟨_,rfl,?_⟩,fun h=>absurd hin h⟩;have q:=q3 hin hn;by_cases hg:z∈gs
  ·refine YI (decide_eq_true hg) ?_;have e:YT z n (zs.map (·.2)) gs=.str "north":=by unfold YT; rw [if_pos hg]
   rw [e] at q;exact q H (Jf.refl _)
  ·refine Yi (decide_eq_false hg) ⟨_,rfl,rfl,_,rfl,?_⟩;by_cases h0:n=0
   ·have e:YT z n (zs.map (·.2)) gs=.str "south":=by unfold YT; rw [if_neg hg,if_pos (.inl h0)]
    rw [e] at q;exact YI (by rw [h0]; exact decide_eq_true rfl) (YG (q H (Jf.refl _)))
   ·refine Yi (decide_eq_false fun e=>h0 (V.int.inj e)) ⟨_,rfl,b,dx,_,rfl,hb,rfl,_,rfl,b,z,ps,zs,gs,rfl,ht,hl,B,fun _ t H' e' ht'=>⟨t,_,rfl,.inr (JH.of ht'),rfl,_,rfl,?_⟩,fun h=>absurd hin h⟩;rw [List.length_map];by_cases hw:JB (zs.map (·.2)) z=[]
    ·have e:YT z n (zs.map (·.2)) gs=.str "south":=by unfold YT; rw [if_neg hg,if_pos (.inr hw)]
     rw [e] at q;exact YI (by rw [hw]; exact decide_eq_true rfl) (q H' e')
    ·have e:YT z n (zs.map (·.2)) gs=.non:=by unfold YT; rw [if_neg hg,if_neg (fun h=>h.elim h0 hw)]
     rw [e] at q;refine Yi (decide_eq_false fun e2=>?_) (q H' e');have e3:((JB (zs.map (·.2)) z).length:Int)=0:=V.int.inj e2;exact hw (List.length_eq_zero_iff.mp (by omega))
theorem Jb8 (T:Txt K mg):JM P w K mg base (Zg P w) 1 T.Jfp T.Jd1 ["hand"] (JlZ T.Zr):=by
 refine T.JaM.F.ok1 Jl3 (fun vs H Q E h=>?_) (fun cdv A outer s H vs Q E hr h=>?_)
 ·obtain ⟨_,rfl,_⟩:=h;rfl
 ·obtain ⟨z,rfl,ht,q1,q2⟩:=h;refine ⟨_,(Xn (Xl (Xo (@JcM _) (Xa 0) (XD T.JkP) (by with_unfolding_all rfl)) (Xn (XF T.Jkc T.Jh4 Jcu (X6 (PJ.cons (@JgQ _ _ _ _ (Xa 0)) (PJ.cons (Xx 0) PJ.nil))))) (XO 0))),?_⟩;refine ⟨_,rfl,T.JgF,_,rfl,.inr (T.Jia H),rfl,rfl,_,rfl,?_⟩;rw [if_pos rfl,JqB];have hz:=JfG ht;have e1:(Str.empty ++ reprText z).length=(reprText z).length:=by rw [strLen_append]; exact Nat.zero_add _
  cases hb:JaA z with
  | true=>exact Yk (q1 hb)
  | false =>
   refine YG ⟨_,rfl,z,rfl,Nat.le_trans hz (by decide),_,rfl,by rw [e1]; exact Nat.le_trans hz (by decide),_,rfl,?_,?_,q2 hb⟩
   all_goals
    rw [strLen_append,e1];refine Nat.le_trans (Nat.add_le_add_right hz _) (by decide)
theorem JgS (T:Txt K mg):JM P w K mg base (Zg P w) 2 T.Jk6 T.Ji7 ["hand"] (Jrj T.Zr):=by
 refine T.JeJ.F.ok1 JrJ (fun vs H Q E h=>?_) (fun cdv A outer s H vs Q E hr h=>?_)
 ·obtain ⟨_,rfl,_⟩:=h;rfl
 ·obtain ⟨z,rfl,ht,q1,q2⟩:=h;refine ⟨_,(Xh (Xr (Xb T.JaM (Jb8 T) Yw (Xc (Xa 0) (Xv 0)))) (Xn (Xq (X0 (Xo (Xab 0) (Xa 0) (Xx 0) (JJ _)) (Xx 0) (Xx 0))))),?_⟩;change let Bq1:=_; Jl _ Bq1 _ _ _;intro Bq1;refine ⟨_,rfl,z,rfl,ht,fun hb=>?_,q2⟩;obtain ⟨b,rfl⟩:=JeG hb;refine ⟨_,rfl,rfl,_,rfl,?_⟩;rw [JhQ];cases b with
  | true=>exact YG (q1 true rfl)
  | false=>exact Yk (q1 false rfl)
theorem JbY (T:Txt K mg):JM P w K mg base Yy 1 T.JgY T.Jf7 ["hand", "north", "south"] JnS:=by
 refine T.JaT.F.ok JnU (fun vs H Q E h=>?_) (fun cdv A outer s H vs Q E hr h=>?_)
 ·obtain ⟨_,_,_,rfl,_⟩:=h;rfl
 ·obtain ⟨b,n,s,rfl,q⟩:=h;refine ⟨_,(Xn (Xq (X0 (Xo (Xab 0) (Xa 0) (Xx 0) (JJ _)) (Xa 1) (Xa 2)))),?_⟩;refine ⟨_,rfl,rfl,_,rfl,?_⟩;rw [JhQ];cases b with
  | true=>exact YG ⟨_,rfl,q⟩
  | false=>exact Yk ⟨_,rfl,q⟩
theorem JmY (T:Txt K mg):JM P w K mg base Yy 1 T.Jpq T.Jnk ["hand", "price", "north", "south", "ribbon"] Juc:=by
 refine T.Jkh.F.ok Juj (fun vs H Q E h=>?_) (fun cdv A outer s H vs Q E hr h=>?_)
 ·obtain ⟨_,_,_,_,_,rfl,_⟩:=h;rfl
 ·obtain ⟨b,c,n,s,r,rfl,q⟩:=h;refine ⟨_,(Xh (Xl (Xo (Xab 0) (Xa 0) (Xx 0) (JJ _)) (Xn (Xq (XA (Xc (Xa 0) (Xc (Xi (@YR _) (Xa 2) (Xa 1)) (Xc (Xi (X8 0) (Xa 3) (Xa 1)) (Xc (Xa 4) (Xv 0)))))))) (XO 0)) (Xn (Xq (XA (Xc (Xa 0) (Xc (Xi (X8 0) (Xa 2) (Xa 1)) (Xc (Xi (@YR _) (Xa 3) (Xa 1)) (Xc (Xa 4) (Xv 0))))))))),?_⟩;change let Bq1:=_; Jl _ Bq1 _ _ _;intro Bq1;refine ⟨_,rfl,rfl,_,rfl,?_⟩;rw [JhQ];cases b with
  | true=>exact YG ⟨_,rfl,_,rfl,_,rfl,_,_,rfl,rfl,_,rfl,_,rfl,_,_,rfl,rfl,_,rfl,by show 4≤sizeLine; decide,fun p hp=>q p _ (Jf.upd hp) Jh⟩
  | false=>exact Yk ⟨_,rfl,_,rfl,_,rfl,_,_,rfl,rfl,_,rfl,_,rfl,_,_,rfl,rfl,_,rfl,by show 4≤sizeLine; decide,fun p hp=>q p _ (Jf.upd hp) Jh⟩
theorem Jgs (T:Txt K mg):JM P w K mg base (Zg P w) 1 T.Jea T.Jdh ["north", "south"] (Jko T.Ym):=by
 refine T.Jcb.F.ok1 Jkr (fun vs H Q E h=>?_) (fun cdv A outer s H vs Q E hr h=>?_)
 ·obtain ⟨_,_,rfl,_⟩:=h;rfl
 ·obtain ⟨n,s,rfl,q1,q2⟩:=h;refine ⟨_,(Xn (Xl (X3 (XH (Xo (@Jeq _) (Xa 0) (Xj 0) (JJ _)) (XH (Xo (@Jeq _) (Xa 1) (Xj 0) (JJ _)) (XV (Xo (@Jer _) (Xi (X8 0) (Xa 0) (Xa 1)) (XI T.JaK T.JaH) (JJ _)))))) (Xn (XF T.Jei T.JcZ Jcu (X6 (PJ.cons (Xx 0) (PJ.cons (@Jof _ _ _ _ (XI T.JaK T.JaH)) PJ.nil))))) (XO 0))),?_⟩;have bad:¬ ZM n s→Jmm T.Ym E (Jjw [tC (.str "coins go from 0, both hands' together to "),JoK (tC (.int 20))] Str.empty) { nx:=fun _ H'=>Q .non H',rt:=Q } [some (.int n),some (.int s)] H:=fun hb =>
   ⟨_,rfl,by decide +kernel,_,rfl,by decide +kernel,_,rfl,by decide +kernel,by decide +kernel,q2 hb⟩
  refine ⟨_,rfl,_,_,rfl,rfl,_,rfl,YW (fun c=>?_) (fun c=>?_)⟩
  ·exact YG (bad fun z=>by have:=z.1; have:=of_decide_eq_true c; omega)
  refine ⟨_,rfl,_,_,rfl,rfl,_,rfl,YW (fun d=>?_) (fun d=>?_)⟩
  ·exact YG (bad fun z=>by have:=z.2.1; have:=of_decide_eq_true d; omega)
  refine ⟨_,rfl,_,rfl,_,_,rfl,rfl,_,_,rfl,rfl,_,rfl,YW (fun e=>?_) (fun e=>?_)⟩
  ·exact bad fun z=>by have:=z.2.2; have:=of_decide_eq_true e; omega
  ·refine q1 ⟨?_,?_,?_⟩
   ·exact Int.not_lt.mp fun z=>c (decide_eq_true z)
   ·exact Int.not_lt.mp fun z=>d (decide_eq_true z)
   ·exact Int.not_lt.mp fun z=>e (decide_eq_true z)
theorem JcN (T:Txt K mg):JM P w K mg base (Zg P w) 1 T.Jgc T.Jfg ["named", "coins"] (Jmq T.JaD):=by
 refine T.Ja7.F.ok1 Jmy (fun vs H Q E h=>?_) (fun cdv A outer s H vs Q E hr h=>?_)
 ·obtain ⟨_,_,rfl,_⟩:=h;rfl
 ·obtain ⟨n,s,rfl,q1,q2⟩:=h;refine ⟨_,(Xn (Xl (X3 (XH (Xo (@Jeq _) (Xa 0) (Xj 0) (JJ _)) (XV (Xo (@Jer _) (Xa 0) (Xa 1) (JJ _))))) (Xn (XF T.JlV T.Jjk Jcu (Xx 0))) (XO 0))),?_⟩;refine ⟨_,rfl,_,_,rfl,rfl,_,rfl,YW (fun c=>?_) (fun c=>?_)⟩
  ·exact YG (q2 fun z=>by have:=z.1; have:=of_decide_eq_true c; omega)
  refine ⟨_,rfl,_,rfl,_,_,rfl,rfl,_,rfl,YW (fun d=>?_) (fun d=>?_)⟩
  ·exact q2 fun z=>by have:=z.2; have:=of_decide_eq_true d; omega
  ·exact q1 ⟨Int.not_lt.mp fun z=>c (decide_eq_true z),Int.not_lt.mp fun z=>d (decide_eq_true z)⟩
theorem Jlw (T:Txt K mg):JM P w K mg base (Zg P w) 3 T.Jjf T.JhT ["north", "south", "ribbon", "bid", "answer"] (JpU T.Ym T.Zr T.JaD):=by
 refine T.Jg5.F.ok1 Jls (fun vs H Q E h=>?_) (fun cdv A outer s H vs Q E hr h=>?_)
 ·obtain ⟨_,_,_,_,_,rfl,_⟩:=h;rfl
 ·obtain ⟨n,s,z,b,a,rfl,ht,q1,q2,q3,q⟩:=h;refine ⟨_,(Xh (Xr (Xb T.Jcb (Jgs T) Yw (Xc (Xa 0) (Xc (Xa 1) (Xv 0))))) (Xh (Xd 5 Jls.nd (Xb T.JeJ (JgS T) Yw (Xc (Xa 2) (Xv 0)))) (Xh (Xr (Xb T.Ja7 (JcN T) Yw (Xc (Xa 3) (Xc (Xb T.JaT (JbY T) Jp (Xc (Xa 5) (Xc (Xa 0) (Xc (Xa 1) (Xv 0))))) (Xv 0))))) (Xh (Xr (Xb T.Ja7 (JcN T) Yw (Xc (Xa 4) (Xc (Xb T.JaT (JbY T) Jp (Xc (Xa 2) (Xc (Xa 0) (Xc (Xa 1) (Xv 0))))) (Xv 0))))) (Xh (Xl (Xo (@Jer _) (Xa 3) (Xa 4) (JJ _)) (Xn (Xq (Xb T.Jkh (JmY T) Jp (Xc (Xa 5) (Xc (Xa 3) (Xc (Xa 0) (Xc (Xa 1) (Xc (Xa 2) (Xv 0))))))))) (XO 0)) (Xh (Xl (Xo (@Jer _) (Xa 4) (Xa 3) (JJ _)) (Xn (Xq (Xb T.Jkh (JmY T) Jp (Xc (Xa 2) (Xc (Xa 4) (Xc (Xa 0) (Xc (Xa 1) (Xc (Xa 2) (Xv 0))))))))) (XO 0)) (Xn (Xq (Xb T.Jkh (JmY T) Jp (Xc (Xa 2) (Xc (Xa 4) (Xc (Xa 0) (Xc (Xa 1) (Xc (Xa 5) (Xv 0))))))))))))))),?_⟩;change let Bq1:=_; let Bq2:=Jl _ Bq1; let Bq3:=Jl _ Bq2; let Bq4:=Jl _ Bq3; let Bq5:=Jl _ Bq4; let Bq6:=Jl _ Bq5; Jl _ Bq6 _ _ _;intro Bq1 Bq2 Bq3 Bq4 Bq5 Bq6;refine ⟨_,rfl,_,rfl,n,s,rfl,fun hc=>?_,q1⟩;refine ⟨_,rfl,z,rfl,ht,fun r hz=>?_,q2 hc⟩;subst hz;refine ⟨_,rfl,_,rfl,_,rfl,_,rfl,_,n,s,rfl,b,_,rfl,fun hb=>?_,fun hb=>q3 r rfl hc fun z=>hb (by cases r <;> exact z.1)⟩;refine ⟨_,rfl,_,rfl,_,rfl,_,rfl,r,n,s,rfl,a,_,rfl,fun ha=>?_,fun ha=>q3 r rfl hc fun z=>ha z.2⟩;have hok:JfA n s r b a:=⟨by cases r <;> exact hb,ha⟩
  have q:=q r rfl hc hok;refine ⟨_,rfl,_,rfl,_,_,rfl,rfl,_,rfl,?_⟩;refine YW (fun c=>?_) (fun c=>?_)
  ·have c':a < b:=of_decide_eq_true c;refine ⟨_,rfl,_,rfl,_,rfl,_,rfl,_,rfl,_,b,n,s,r,rfl,fun p H' e hp=>q p H' e ?_⟩;rw [hp,JiW,if_pos c']
  ·have c':¬ a < b:=fun z=>c (decide_eq_true z)
   refine ⟨_,rfl,_,rfl,_,_,rfl,rfl,_,rfl,?_⟩;refine YW (fun d=>?_) (fun d=>?_)
   ·have d':b < a:=of_decide_eq_true d;refine ⟨_,rfl,_,rfl,_,rfl,_,rfl,_,rfl,_,a,n,s,r,rfl,fun p H' e hp=>q p H' e ?_⟩;rw [hp,JiW,if_neg c',if_pos d']
   ·have d':¬ b < a:=fun z=>d (decide_eq_true z)
    refine ⟨_,rfl,_,rfl,_,rfl,_,rfl,_,rfl,_,a,n,s,_,rfl,fun p H' e hp=>q p H' e ?_⟩;rw [hp,JiW,if_neg c',if_neg d']
theorem Jaw (T:Txt K mg):JM P w K mg base Yy 4 T.ZG T.ZA ["self", "place", "turns"] (Jue K T.JU T.JX):=by
 refine T.Yu.F.ok Jat (fun vs H Q E h=>?_) (fun cdv A outer s H vs Q E hr h=>?_)
 ·obtain ⟨_,_,_,_,_,_,_,_,_,_,rfl,_⟩:=h;rfl
 ·obtain ⟨k,b,z,m,ps,zs,gs,c,t,n,rfl,B,hm,hz,hw,q⟩:=h;have hu:=JgT hr;refine ⟨_,(@Jd _ _ _ _ _ (@Js _ _ 3 _ _ _ _ Jat.nd rfl (Or.inr rfl) (@Jw _ _ _ _ _ _ _ (@JP _) (@Jz _ _ _ _ _ (@pv _ 0 _ _ rfl (.inl rfl) rfl rfl) rfl) (@Jm _ _ _ _ _ _ _ _ (@YR _) (@pv _ 2 _ _ rfl (.inl rfl) rfl rfl) (@Je _ _ _ _)) (fun _ _=>rfl)) rfl (by first | exact .inl rfl | exact .inr rfl | assumption)) (@Jg _ _ _ (@Jo _ _ _ _ (@JF _ _ _ _ _ _ _ _ _ (@JqV _ rfl) rfl T.JjO PyProof.Rows.boot_min (@Ja _ _ _ _ _ (@JgR _ _ _ _ _ _ _ 1 ["way", "behind"] [3] _ _ _ _ ["self", "place", "turns", "behind"] ((Jn Y4).names) (by decide +kernel) (@Je5 _ _ _ _ (@J9 _ _ _ _ _ _ _ _ _ _ _ _ _ _ _ _ _ _ _ _ (@Jz _ _ _ _ _ (@pv _ 0 _ _ rfl (.inl rfl) rfl rfl) rfl) T.YU T.YY.m (JaZ T) (hr.mono (by decide)) T.YY.b .nil Za (@Ja _ _ _ _ _ (@pv _ 1 _ _ rfl (.inl rfl) rfl rfl) (@Jb _) rfl) rfl rfl rfl)) (fun _ _ _ _=>(@JaX _ _ _ _ _ _ _ _ _ 0 (by decide +kernel) rfl rfl)) (fun _ _ _ _=>(@Jez _)) (fun _ _ _ _=>(@JeC _ _ _ _ _ _ hu (@Jbv _ _ _ _ _ _ _ _ _ 1 rfl rfl (by decide) (by decide)) (@J7 _ _ _ _ _ (@Ja _ _ _ _ _ (@Jaa _ _ _ _ _ _ _ _ _ 0 rfl rfl (by decide) (by decide)) (@Ja _ _ _ _ _ (@JG _ _ _ _) (@Jb _) rfl) rfl)) (fun _ _=>rfl))) rfl rfl rfl (by intro _; rfl)) (@Jb _) rfl) (by decide) (by decide) rfl rfl)))),?_⟩;change let Bq1:=_; Jl _ Bq1 _ _ _;intro Bq1;obtain ⟨dx,l,rs,h1,h2,h3,h4⟩:=B.at_;obtain ⟨a,ha⟩:∃ a,rs[m]?=some a:=⟨_,List.getElem?_eq_getElem (by omega)⟩
  obtain ⟨kvs,hk1,hk2⟩:=h4 m a ha;obtain ⟨bdx,tp,tl,tg,hb,_⟩:=id B.B.B;have hwl:=Jlm B.B.G z;have hat:atI (rs.map V.ref) ((m:Int) + 1 - 1)=some (.ref a):=by
   rw [Int.add_sub_cancel]; exact Zt (by rw [List.getElem?_map,ha]; rfl)
  refine ⟨_,rfl,k,_,dx,_,.ref l,rfl,h1,T.J3,T.Jaj,rfl,_,rfl,_,_,rfl,rfl,l,_,_,.ref a,rfl,rfl,JA.of h2,hat,?_⟩;refine ⟨_,rfl,k,_,dx,_,.ref b,rfl,h1,T.J3,T.YV,rfl,b,bdx,_,rfl,hb,rfl,_,rfl,b,z,ps,zs,gs,rfl,Zc (B.B.G.p3 z hz),B.B.zl,B.B.B,fun _ tw H1 e1 ht=>?_,fun h=>absurd hz h⟩;refine ⟨tw,rfl,⟨_,JH.of ht⟩,fun D hD=>?_⟩;refine Jjh (xs:=(JB (zs.map (·.2)) z).map V.str) (fun i ys H2=>Jf H1 H2∧H2 D=some (.lst ys)∧ys=((JB (zs.map (·.2)) z).take i).map fun w=>V.int (Zb (zs.map (·.2)) gs c m w false)) rfl (fun i ys H2 p=>JH.of (p.1 _ _ ht)) ⟨Jf.upd hD,Jh,by simp⟩ (fun i ys H2 p=>p.2.1) ?_ ?_
  ·rintro i x ys H2 hx ⟨e2,hy,rfl⟩;rw [List.getElem?_map] at hx;obtain ⟨w',hw1,rfl⟩:=Option.map_eq_some_iff.mp hx;have hin:=Jew B.B.G (List.mem_of_getElem? hw1);refine tcT ?_;refine ⟨_,rfl,_,rfl,by show 2≤sizeLine; decide,fun p hp=>?_⟩;have g:=Jel.t (k:=Jbf w' false) ((Jf.upd (o:=.tup [.str w',.str "south"]) hp) _ _ (e2 _ _ (e1 _ _ hk1))) (show upd H2 p (.tup [.str w',.str "south"]) p=some (.tup ((Jbf w' false).map kV)) from Jh);rw [hk2 w' hin false] at g;have hDp:D≠p:=JC hy hp;refine ⟨a,_,rfl,g,by rw [JD hDp]; exact hy,?_,fun b' u e=>?_,Jh,?_⟩
   ·rw [List.length_map,List.length_take];refine Nat.lt_of_le_of_lt (Nat.min_le_right _ _) (Nat.lt_of_le_of_lt hwl (by decide))
   ·rw [JD (JC e hD),JD (JC (e2 _ _ e) hp)]; exact e2 b' u e
   ·rw [List.take_succ,hw1,List.map_append]; rfl
  ·rintro ys H2 ⟨e2,hy,rfl⟩;rw [List.length_map,List.take_length] at hy;have e:((JB (zs.map (·.2)) z).map fun w=>V.int (Zb (zs.map (·.2)) gs c m w false))=((JB (zs.map (·.2)) z).map fun w=>Zb (zs.map (·.2)) gs c m w false).map V.int:=by rw [List.map_map]; rfl
   rw [e] at hy;refine ⟨D,_,rfl,JA.of hy,?_,fun M hM1 hM2=>?_⟩
   ·rw [List.length_map]; exact List.length_pos_iff.mpr hw
   ·rw [JtM hM1 hM2]; exact q H2 (e1.trans e2)
theorem Jav (T:Txt K mg):JM P w K mg base Yy 4 T.ZF T.Zz ["self", "place", "turns"] (Jud K T.JU T.JX):=by
 refine T.Yt.F.ok Jas (fun vs H Q E h=>?_) (fun cdv A outer s H vs Q E hr h=>?_)
 ·obtain ⟨_,_,_,_,_,_,_,_,_,_,rfl,_⟩:=h;rfl
 ·obtain ⟨k,b,z,m,ps,zs,gs,c,t,n,rfl,B,hm,hz,hw,q⟩:=h;have hu:=JgT hr;refine ⟨_,(@Jd _ _ _ _ _ (@Js _ _ 3 _ _ _ _ Jas.nd rfl (Or.inr rfl) (@Jw _ _ _ _ _ _ _ (@JP _) (@Jz _ _ _ _ _ (@pv _ 0 _ _ rfl (.inl rfl) rfl rfl) rfl) (@Jm _ _ _ _ _ _ _ _ (@YR _) (@pv _ 2 _ _ rfl (.inl rfl) rfl rfl) (@Je _ _ _ _)) (fun _ _=>rfl)) rfl (by first | exact .inl rfl | exact .inr rfl | assumption)) (@Jg _ _ _ (@Jo _ _ _ _ (@JF _ _ _ _ _ _ _ _ _ (@JqW _ rfl) rfl T.JfL PyProof.Rows.boot_max (@Ja _ _ _ _ _ (@JgR _ _ _ _ _ _ _ 1 ["way", "behind"] [3] _ _ _ _ ["self", "place", "turns", "behind"] ((Jn Y3).names) (by decide +kernel) (@Je5 _ _ _ _ (@J9 _ _ _ _ _ _ _ _ _ _ _ _ _ _ _ _ _ _ _ _ (@Jz _ _ _ _ _ (@pv _ 0 _ _ rfl (.inl rfl) rfl rfl) rfl) T.YU T.YY.m (JaZ T) (hr.mono (by decide)) T.YY.b .nil Za (@Ja _ _ _ _ _ (@pv _ 1 _ _ rfl (.inl rfl) rfl rfl) (@Jb _) rfl) rfl rfl rfl)) (fun _ _ _ _=>(@JaX _ _ _ _ _ _ _ _ _ 0 (by decide +kernel) rfl rfl)) (fun _ _ _ _=>(@Jez _)) (fun _ _ _ _=>(@JeC _ _ _ _ _ _ hu (@Jbv _ _ _ _ _ _ _ _ _ 1 rfl rfl (by decide) (by decide)) (@J7 _ _ _ _ _ (@Ja _ _ _ _ _ (@Jaa _ _ _ _ _ _ _ _ _ 0 rfl rfl (by decide) (by decide)) (@Ja _ _ _ _ _ (@JG _ _ _ _) (@Jb _) rfl) rfl)) (fun _ _=>rfl))) rfl rfl rfl (by intro _; rfl)) (@Jb _) rfl) (by decide) (by decide) rfl rfl)))),?_⟩;change let Bq1:=_; Jl _ Bq1 _ _ _;intro Bq1;obtain ⟨dx,l,rs,h1,h2,h3,h4⟩:=B.at_;obtain ⟨a,ha⟩:∃ a,rs[m]?=some a:=⟨_,List.getElem?_eq_getElem (by omega)⟩
  obtain ⟨kvs,hk1,hk2⟩:=h4 m a ha;obtain ⟨bdx,tp,tl,tg,hb,_⟩:=id B.B.B;have hwl:=Jlm B.B.G z;have hat:atI (rs.map V.ref) ((m:Int) + 1 - 1)=some (.ref a):=by
   rw [Int.add_sub_cancel]; exact Zt (by rw [List.getElem?_map,ha]; rfl)
  refine ⟨_,rfl,k,_,dx,_,.ref l,rfl,h1,T.J3,T.Jaj,rfl,_,rfl,_,_,rfl,rfl,l,_,_,.ref a,rfl,rfl,JA.of h2,hat,?_⟩;refine ⟨_,rfl,k,_,dx,_,.ref b,rfl,h1,T.J3,T.YV,rfl,b,bdx,_,rfl,hb,rfl,_,rfl,b,z,ps,zs,gs,rfl,Zc (B.B.G.p3 z hz),B.B.zl,B.B.B,fun _ tw H1 e1 ht=>?_,fun h=>absurd hz h⟩;refine ⟨tw,rfl,⟨_,JH.of ht⟩,fun D hD=>?_⟩;refine Jjh (xs:=(JB (zs.map (·.2)) z).map V.str) (fun i ys H2=>Jf H1 H2∧H2 D=some (.lst ys)∧ys=((JB (zs.map (·.2)) z).take i).map fun w=>V.int (Zb (zs.map (·.2)) gs c m w true)) rfl (fun i ys H2 p=>JH.of (p.1 _ _ ht)) ⟨Jf.upd hD,Jh,by simp⟩ (fun i ys H2 p=>p.2.1) ?_ ?_
  ·rintro i x ys H2 hx ⟨e2,hy,rfl⟩;rw [List.getElem?_map] at hx;obtain ⟨w',hw1,rfl⟩:=Option.map_eq_some_iff.mp hx;have hin:=Jew B.B.G (List.mem_of_getElem? hw1);refine tcT ?_;refine ⟨_,rfl,_,rfl,by show 2≤sizeLine; decide,fun p hp=>?_⟩;have g:=Jel.t (k:=Jbf w' true) ((Jf.upd (o:=.tup [.str w',.str "north"]) hp) _ _ (e2 _ _ (e1 _ _ hk1))) (show upd H2 p (.tup [.str w',.str "north"]) p=some (.tup ((Jbf w' true).map kV)) from Jh);rw [hk2 w' hin true] at g;have hDp:D≠p:=JC hy hp;refine ⟨a,_,rfl,g,by rw [JD hDp]; exact hy,?_,fun b' u e=>?_,Jh,?_⟩
   ·rw [List.length_map,List.length_take];refine Nat.lt_of_le_of_lt (Nat.min_le_right _ _) (Nat.lt_of_le_of_lt hwl (by decide))
   ·rw [JD (JC e hD),JD (JC (e2 _ _ e) hp)]; exact e2 b' u e
   ·rw [List.take_succ,hw1,List.map_append]; rfl
  ·rintro ys H2 ⟨e2,hy,rfl⟩;rw [List.length_map,List.take_length] at hy;have e:((JB (zs.map (·.2)) z).map fun w=>V.int (Zb (zs.map (·.2)) gs c m w true))=((JB (zs.map (·.2)) z).map fun w=>Zb (zs.map (·.2)) gs c m w true).map V.int:=by rw [List.map_map]; rfl
   rw [e] at hy;refine ⟨D,_,rfl,JA.of hy,?_,fun M hM1 hM2=>?_⟩
   ·rw [List.length_map]; exact List.length_pos_iff.mpr hw
   ·rw [JtO hM1 hM2]; exact q H2 (e1.trans e2)
theorem JjM (T:Txt K mg):JM P w K mg base Yy 5 T.Jdq T.JcV ["self", "place", "turns", "ribbon"] (Js9 K T.JU T.JX):=by
 refine T.JbM.F.ok Jbh (fun vs H Q E h=>?_) (fun cdv A outer s H vs Q E hr h=>?_)
 ·obtain ⟨_,_,_,_,_,_,_,_,_,_,_,rfl,_⟩:=h;rfl
 ·obtain ⟨k,b,z,m,r,ps,zs,gs,c,t,n,rfl,B,hm,hm2,hz,q⟩:=h;refine ⟨_,(Xh (Xd 4 Jbh.nd (Xb T.JcF (Jda T) Za (Xc (Xm (Xa 0)) (Xc (Xa 1) (Xc (Xa 2) (Xv 0)))))) (Xh (Xl (XM (X9 (Xa 4)) (by first | exact YA _ (by decide) (by decide) | rfl)) (Xn (Xq (X0 (Xo (Xab 0) (Xa 4) (Xx 0) (JJ _)) (Xj 0) (Xi (X8 0) (Xm (Xa 0)) (Xj 0))))) (XO 0)) (Xh (Xd 5 Jbh.nd (Xg (Xa 0) T.J3 T.Yu.m (Jaw T) T.Yu.b .nil Jp (Xc (Xa 1) (Xc (Xa 2) (Xv 0))))) (Xh (Xd 6 Jbh.nd (Xg (Xa 0) T.J3 T.Yt.m (Jav T) T.Yt.b .nil Jp (Xc (Xa 1) (Xc (Xa 2) (Xv 0))))) (Xh (Xl (Xo (Xab 0) (Xa 3) (Xx 0) (JJ _)) (Xn (Xq (Xe (@JcD _ rfl) T.JfL PyProof.Rows.boot_max (Xc (Xa 5) (Xc (Xi (@YJ _) (Xi (X8 0) (Xa 5) (Xa 6)) (Xj 0)) (Xv 0)))))) (XO 0)) (Xn (Xq (Xe (@Jh1 _ rfl) T.JjO PyProof.Rows.boot_min (Xc (Xa 6) (Xc (Xi (@YJ _) (Xi (X8 0) (Xi (X8 0) (Xa 5) (Xa 6)) (Xj 0)) (Xj 0)) (Xv 0))))))))))),?_⟩;change let Bq1:=_; let Bq2:=Jl _ Bq1; let Bq3:=Jl _ Bq2; let Bq4:=Jl _ Bq3; let Bq5:=Jl _ Bq4; Jl _ Bq5 _ _ _;intro Bq1 Bq2 Bq3 Bq4 Bq5;obtain ⟨dx,l,rs,h1,h2,h3,h4⟩:=B.at_;refine ⟨_,rfl,k,_,dx,_,.ref b,rfl,h1,T.J3,T.YV,rfl,_,rfl,_,rfl,b,z,m,ps,zs,gs,rfl,Zc (B.B.G.p3 z hz),B.B.zl,B.B.B,fun h=>absurd hz h,fun _ h=>absurd (by omega) h,fun _ _ H1 e1=>?_⟩;by_cases hg:z∈gs
  ·have ev:YT z m (zs.map (·.2)) gs=.str "north":=by unfold YT; rw [if_pos hg]
   rw [ev];have en:Zb (zs.map (·.2)) gs c m z r=0:=JhD (decide_eq_true hg);rw [en] at q;exact ⟨_,rfl,_,rfl,YG ⟨_,rfl,rfl,_,rfl,YG (q H1 e1)⟩⟩
  ·by_cases h0:(m:Int)=0∨JB (zs.map (·.2)) z=[]
   ·have ev:YT z m (zs.map (·.2)) gs=.str "south":=by unfold YT; rw [if_neg hg,if_pos h0]
    rw [ev];have en:Zb (zs.map (·.2)) gs c m z r=c + 1:=by
     rcases h0 with h0 | h0
     ·have:m=0:=by omega
      subst this;exact Jqk (decide_eq_false hg)
     ·exact JhC (decide_eq_false hg) h0
    rw [en] at q;exact ⟨_,rfl,_,rfl,YG ⟨_,rfl,rfl,_,rfl,Yk ⟨_,rfl,k,_,dx,_,.int c,rfl,e1 _ _ h1,T.J3,T.Ja2,rfl,_,_,rfl,rfl,q H1 e1⟩⟩⟩
   ·have ev:YT z m (zs.map (·.2)) gs=.non:=by unfold YT; rw [if_neg hg,if_neg h0]
    rw [ev];obtain ⟨j,rfl⟩:∃ j,m=j + 1:=⟨m - 1,by omega⟩
    have hw:JB (zs.map (·.2)) z≠[]:=fun e=>h0 (.inr e)
    refine ⟨_,rfl,_,rfl,Yk ?_⟩;refine ⟨_,rfl,k,dx,_,rfl,e1 _ _ h1,rfl,_,rfl,_,rfl,k,b,z,j,ps,zs,gs,c,t,n,rfl,B.same e1,by omega,hz,hw,fun H2 e2=>?_⟩;have e12:=e1.trans e2;refine ⟨_,rfl,k,dx,_,rfl,e12 _ _ h1,rfl,_,rfl,_,rfl,k,b,z,j,ps,zs,gs,c,t,n,rfl,B.same e12,by omega,hz,hw,fun H3 e3=>?_⟩;have q:=q H3 (e12.trans e3);refine ⟨_,rfl,rfl,_,rfl,?_⟩;rw [JhQ];cases r with
    | true =>
     rw [Zb,Jqm (W:=JB (zs.map (·.2))) (g:=fun p=>decide (p∈gs)) (p:=z) (decide_eq_false hg) hw] at q;exact YG ⟨_,rfl,_,rfl,_,rfl,_,_,rfl,rfl,_,_,rfl,rfl,⟨by decide,by decide⟩,_,_,rfl,q⟩
    | false =>
     rw [Zb,Jql (W:=JB (zs.map (·.2))) (g:=fun p=>decide (p∈gs)) (p:=z) (decide_eq_false hg) hw] at q;exact Yk ⟨_,rfl,_,rfl,_,rfl,_,_,rfl,rfl,_,_,rfl,rfl,_,_,rfl,rfl,⟨by decide,by decide⟩,_,_,rfl,q⟩
theorem Jhz (T:Txt K mg):JM P w K mg base Yy 6 T.JbW T.JbC ["self", "turns"] (Jrk K T.JU T.JX):=by
 refine T.JaE.F.ok Jar (fun vs H Q E h=>?_) (fun cdv A outer s H vs Q E hr h=>?_)
 ·obtain ⟨_,_,_,_,_,_,_,_,_,rfl,_⟩:=h;rfl
 ·obtain ⟨k,b,m,ps,zs,gs,c,t,n,rfl,B,hm,hm2,q⟩:=h;have hu:=JgT hr;have szl:sizeLine=16777216:=sizeLine_eq;refine ⟨_,(Xh (Xd 2 Jar.nd (@JrU _ _)) (Xh (Xy PassesOwn.never (@Je5 _ _ _ _ (Xm (Xm (Xa 0)))) (Xk 3 Jar.nd) (Xn (Xy PassesOwn.never (@Je5 _ _ _ _ (XD T.JkP)) (Xk 4 Jar.nd) (Xn (@Jtu _ _ _ _ _ _ _ _ _ hu (Xa 2) (XA (Xc (Xa 3) (Xc (Xa 4) (Xv 0)))) (Xg (Xa 0) T.J3 T.JbM.m (JjM T) T.JbM.b .nil Jp (Xc (Xa 3) (Xc (Xa 1) (Xc (Xa 4) (Xv 0))))) rfl)) (by intro _; rfl))) (by intro _; rfl)) (Xn (Xq (Xa 2))))),?_⟩;change let Bq1:=_; let Bq2:=Jl _ Bq1; Jl _ Bq2 _ _ _;intro Bq1 Bq2;obtain ⟨dx,l,rs,h1,h2,h3,h4⟩:=B.at_;obtain ⟨bdx,tp,tl,tg,hb,hp,_⟩:=id B.B.B;intro d hd;have kp:∀ {H2:Hp} {kvs:List (List J5×V)},Jf H H2→Jf H (upd H2 d (.dT kvs)):=fun e b' u h=>by rw [JD (JC h hd)]; exact e b' u h
  refine ⟨_,rfl,k,_,dx,_,.ref b,rfl,kp (Jf.refl _) _ _ h1,T.J3,T.YV,rfl,b,_,bdx,_,.ref tp,rfl,kp (Jf.refl _) _ _ hb,T.YU,T.Jbj,rfl,tp,rfl,⟨_,JH.of (kp (Jf.refl _) _ _ hp)⟩,?_⟩;refine Jim (xs:=ps.map V.str) (fun i σ H2=>∃ kvs v1 v2,Jf H H2∧H2 d=some (.dT kvs)∧kvs.length≤2 * i∧(∀ p∈ps.take i,∀ r,ZK kvs (Jbf p r)=some (.int (Zb (zs.map (·.2)) gs c m p r)))∧σ=[some (.ref k),some (.int m),some (.ref d),v1,v2])
   ⟨[],none,none,kp (Jf.refl _),Jh,Nat.zero_le _,fun p hp=>by simp at hp,rfl⟩ (fun i σ H2 _ h=>by obtain ⟨_,_,_,e,_⟩:=h; exact JH.of (e _ _ hp)) ?_ ?_
  ·rintro i x σ H2 hx ⟨kvs,v1,v2,e2,hd2,hl2,hv2,rfl⟩;rw [List.getElem?_map] at hx;obtain ⟨p,hp1,rfl⟩:=Option.map_eq_some_iff.mp hx;have hpm:=List.mem_of_getElem? hp1;refine ⟨T.JgF,rfl,⟨_,T.Jia _⟩,?_⟩;refine Jim (xs:=[.str "north",.str "south"]) (fun j σ H3=>∃ kvs v2,Jf H H3∧H3 d=some (.dT kvs)∧kvs.length≤2 * i + j∧(∀ p∈ps.take i,∀ r,ZK kvs (Jbf p r)=some (.int (Zb (zs.map (·.2)) gs c m p r))) ∧
     (0 < j→ZK kvs (Jbf p true)=some (.int (Zb (zs.map (·.2)) gs c m p true)))∧(1 < j→ZK kvs (Jbf p false)=some (.int (Zb (zs.map (·.2)) gs c m p false)))∧σ=[some (.ref k),some (.int m),some (.ref d),some (.str p),v2])
    ⟨kvs,v2,e2,hd2,by omega,hv2,fun z=>absurd z (by decide),fun z=>absurd z (by decide),rfl⟩ (fun i σ H2 _ h=>T.Jia _) ?_ ?_
   ·rintro j y σ H3 hy ⟨kvs,v2,e3,hd3,hl3,hv3,hn3,hs3,rfl⟩;obtain ⟨r,rfl,hrj⟩:∃ r:Bool,y=.str (hs r)∧((r=true∧j=0)∨(r=false∧j=1)):=by
     match j,hy with
     | 0,h=>exact ⟨true,(Option.some.inj h).symm,.inl ⟨rfl,rfl⟩⟩
     | 1,h=>exact ⟨false,(Option.some.inj h).symm,.inr ⟨rfl,rfl⟩⟩
     | j + 2,h=>cases h
    refine ⟨_,rfl,k,dx,_,rfl,e3 _ _ h1,rfl,_,rfl,_,rfl,_,rfl,k,b,p,m,r,ps,zs,gs,c,t,n,rfl,B.same e3,hm,hm2,hpm,fun H4 e4=>?_⟩;refine ⟨_,rfl,_,rfl,_,rfl,by show 2≤sizeLine; decide,fun tp4 n4=>?_⟩;have hd4:upd H4 tp4 (.tup [.str p,.str (hs r)]) d=some (.dT kvs):=(Jf.upd n4) _ _ (e4 _ _ hd3);have hlen:ps.length≤12:=B.B.G.p2;have hil:i < ps.length:=(List.getElem?_eq_some_iff.mp hp1).1;have hj2:j≤1:=by rcases hrj with h | h <;> omega
    refine ⟨d,_,rfl,Jjs.t (k:=Jbf p r) hd4 (show upd H4 tp4 (.tup [.str p,.str (hs r)]) tp4=some (.tup ((Jbf p r).map kV)) from Jh) (by omega),_,_,kp ((e3.trans e4).trans (Jf.upd n4)),Jh,?_,fun p' hp' r'=>?_,fun h=>?_,fun h=>?_,rfl⟩
    ·unfold JaQ;split
     ·rw [List.length_map]; omega
     ·rw [List.length_append,List.length_singleton]; omega
    ·rw [JiK];by_cases hk:Jbf p' r'=Jbf p r
     ·obtain ⟨rfl,rfl⟩:=JnC hk;rw [if_pos rfl]
     ·rw [if_neg hk]; exact hv3 p' hp' r'
    ·rw [JiK];rcases hrj with ⟨rfl,rfl⟩ | ⟨rfl,rfl⟩
     ·rw [if_pos rfl]
     ·rw [if_neg (fun e=>by have:=(JnC e).2; cases this)]; exact hn3 (by decide)
    ·rcases hrj with ⟨rfl,rfl⟩ | ⟨rfl,rfl⟩
     ·exact absurd h (by decide)
     ·rw [JiK,if_pos rfl]
   ·rintro σ H3 ⟨kvs,v2,e3,hd3,hl3,hv3,hn3,hs3,rfl⟩;refine ⟨kvs,_,_,e3,hd3,by have:[V.str "north",V.str "south"].length=2:=rfl; omega,fun p' hp' r=>?_,rfl⟩;rw [List.take_succ,hp1] at hp';rcases List.mem_append.mp hp' with h | h
    ·exact hv3 p' h r
    ·have h:p'=p:=by simpa using h
     subst h;cases r with
     | true=>exact hn3 (by decide)
     | false=>exact hs3 (by decide)
  ·rintro σ H2 ⟨kvs,v1,v2,e2,hd2,hl2,hv2,rfl⟩;rw [List.length_map,List.take_length] at hv2;exact ⟨_,rfl,q d H2 e2 ⟨kvs,hd2,hv2⟩⟩
theorem Jm6 (T:Txt K mg):JM P w K mg base (Zg P w) 7 T.JdA T.Jfm ["self", "board", "coins", "turns"] (Jmr K T.JU T.JX T.Ym):=by
 refine T.Jgj.F.ok1 Jhl (fun vs H Q E h=>?_) (fun cdv A outer s H vs Q E hr h=>?_)
 ·obtain ⟨_,_,_,_,_,_,_,_,rfl,_⟩:=h;rfl
 ·obtain ⟨k,b,dx,c,t,ps,zs,gs,rfl,hk,hkb,B,q1,q2,q⟩:=h;have szl:sizeLine=16777216:=sizeLine_eq;refine ⟨_,(Xh (Xr (Xb T.ZE (Z4 T) Yw (Xc (Xa 2) (Xc (XI T.JaK T.JaH) (Xv 0))))) (Xh (Xr (Xb T.ZE (Z4 T) Yw (Xc (Xa 3) (Xc (XI T.JaJ T.JaG) (Xv 0))))) (Xh (Xz (Xa 0) (Xa 1)) (Xh (Xz (Xa 0) (Xa 2)) (Xh (Xz (Xa 0) (Xa 3)) (Xh (Xz (Xa 0) (XX (Xv 0))) (Xn (Xy PassesOwn.leaving (XJ T.ZD (Xc (Xi (X8 0) (Xa 3) (Xj 0)) (Xv 0))) (Xk 4 Jhl.nd) (Xn (Xr (Xs PySem.F.plainAttrs_list PySem.F.slot_list_append PySem.F.type_list_append (@YH _) (Xm (Xa 0)) (Xc (Xg (Xa 0) T.J3 T.JaE.m (Jhz T) T.JaE.b .nil Jp (Xc (Xa 4) (Xv 0))) (Xv 0))))) (by intro _; rfl))))))))),?_⟩;change let Bq1:=_; let Bq2:=Jl _ Bq1; let Bq3:=Jl _ Bq2; let Bq4:=Jl _ Bq3; let Bq5:=Jl _ Bq4; let Bq6:=Jl _ Bq5; Jl _ Bq6 _ _ _;intro Bq1 Bq2 Bq3 Bq4 Bq5 Bq6;refine ⟨_,rfl,c,20,rfl,⟨by decide,by decide⟩,fun hc=>?_,q1⟩;refine ⟨_,rfl,t,30,rfl,⟨by decide,by decide⟩,fun ht=>?_,q2 hc⟩;have q:=q hc ht;obtain ⟨tn,rfl⟩:∃ j:Nat,t=(j:Int):=⟨t.toNat,by omega⟩
  rw [Int.toNat_natCast] at q;refine ⟨_,rfl,_,rfl,k,_,dx,_,rfl,hk,T.J3,T.YV,by decide,?_⟩;have b1:Y2 k H (upd H k (.ins T.JX dx (Yr "board" (.ref b) []))):=Y2.put;have h1:upd H k (.ins T.JX dx (Yr "board" (.ref b) [])) k=some (.ins T.JX dx [("board",.ref b)]):=Jh;generalize upd H k (.ins T.JX dx (Yr "board" (.ref b) []))=H1 at b1 h1;refine ⟨_,rfl,_,rfl,k,_,dx,_,rfl,h1,T.J3,T.Ja2,by show 1 < 1000; decide,?_⟩;have b2:=b1.trans (Y2.put (o:=.ins T.JX dx (Yr "coins" (.int c) [("board",.ref b)])));have h2:upd H1 k (.ins T.JX dx (Yr "coins" (.int c) [("board",.ref b)])) k=some (.ins T.JX dx [("board",.ref b),("coins",.int c)]):=Jh;generalize upd H1 k (.ins T.JX dx (Yr "coins" (.int c) [("board",.ref b)]))=H2 at b2 h2;refine ⟨_,rfl,_,rfl,k,_,dx,_,rfl,h2,T.J3,T.JdY,by show 2 < 1000; decide,?_⟩;have b3:=b2.trans (Y2.put (o:=.ins T.JX dx (Yr "turns" (.int (tn:Int)) [("board",.ref b),("coins",.int c)])));have h3:upd H2 k (.ins T.JX dx (Yr "turns" (.int (tn:Int)) [("board",.ref b),("coins",.int c)])) k=some (.ins T.JX dx [("board",.ref b),("coins",.int c),("turns",.int (tn:Int))]):=Jh;generalize upd H2 k (.ins T.JX dx (Yr "turns" (.int (tn:Int)) [("board",.ref b),("coins",.int c)]))=H3 at b3 h3;refine ⟨by show 0≤sizeLine; decide,fun l hl=>?_⟩;refine ⟨_,rfl,k,_,dx,_,rfl,(Jf.upd hl) _ _ h3,T.J3,T.Jaj,by show 3 < 1000; decide,?_⟩;have lk:l≠k:=fun e=>by rw [e,h3] at hl; cases hl
  have lH:H l=none:=by
   cases e:H l with
   | none=>rfl
   | some u=>rw [b3 l u lk e] at hl; cases hl
  have b4:=(b3.trans (Y2.of (Jf.upd (o:=.lst []) hl))).trans (Y2.put (o:=.ins T.JX dx (Yr "needs" (.ref l) [("board",.ref b),("coins",.int c),("turns",.int (tn:Int))])));have h4:upd (upd H3 l (.lst [])) k (.ins T.JX dx (Yr "needs" (.ref l) [("board",.ref b),("coins",.int c),("turns",.int (tn:Int))])) k=some (.ins T.JX dx [("board",.ref b),("coins",.int c),("turns",.int (tn:Int)),("needs",.ref l)]):=Jh;have l4:upd (upd H3 l (.lst [])) k (.ins T.JX dx (Yr "needs" (.ref l) [("board",.ref b),("coins",.int c),("turns",.int (tn:Int))])) l=some (.lst []):=by rw [JD lk,Jh]
  generalize upd (upd H3 l (.lst [])) k (.ins T.JX dx (Yr "needs" (.ref l) [("board",.ref b),("coins",.int c),("turns",.int (tn:Int))]))=H4 at b4 h4 l4;refine ⟨_,rfl,_,_,rfl,rfl,(tn:Int) + 1,rfl,by omega,by omega,?_⟩;rw [show ((tn:Int) + 1).toNat=tn + 1 by omega];refine Zs (n:=tn + 1) (fun i σ H5=>∃ rs v,Y2 k H H5∧H5 k=some (.ins T.JX dx [("board",.ref b),("coins",.int c),("turns",.int (tn:Int)),("needs",.ref l)])∧H5 l=some (.lst (rs.map V.ref))∧rs.length=i∧(∀ (j:Nat) a,rs[j]?=some a→JfT H5 a ps (Zb (zs.map (·.2)) gs c j))∧σ=[some (.ref k),some (.ref b),some (.int c),some (.int (tn:Int)),v])
   ⟨[],none,b4,h4,l4,rfl,fun j a e=>by simp at e,rfl⟩ ?_ ?_
  ·rintro i σ H5 hi ⟨rs,v,b5,h5,l5,len5,r5,rfl⟩;have B5:Bk K T.JU T.JX H5 k b ps zs gs c tn i:=⟨Y2.bd B b5 hk hkb,hc.1,hc.2,by omega,dx,l,rs,h5,l5,len5,r5⟩
   refine ⟨_,rfl,k,_,dx,_,.ref l,rfl,h5,T.J3,T.Jaj,rfl,.inl ⟨rfl,_,JA.of l5⟩,_,rfl,k,dx,_,rfl,h5,rfl,_,rfl,k,b,i,ps,zs,gs,c,tn,i,by rw [Int.zero_add]; rfl,B5,Nat.le_refl _,by omega,fun a H6 e6 r6=>?_⟩;refine ⟨l,_,_,rfl,rfl,e6 _ _ l5,by rw [List.length_map]; omega,rs ++ [a],_,?_,?_,?_,?_,?_,rfl⟩
   ·intro x u hx hu;rw [JD (JC hu lH)];exact e6 _ _ (b5 x u hx hu)
   ·rw [JD (fun e=>lk e.symm)]; exact e6 _ _ h5
   ·rw [Jh,List.map_append]; rfl
   ·rw [List.length_append,len5]; rfl
   ·intro j x hx;have key:∀ {y:Addr} {f:Str→Bool→Int},JfT H6 y ps f→JfT (upd H6 l (.lst (rs.map V.ref ++ [.ref a]))) y ps f:=fun {y f} hy=>by
     obtain ⟨kvs,y1,y2⟩:=hy;exact ⟨kvs,by rw [JD (Jax y1 (e6 _ _ l5) (fun z=>nomatch z))]; exact y1,y2⟩
    by_cases hj:j < rs.length
    ·rw [List.getElem?_append_left hj] at hx;exact key ((r5 j x hx).same e6)
    ·rw [List.getElem?_append_right (by omega)] at hx;have hj0:j - rs.length=0:=by
      cases e:j - rs.length with
      | zero=>rfl
      | succ n=>rw [e] at hx; simp at hx
     rw [hj0] at hx;have:a=x:=by simpa using hx
     subst this;have:j=i:=by omega
     subst this;exact key r6
  ·rintro σ H5 ⟨rs,v,b5,h5,l5,len5,r5,rfl⟩;exact q H5 b5 ⟨Y2.bd B b5 hk hkb,hc.1,hc.2,by omega,dx,l,rs,h5,l5,len5,r5⟩
theorem Jbb (T:Txt K mg):JM P w K mg base (Zg P w) 3 T.JbD T.Jbc ["self", "place", "turns", "north", "ribbon"] (Jrh K T.JU T.JX T.Y8 T.Ym T.Zr):=by
 refine T.YS.F.ok1 Jhg (fun vs H Q E h=>?_) (fun cdv A outer s H vs Q E hr h=>?_)
 ·obtain ⟨_,_,_,_,_,_,_,_,_,_,_,rfl,_⟩:=h;rfl
 ·obtain ⟨k,b,z,x,m,north,ps,zs,gs,c,t,rfl,tz,tx,B,⟨q1,q2,q3,q4⟩,q⟩:=h;refine ⟨_,(Xh (Xr (Xg (Xm (Xa 0)) T.YU T.Yg.m (Zw T) T.Yg.b .nil Yw (Xc (Xa 1) (Xv 0)))) (Xh (Xr (Xb T.ZE (Z4 T) Yw (Xc (Xa 2) (Xc (Xm (Xa 0)) (Xv 0))))) (Xh (Xr (Xb T.ZE (Z4 T) Yw (Xc (Xa 3) (Xc (Xm (Xa 0)) (Xv 0))))) (Xn (Xr (Xb T.JaM (Jb8 T) Yw (Xc (Xa 4) (Xv 0)))))))),?_⟩;change let Bq1:=_; let Bq2:=Jl _ Bq1; let Bq3:=Jl _ Bq2; Jl _ Bq3 _ _ _;intro Bq1 Bq2 Bq3;obtain ⟨dx,l,rs,h1,h2,h3,h4⟩:=B.at_;obtain ⟨bdx,tp,tl,tg,hb,_⟩:=id B.B.B;have:=B.c0;have:=B.c1;have:=B.t1;refine ⟨_,rfl,k,_,dx,_,.ref b,rfl,h1,T.J3,T.YV,rfl,b,bdx,_,rfl,hb,rfl,_,rfl,b,z,ps,zs,gs,rfl,tz,B.B.B,fun hz=>?_,q1⟩;refine ⟨_,rfl,_,rfl,k,_,dx,_,.int t,rfl,h1,T.J3,T.JdY,rfl,m,t,rfl,⟨by omega,by omega⟩,fun hm=>?_,q2 hz⟩;refine ⟨_,rfl,_,rfl,k,_,dx,_,.int c,rfl,h1,T.J3,T.Ja2,rfl,north,c,rfl,⟨by omega,by omega⟩,fun hn=>?_,q3 hz hm⟩;exact ⟨_,rfl,x,rfl,tx,fun hx=>q ⟨hz,hm,hn,hx⟩,q4 hz hm hn⟩
theorem Jgt (T:Txt K mg):JM P w K mg base (Zg P w) 4 T.Jee T.Jdm ["self", "place", "turns", "north", "ribbon"] (JpQ K T.JU T.JX T.Y8 T.Ym T.Zr):=by
 refine T.Jan.F.ok1 Jku (fun vs H Q E h=>?_) (fun cdv A outer s H vs Q E hr h=>?_)
 ·obtain ⟨_,_,_,_,_,_,_,_,_,_,_,rfl,_⟩:=h;rfl
 ·obtain ⟨k,b,z,x,m,north,ps,zs,gs,c,t,rfl,tz,tx,B,qe,q⟩:=h;have hu:=JgT hr;refine ⟨_,(Xh (Xr (Xg (Xa 0) T.J3 T.YS.m (Jbb T) T.YS.b .nil Yw (Xc (Xa 1) (Xc (Xa 2) (Xc (Xa 3) (Xc (Xa 4) (Xv 0))))))) (Xn (Xq (X0 (Xo (@Jvs _) (Xa 3) (X2 hu (Xf (Xac 0) (Xm (Xa 0)) (Xa 2)) (XA (Xc (Xa 1) (Xc (Xa 4) (Xv 0))))) (JJ _)) (Xx 0) (Xx 0))))),?_⟩;change let Bq1:=_; Jl _ Bq1 _ _ _;intro Bq1;obtain ⟨dx,l,rs,h1,h2,h3,h4⟩:=B.at_;refine ⟨_,rfl,k,dx,_,rfl,h1,rfl,_,rfl,_,rfl,_,rfl,_,rfl,k,b,z,x,m,north,ps,zs,gs,c,t,rfl,tz,tx,B,qe,fun ⟨hz,hm,hn,hx⟩=>?_⟩;obtain ⟨r,rfl⟩:=JeG hx;obtain ⟨j,rfl⟩:∃ j:Nat,m=(j:Int):=⟨m.toNat,by omega⟩
  obtain ⟨a,ha⟩:∃ a,rs[j]?=some a:=⟨_,List.getElem?_eq_getElem (by omega)⟩
  obtain ⟨kvs,hk1,hk2⟩:=h4 j a ha;have hat:atI (rs.map V.ref) (j:Int)=some (.ref a):=Zt (by rw [List.getElem?_map,ha]; rfl);refine ⟨_,rfl,_,rfl,k,_,dx,_,.ref l,rfl,h1,T.J3,T.Jaj,rfl,_,rfl,l,_,_,.ref a,rfl,rfl,JA.of h2,hat,_,rfl,_,rfl,by show 2≤sizeLine; decide,fun p hp=>?_⟩;have g:=Jel.t (k:=Jbf z r) ((Jf.upd (o:=.tup [.str z,.str (hs r)]) hp) _ _ hk1) (show upd H p (.tup [.str z,.str (hs r)]) p=some (.tup ((Jbf z r).map kV)) from Jh);rw [hk2 z hz r] at g;have q:=q hz hm hn r rfl _ (Jf.upd (o:=.tup [.str z,.str (hs r)]) hp);rw [Int.toNat_natCast] at q;refine ⟨a,_,rfl,g,_,_,rfl,rfl,_,rfl,YW (fun hc=>?_) (fun hc=>?_)⟩
  ·rw [hc] at q; exact q
  ·rw [Bool.not_eq_true] at hc; rw [hc] at q; exact q
theorem JkL (T:Txt K mg):JM P w K mg base (Zg P w) 5 T.Jef T.Jdn ["self", "place", "turns", "north", "ribbon"] (Jp5 K T.JU T.JX T.Y8 T.Ym T.Zr):=by
 refine T.Jce.F.ok1 Jgp (fun vs H Q E h=>?_) (fun cdv A outer s H vs Q E hr h=>?_)
 ·obtain ⟨_,_,_,_,_,_,_,_,_,_,_,rfl,_⟩:=h;rfl
 ·obtain ⟨k,b,z,x,m,north,ps,zs,gs,c,t,rfl,tz,tx,B,qe,q⟩:=h;refine ⟨_,(Xh (Xd 5 Jgp.nd (Xg (Xa 0) T.J3 T.Jan.m (Jgt T) T.Jan.b .nil Yw (Xc (Xa 1) (Xc (Xa 2) (Xc (Xa 3) (Xc (Xa 4) (Xv 0))))))) (Xh (Xl (X3 (XH (Xo (Xab 0) (Xa 5) (Xa 4) (JJ _)) (XV (XM (X9 (Xb T.JcF (Jda T) Za (Xc (Xm (Xa 0)) (Xc (Xa 1) (Xc (Xa 2) (Xv 0)))))) (by first | exact YA _ (by decide) (by decide) | rfl))))) (Xn (Xq (XW 0))) (XO 0)) (Xh (Xl (Xo (Xab 0) (Xa 4) (Xx 0) (JJ _)) (Xn (Xq (Xe (@JcD _ rfl) T.JfL PyProof.Rows.boot_max (Xc (Xj 0) (Xc (Xi (@YR _) (Xg (Xa 0) T.J3 T.Yt.m (Jav T) T.Yt.b .nil Jp (Xc (Xa 1) (Xc (Xa 2) (Xv 0)))) (Xa 3)) (Xv 0)))))) (XO 0)) (Xn (Xq (Xe (@JcD _ rfl) T.JfL PyProof.Rows.boot_max (Xc (Xj 0) (Xc (Xi (X8 0) (Xi (@YR _) (Xa 3) (Xg (Xa 0) T.J3 T.Yu.m (Jaw T) T.Yu.b .nil Jp (Xc (Xa 1) (Xc (Xa 2) (Xv 0))))) (Xj 0)) (Xv 0))))))))),?_⟩;change let Bq1:=_; let Bq2:=Jl _ Bq1; let Bq3:=Jl _ Bq2; Jl _ Bq3 _ _ _;intro Bq1 Bq2 Bq3;obtain ⟨dx,l,rs,h1,h2,h3,h4⟩:=B.at_;refine ⟨_,rfl,k,dx,_,rfl,h1,rfl,_,rfl,_,rfl,_,rfl,_,rfl,k,b,z,x,m,north,ps,zs,gs,c,t,rfl,tz,tx,B,qe,fun hz hm hn r hx H1 e1=>?_⟩;subst hx;obtain ⟨j,rfl⟩:∃ j:Nat,m=(j:Int):=⟨m.toNat,by omega⟩
  have q:=fun H' e=>q hz hm hn r rfl H' e
  simp only [Int.toNat_natCast] at q ⊢;have t1:=B.t1;refine ⟨_,rfl,_,rfl,rfl,_,rfl,?_⟩;have ev:=Jfv (z:=z) (m:=j) (zs:=zs.map (·.2)) (gs:=gs);cases hd:decide (Zb (zs.map (·.2)) gs c j z r≤north) == r with
  | true =>
   have hd':decide (Zb (zs.map (·.2)) gs c j z r≤north)=r:=by simpa using hd
   rw [hd'];refine YI (decide_eq_true rfl) (YG ?_);have e:Jg4 (zs.map (·.2)) gs c j z north r=.non:=by
    unfold Jg4;by_cases he:Yv (zs.map (·.2)) gs j z
    ·rw [if_pos he]
    ·rw [if_neg he,hd',if_neg (by cases r <;> decide)]
   rw [e] at q;exact q H1 e1
  | false =>
   have hd':decide (Zb (zs.map (·.2)) gs c j z r≤north)=!r:=by
    revert hd
    cases decide (Zb (zs.map (·.2)) gs c j z r≤north) <;> cases r <;> decide
   rw [hd'];refine Yi (decide_eq_false (fun e=>by have:=Zf (V.str.inj e); cases r <;> cases this)) ?_;refine ⟨_,rfl,k,_,dx,_,.ref b,rfl,e1 _ _ h1,T.J3,T.YV,rfl,_,rfl,_,rfl,b,z,j,ps,zs,gs,rfl,tz,B.B.zl,(B.B.same e1).B,fun h=>absurd hz h,fun _ h=>absurd (by omega) h,fun _ _ H2 e2=>?_⟩;have e12:=e1.trans e2;by_cases he:Yv (zs.map (·.2)) gs j z
   ·obtain ⟨y,hy⟩:=ev.1 he;rw [hy];have e:Jg4 (zs.map (·.2)) gs c j z north r=.non:=by unfold Jg4; rw [if_pos he]
    rw [e] at q;exact ⟨_,rfl,YG (q H2 e12)⟩
   ·rw [ev.2 he];refine ⟨_,rfl,Yk ?_⟩;have hw:JB (zs.map (·.2)) z≠[]:=fun h=>he (.inr (.inr h))
    obtain ⟨i,rfl⟩:∃ i,j=i + 1:=⟨j - 1,by have:j≠0:=fun h=>he (.inr (.inl h)); omega⟩
    have e:Jg4 (zs.map (·.2)) gs c (i + 1) z north r=.int (JuV (JB (zs.map (·.2))) (gB gs) c i z north r):=by unfold Jg4; rw [if_neg he,hd',if_pos rfl]; rfl
    rw [e] at q;refine ⟨_,rfl,rfl,_,rfl,?_⟩;cases r with
    | false =>
     refine YI (by decide +kernel) ?_;refine ⟨_,rfl,k,dx,_,rfl,e12 _ _ h1,rfl,_,rfl,_,rfl,k,b,z,i,ps,zs,gs,c,t,t + 1,rfl,B.same e12,by omega,hz,hw,fun H3 e3=>?_⟩;exact ⟨_,rfl,_,_,rfl,rfl,_,_,rfl,q H3 (e12.trans e3)⟩
    | true =>
     refine Yi (by decide +kernel) ?_;refine ⟨_,rfl,_,rfl,k,dx,_,rfl,e12 _ _ h1,rfl,_,rfl,_,rfl,k,b,z,i,ps,zs,gs,c,t,t + 1,rfl,B.same e12,by omega,hz,hw,fun H3 e3=>?_⟩;exact ⟨_,_,rfl,rfl,_,_,rfl,rfl,_,_,rfl,q H3 (e12.trans e3)⟩
theorem JfK (T:Txt K mg):JM P w K mg base (Zg P w) 5 T.Jdp T.JcU ["self", "place", "turns", "north", "ribbon", "hand"] (JoL K T.JU T.JX T.Y8 T.Ym T.Zr):=by
 refine T.Z6.F.ok1 JfI (fun vs H Q E h=>?_) (fun cdv A outer s H vs Q E hr h=>?_)
 ·obtain ⟨_,_,_,_,_,_,_,_,_,_,_,_,rfl,_⟩:=h;rfl
 ·obtain ⟨k,b,z,x,y,m,north,ps,zs,gs,c,t,rfl,tz,tx,ty,B,qe,qh,q⟩:=h;refine ⟨_,(Xh (Xr (Xg (Xa 0) T.J3 T.YS.m (Jbb T) T.YS.b .nil Yw (Xc (Xa 1) (Xc (Xa 2) (Xc (Xa 3) (Xc (Xa 4) (Xv 0))))))) (Xh (Xr (Xb T.JaM (Jb8 T) Yw (Xc (Xa 5) (Xv 0)))) (Xh (Xl (XM (X9 (Xb T.JcF (Jda T) Za (Xc (Xm (Xa 0)) (Xc (Xa 1) (Xc (Xa 2) (Xv 0)))))) (by first | exact YA _ (by decide) (by decide) | rfl)) (Xn (Xq (XW 0))) (XO 0)) (Xh (Xy PassesOwn.leaving (@Je5 _ _ _ _ (Xg (Xm (Xa 0)) T.YU T.YY.m (JaZ T) T.YY.b .nil Za (Xc (Xa 1) (Xv 0)))) (Xk 6 JfI.nd) (Xn (Xl (Xo (Xab 0) (Xg (Xa 0) T.J3 T.Jan.m (Jgt T) T.Jan.b .nil Za (Xc (Xa 6) (Xc (Xi (@YR _) (Xa 2) (Xj 0)) (Xc (Xa 3) (Xc (Xa 4) (Xv 0)))))) (Xa 5) (JJ _)) (Xn (Xq (Xa 6))) (XO 0))) (by intro _; rfl)) (Xn (Xq (XW 0))))))),?_⟩;change let Bq1:=_; let Bq2:=Jl _ Bq1; let Bq3:=Jl _ Bq2; let Bq4:=Jl _ Bq3; Jl _ Bq4 _ _ _;intro Bq1 Bq2 Bq3 Bq4;obtain ⟨dx,l,rs,h1,h2,h3,h4⟩:=B.at_;refine ⟨_,rfl,k,dx,_,rfl,h1,rfl,_,rfl,_,rfl,_,rfl,_,rfl,k,b,z,x,m,north,ps,zs,gs,c,t,rfl,tz,tx,B,qe,fun hok=>?_⟩;refine ⟨_,rfl,y,rfl,ty,fun hy=>?_,qh hok⟩;obtain ⟨hz,hm,hn,hx⟩:=hok;obtain ⟨r,rfl⟩:=JeG hx;obtain ⟨h,rfl⟩:=JeG hy;obtain ⟨j,rfl⟩:∃ j:Nat,m=(j:Int):=⟨m.toNat,by omega⟩
  have q:=fun H' e=>q hz hm hn r h rfl rfl H' e
  simp only [Int.toNat_natCast] at q;have t1:=B.t1;have ev:=Jfv (z:=z) (m:=j) (zs:=zs.map (·.2)) (gs:=gs);refine ⟨_,rfl,k,_,dx,_,.ref b,rfl,h1,T.J3,T.YV,rfl,_,rfl,_,rfl,b,z,j,ps,zs,gs,rfl,tz,B.B.zl,B.B.B,fun h=>absurd hz h,fun _ h=>absurd (by omega) h,fun _ _ H1 e1=>?_⟩;by_cases he:Yv (zs.map (·.2)) gs j z
  ·obtain ⟨y,hy⟩:=ev.1 he;rw [hy];have e:Jep (zs.map (·.2)) gs c j z north r h=.non:=by unfold Jep; rw [if_pos he]
   rw [e] at q;exact ⟨_,rfl,YG (q H1 e1)⟩
  ·rw [ev.2 he];refine ⟨_,rfl,Yk ?_⟩;obtain ⟨i,rfl⟩:∃ i,j=i + 1:=⟨j - 1,by have:j≠0:=fun h=>he (.inr (.inl h)); omega⟩
   have e:Jep (zs.map (·.2)) gs c (i + 1) z north r h=JiX (Jdv (JB (zs.map (·.2))) (gB gs) c i z north r h):=by unfold Jep; rw [if_neg he]; rfl
   rw [e] at q;obtain ⟨bdx,tp,tl,tg,hb,_⟩:=id B.B.B;refine ⟨_,rfl,k,_,dx,_,.ref b,rfl,e1 _ _ h1,T.J3,T.YV,rfl,b,bdx,_,rfl,e1 _ _ hb,rfl,_,rfl,b,z,ps,zs,gs,rfl,tz,B.B.zl,(B.B.same e1).B,fun _ tw H2 e2 ht=>?_,fun h=>absurd hz h⟩;have e12:=e1.trans e2;refine ⟨tw,rfl,⟨_,JH.of ht⟩,?_⟩;refine Jim (xs:=(JB (zs.map (·.2)) z).map V.str) (fun n σ H3=>Jf H2 H3∧(∀ w∈(JB (zs.map (·.2)) z).take n,(decide (Zb (zs.map (·.2)) gs c i w r≤north) == h)=false)∧∃ v,σ=[some (.ref k),some (.str z),some (.int ((i:Int) + 1)),some (.int north),some (.str (hs r)),some (.str (hs h)),v]) ⟨Jf.refl _,fun w hw=>by simp at hw,none,rfl⟩ (fun n σ H3 _ p=>JH.of (p.1 _ _ ht)) ?_ ?_
   ·rintro n x σ H3 hx ⟨e3,hf,v,rfl⟩;rw [List.getElem?_map] at hx;obtain ⟨w',hw1,rfl⟩:=Option.map_eq_some_iff.mp hx;have hin:=Jew B.B.G (List.mem_of_getElem? hw1);have e13:=e12.trans e3;refine ⟨_,rfl,k,dx,_,rfl,e13 _ _ h1,rfl,_,rfl,_,rfl,_,_,rfl,rfl,_,rfl,_,rfl,k,b,w',hs r,(i:Int) + 1 - 1,north,ps,zs,gs,c,t,rfl,Zc (B.B.G.p3 w' hin),Zp r,B.same e13,JdG ⟨hin,⟨by omega,by omega⟩,hn,Zk r⟩,fun _ _ _ r' hr' H4 e4=>?_⟩;obtain rfl:=Zf hr';have ei:((i:Int) + 1 - 1).toNat=i:=by omega
    rw [ei];refine ⟨_,rfl,rfl,_,rfl,?_⟩;cases hd:decide (Zb (zs.map (·.2)) gs c i w' r≤north) == h with
    | true =>
     have hd':decide (Zb (zs.map (·.2)) gs c i w' r≤north)=h:=by simpa using hd
     rw [hd'];refine YI (decide_eq_true rfl) ⟨_,rfl,?_⟩;have es:Jdv (JB (zs.map (·.2))) (gB gs) c i z north r h=some w':=Joo hw1 hf hd;rw [es] at q;exact q H4 (e13.trans e4)
    | false =>
     refine Yi (decide_eq_false fun e=>?_) ⟨e3.trans e4,fun w hw=>?_,_,rfl⟩
     ·rw [Zf (V.str.inj e)] at hd;simp at hd
     ·rw [List.take_succ,hw1] at hw;rcases List.mem_append.mp hw with h' | h'
      ·exact hf w h'
      ·have h':w=w':=by simpa using h'
       subst h';exact hd
   ·rintro σ H3 ⟨e3,hf,v,rfl⟩;rw [List.length_map,List.take_length] at hf;have es:Jdv (JB (zs.map (·.2))) (gB gs) c i z north r h=none:=by
     unfold Jdv;rw [List.find?_eq_none];intro w hw;rw [hf w hw]; exact Bool.false_ne_true
    rw [es] at q;exact q H3 (e12.trans e3)
theorem Jhh (T:Txt K mg):JM P w K mg base Yy 6 T.JbE T.Jbd ["self", "place", "turns", "settled", "holder"] (Jrw K T.JU T.JX):=by
 refine T.JaC.F.ok Ja9 (fun vs H Q E h=>?_) (fun cdv A outer s H vs Q E hr h=>?_)
 ·obtain ⟨_,_,_,_,_,_,_,_,_,_,_,_,_,_,_,rfl,_⟩:=h;rfl
 ·obtain ⟨k,b,p,z,m,l,r,h,n,s',ps,zs,gs,c,t,rfl,hp,B,hz,hm,hn,he,q⟩:=h;refine ⟨_,(Xh (Xd 5 Ja9.nd (Xf (XZ 0) (Xa 3) (Xj 0))) (Xh (Xd 6 Ja9.nd (Xg (Xa 0) T.J3 T.Z6.m (JfK T) T.Z6.b .nil Za (Xc (Xa 1) (Xc (Xa 2) (Xc (Xf (XZ 0) (Xa 3) (Xj 0)) (Xc (Xf (XZ 0) (Xa 3) (Xj 0)) (Xc (Xa 5) (Xv 0)))))))) (Xh (Xl (Xo (Xab 0) (Xa 5) (Xa 4) (JJ _)) (Xn (Xq (@JjH _ _ _ _ _ _ (X9 (Xa 6)) (by first | exact YA _ (by decide) (by decide) | rfl)))) (XO 0)) (Xn (Xq (@JjH _ _ _ _ _ _ (XY (Xa 6)) (by first | exact YA _ (by decide) (by decide) | rfl))))))),?_⟩;change let Bq1:=_; let Bq2:=Jl _ Bq1; let Bq3:=Jl _ Bq2; Jl _ Bq3 _ _ _;intro Bq1 Bq2 Bq3;obtain ⟨dx,l',rs,h1,h2,h3,h4⟩:=B.at_;refine ⟨_,rfl,p,_,_,.str (hs l),rfl,rfl,JH.of hp,rfl,?_⟩;refine ⟨_,rfl,k,dx,_,rfl,h1,rfl,_,rfl,_,rfl,_,rfl,p,_,_,.int n,rfl,rfl,JH.of hp,rfl,_,rfl,p,_,_,.str (hs r),rfl,rfl,JH.of hp,rfl,_,rfl,?_⟩;refine ⟨k,b,z,hs r,hs l,(m:Int) + 1,n,ps,zs,gs,c,t,rfl,Zc (B.B.G.p3 z hz),Zp r,Zp l,B,JdG ⟨hz,⟨by omega,by omega⟩,hn,Zk r⟩,fun _ h=>(by rw [Zk] at h; cases h),fun _ _ _ r' l'' hr' hl' H1 e1=>?_⟩;obtain rfl:=Zf hr';obtain rfl:=Zf hl';have ei:((m:Int) + 1).toNat=m + 1:=by omega
  have es:Jep (zs.map (·.2)) gs c ((m:Int) + 1).toNat z n r l=JiX (Jdv (JB (zs.map (·.2))) (gB gs) c m z n r l):=by rw [ei]; unfold Jep; rw [if_neg he]; rfl
  rw [es];have q:=q H1 e1;refine ⟨_,rfl,_,rfl,rfl,_,rfl,?_⟩;cases hs':Jdv (JB (zs.map (·.2))) (gB gs) c m z n r l with
  | none =>
   rw [hs'] at q;by_cases hlh:l=h
   ·subst hlh;refine YI (decide_eq_true rfl) ⟨_,rfl,?_⟩;simpa [JiX] using q
   ·refine Yi (decide_eq_false fun e=>hlh (Zf (V.str.inj e))) ⟨_,rfl,?_⟩;have:(l == h)=false:=by simpa using hlh
    rw [this] at q;simpa [JiX] using q
  | some w' =>
   rw [hs'] at q;by_cases hlh:l=h
   ·subst hlh;refine YI (decide_eq_true rfl) ⟨_,rfl,?_⟩;simpa [JiX] using q
   ·refine Yi (decide_eq_false fun e=>hlh (Zf (V.str.inj e))) ⟨_,rfl,?_⟩;have:(l == h)=false:=by simpa using hlh
    rw [this] at q;simpa [JiX] using q
theorem Jiy (T:Txt K mg):JM P w K mg base (Zg P w) 7 T.Jcq T.JbU ["self", "place", "turns", "north", "ribbon", "bid"] (Jms K T.JU T.JX T.Y8 T.Ym T.Zr T.JaD):=by
 refine T.JaU.F.ok1 JbO (fun vs H Q E h=>?_) (fun cdv A outer s H vs Q E hr h=>?_)
 ·obtain ⟨_,_,_,_,_,_,_,_,_,_,_,_,rfl,_⟩:=h;rfl
 ·obtain ⟨k,b,z,x,m,north,bid,ps,zs,gs,c,t,rfl,tz,tx,B,qe,qb,q⟩:=h;refine ⟨_,(Xh (Xr (Xg (Xa 0) T.J3 T.YS.m (Jbb T) T.YS.b .nil Yw (Xc (Xa 1) (Xc (Xa 2) (Xc (Xa 3) (Xc (Xa 4) (Xv 0))))))) (Xh (Xd 6 JbO.nd (Xi (@YR _) (Xm (Xa 0)) (Xa 3))) (Xh (Xr (Xb T.Ja7 (JcN T) Yw (Xc (Xa 5) (Xc (Xb T.JaT (JbY T) Jp (Xc (Xb T.JeJ (JgS T) Za (Xc (Xa 4) (Xv 0))) (Xc (Xa 3) (Xc (Xa 6) (Xv 0))))) (Xv 0))))) (Xh (Xl (XM (X9 (Xb T.JcF (Jda T) Za (Xc (Xm (Xa 0)) (Xc (Xa 1) (Xc (Xa 2) (Xv 0)))))) (by first | exact YA _ (by decide) (by decide) | rfl)) (Xn (Xq (XW 0))) (XO 0)) (Xh (Xy PassesOwn.leaving (@Je5 _ _ _ _ (XA (Xc (Xj 0) (Xc (Xa 5) (Xv 0))))) (Xk 7 JbO.nd) (Xn (Xl (Xo (@Jvr _) (Xa 7) (Xb T.JaT (JbY T) Jp (Xc (Xa 4) (Xc (Xa 3) (Xc (Xa 6) (Xv 0))))) (JJ _)) (Xn (Xl (XQ (Xg (Xa 0) T.J3 T.JaC.m (Jhh T) T.JaC.b .nil Jp (Xc (Xa 1) (Xc (Xa 2) (Xc (Xb T.Jg5 (Jlw T) Za (Xc (Xa 3) (Xc (Xa 6) (Xc (Xa 4) (Xc (Xa 5) (Xc (Xa 7) (Xv 0))))))) (Xc (Xa 4) (Xv 0)))))) (by intro _; rfl)) (Xn (Xq (Xa 7))) (XO 0))) (XO 0))) (by intro _; rfl)) (Xn (Xq (XW 0)))))))),?_⟩
  try dsimp only [cxK,Jcr]
  change let Bq1:=_; let Bq2:=Jl _ Bq1; let Bq3:=Jl _ Bq2; let Bq4:=Jl _ Bq3; let Bq5:=Jl _ Bq4; Jl _ Bq5 _ _ _;intro Bq1 Bq2 Bq3 Bq4 Bq5;obtain ⟨dx,l,rs,h1,h2,h3,h4⟩:=B.at_;refine ⟨_,rfl,k,dx,_,rfl,h1,rfl,_,rfl,_,rfl,_,rfl,_,rfl,k,b,z,x,m,north,ps,zs,gs,c,t,rfl,tz,tx,B,qe,fun hok=>?_⟩;obtain ⟨hz,hm,hn,hx⟩:=hok;obtain ⟨r,rfl⟩:=JeG hx;obtain ⟨j,rfl⟩:∃ j:Nat,m=(j:Int):=⟨m.toNat,by omega⟩
  have qb:=qb hz hm hn r rfl;have q:=fun hb H' e=>q hz hm hn r rfl hb H' e
  simp only [Int.toNat_natCast] at q;have t1:=B.t1;have c1:=B.c1;have ev:=Jfv (z:=z) (m:=j) (zs:=zs.map (·.2)) (gs:=gs);have eo:∀ r:Bool,(if r then north else c - north)=own c north r:=fun r=>rfl
  refine ⟨_,rfl,k,_,dx,_,.int c,rfl,h1,T.J3,T.Ja2,rfl,_,rfl,_,_,rfl,rfl,?_⟩;refine ⟨_,rfl,_,rfl,hs r,rfl,Zp r,fun r' hr'=>?_,fun h=>by rw [Zk] at h; cases h⟩;obtain rfl:=Zf hr';refine ⟨_,rfl,_,rfl,!r,north,c - north,rfl,bid,_,rfl,fun hb=>?_,qb⟩;have q:=q hb;have hb:0≤bid∧bid≤own c north (!r):=hb;refine ⟨_,rfl,k,_,dx,_,.ref b,rfl,h1,T.J3,T.YV,rfl,_,rfl,_,rfl,b,z,j,ps,zs,gs,rfl,tz,B.B.zl,B.B.B,fun h=>absurd hz h,fun _ h=>absurd (by omega) h,fun _ _ H1 e1=>?_⟩;by_cases he:Yv (zs.map (·.2)) gs j z
  ·obtain ⟨y,hy⟩:=ev.1 he;rw [hy];have e:Jjn (zs.map (·.2)) gs c j z north r bid=.non:=by unfold Jjn; rw [if_pos he]
   rw [e] at q;exact ⟨_,rfl,YG (q H1 e1)⟩
  ·rw [ev.2 he];refine ⟨_,rfl,Yk ?_⟩;obtain ⟨i,rfl⟩:∃ i,j=i + 1:=⟨j - 1,by have:j≠0:=fun h=>he (.inr (.inl h)); omega⟩
   have e:Jjn (zs.map (·.2)) gs c (i + 1) z north r bid=Juz (Jh5 (JB (zs.map (·.2))) (gB gs) c i z north r bid):=by unfold Jjn; rw [if_neg he]; rfl
   rw [e] at q;have hon:0≤own c north r:=by unfold own; split <;> omega
   refine ⟨_,rfl,by show 2≤sizeLine; decide,fun tp ntp=>⟨tp,rfl,⟨_,JH.of Jh⟩,?_⟩⟩;have ht:upd H1 tp (.tup [.int 0,.int bid]) tp=some (.tup [.int 0,.int bid]):=Jh;have e2:=e1.trans (Jf.upd (o:=.tup [.int 0,.int bid]) ntp);generalize upd H1 tp (.tup [.int 0,.int bid])=H2 at ht e2;let Pq:Nat→St→Hp→Prop:=fun n σ H3=>Jf H H3∧H3 tp=some (.tup [.int 0,.int bid])∧(0 < n→¬ JeL (JB (zs.map (·.2))) (gB gs) c i z north r bid 0=true)∧(1 < n→¬ (bid≤own c north r∧JeL (JB (zs.map (·.2))) (gB gs) c i z north r bid bid=true))∧∃ v,σ=[some (.ref k),some (.str z),some (.int ((i:Int) + 1)),some (.int north),some (.str (hs r)),some (.int bid),some (.int (c - north)),v]
   refine Jim (xs:=[.int 0,.int bid]) Pq
    ⟨e2,ht,fun h=>absurd h (by decide),fun h=>absurd h (by decide),none,rfl⟩ (fun n σ H3 _ p=>JH.of p.2.1) ?_ ?_
   ·rintro n x σ H3 hx ⟨e3,ht3,hf0,hf1,v,rfl⟩;obtain ⟨an,rfl,han⟩:∃ an:Int,x=.int an∧((n=0∧an=0)∨(n=1∧an=bid)):=by
     match n,hx with
     | 0,h=>exact ⟨0,(Option.some.inj h).symm,.inl ⟨rfl,rfl⟩⟩
     | 1,h=>exact ⟨bid,(Option.some.inj h).symm,.inr ⟨rfl,rfl⟩⟩
     | n + 2,h=>cases h
    have ha0:0≤an:=by rcases han with h | h <;> omega
    refine ⟨_,rfl,_,rfl,_,rfl,_,rfl,r,north,c - north,rfl,_,_,rfl,rfl,_,rfl,YW (fun hc=>?_) (fun hc=>?_)⟩
    ·have hc:an≤own c north r:=of_decide_eq_true hc;refine ⟨_,rfl,k,dx,_,rfl,e3 _ _ h1,rfl,_,rfl,_,rfl,_,rfl,_,rfl,_,rfl,_,rfl,_,rfl,north,c - north,hs r,bid,an,rfl,Zp r,?_,?_,?_,?_⟩
     ·exact fun h=>absurd ⟨hn.1,by omega,by omega⟩ h
     ·exact fun _ h=>(by rw [Zk] at h; cases h)
     ·intro r' hr' _ h;obtain rfl:=Zf hr';refine absurd ⟨⟨hb.1,?_⟩,ha0,hc⟩ h;have:=hb.2; unfold own at this; cases r <;> simpa using this
     ·intro r' hr' _ _ p H4 e4 hp;obtain rfl:=Zf hr';obtain ⟨s',hs'⟩:=Jo5 north (c - north) r bid an;rw [hs'] at hp;have ab:=JnE (r:=r) hn hb.1 hb.2 ha0 hc;refine ⟨_,rfl,k,b,p,z,i,_,_,r,_,s',ps,zs,gs,c,t,rfl,hp,B.same (e3.trans e4),hz,by omega,ab,he,fun H5 e5=>?_⟩;have e35:=(e3.trans e4).trans e5;cases hwin:JeL (JB (zs.map (·.2))) (gB gs) c i z north r bid an with
      | true =>
       have hwin':=hwin;unfold JeL at hwin';rw [hwin'];refine ⟨_,rfl,YG ⟨_,rfl,?_⟩⟩;have ea:Jh5 (JB (zs.map (·.2))) (gB gs) c i z north r bid=some an:=by
        unfold Jh5;rcases han with ⟨rfl,rfl⟩ | ⟨rfl,rfl⟩
        ·rw [if_pos hwin]
        ·rw [if_neg (hf0 (by decide)),if_pos ⟨hc,hwin⟩]
       rw [ea] at q;exact q H5 e35
      | false =>
       have hwin':=hwin;unfold JeL at hwin';rw [hwin'];refine ⟨_,rfl,Yk ⟨e35,e5 _ _ (e4 _ _ ht3),fun h=>?_,fun h=>?_,_,rfl⟩⟩
       ·rcases han with ⟨rfl,rfl⟩ | ⟨rfl,rfl⟩
        ·rw [hwin]; exact Bool.false_ne_true
        ·exact hf0 (by decide)
       ·rcases han with ⟨rfl,rfl⟩ | ⟨rfl,rfl⟩
        ·exact absurd h (by decide)
        ·rw [hwin]; exact fun h=>Bool.false_ne_true h.2
    ·have hc:¬ an≤own c north r:=fun h=>hc (decide_eq_true h)
     refine ⟨e3,ht3,fun h=>?_,fun h=>?_,_,rfl⟩
     ·rcases han with ⟨rfl,rfl⟩ | ⟨rfl,rfl⟩
      ·exact absurd hon hc
      ·exact hf0 (by decide)
     ·rcases han with ⟨rfl,rfl⟩ | ⟨rfl,rfl⟩
      ·exact absurd h (by decide)
      ·exact fun h=>hc h.1
   ·rintro σ H3 ⟨e3,ht3,hf0,hf1,v,rfl⟩;have ea:Jh5 (JB (zs.map (·.2))) (gB gs) c i z north r bid=none:=by
     rw [Jq2];exact ⟨hf0 (by show 0 < 2; decide),hf1 (by show 1 < 2; decide)⟩
    rw [ea] at q;exact q H3 e3
end
def Jrm (K:PySem.W.Frag):Sp:=fun vs H Q _=>∃ (t:Addr) (z:Str) (ps:List Str) (zs:List (V×(Str×Str))) (gs:List Str),vs=[.ref t,.str z]∧Ground K H t ps zs gs∧∀ (p:Addr) (ws:List Str) (H':Hp),Jf H H'→H' p=some (.lst (ws.map V.str))→ws.Perm (JB (zs.map (·.2)) z)→ws.Pairwise sle→Q (.ref p) H'
def Jcf (z:Str) (n:Int) (zs:List (Str×Str)) (gs:List Str):Str:=if z∈gs then "north" else if n=0∨JB zs z=[] then "south" else ""
def Jua (K:PySem.W.Frag):Sp:=fun vs H Q _=>∃ (t:Addr) (z:Str) (n:Int) (ps:List Str) (zs:List (V×(Str×Str))) (gs:List Str),vs=[.ref t,.str z,.int n]∧Ground K H t ps zs gs∧∀ H',Jf H H'→Q (.str (Jcf z n (zs.map (·.2)) gs)) H'
def Jre:Sp:=fun vs H Q _=>∃ c:Int,vs=[.int c]∧∀ (n:Int) (H':Hp),0≤n→n≤20→Jf H H'→Q (.int n) H'
def Jtb:Sp:=fun vs H Q _=>∃ c:Int,vs=[.int c]∧∀ (n:Int) (H':Hp),0≤n→n≤30→Jf H H'→Q (.int n) H'
theorem JsP {xs:List Int} (hl:xs.length=8) (hb:∀ x∈xs,0≤x∧x≤20) (c:Int):∃ y:Int,atI (xs.map V.int) (c % 8)=some (.int y)∧0≤y∧y≤20:=by
 obtain ⟨j,hj⟩:∃ j:Nat,c % 8=(j:Int):=⟨(c % 8).toNat,by omega⟩
 have hj8:j < xs.length:=by omega
 refine ⟨xs[j],?_,hb _ (List.getElem_mem hj8)⟩;rw [hj];refine Zt ?_;rw [List.getElem?_map,List.getElem?_eq_getElem hj8];rfl
section
variable {K:PySem.W.Frag} {C CB:Addr} {H:Hp} {σ:St} {i j l:Nat} {E:XK} {Q:VK}
theorem Jph {H4:Hp} {l1 l2 l3 x dx:Addr} {ps:List Str} {zs:List (V×(Str×Str))} {gs:List Str} (e4:Jf H H4) (k1:H4 l1=some (.lst (ps.map V.str))) (k2:H4 l2=some (.lst (zs.map (·.1)))) (k3:H4 l3=some (.lst (gs.map V.str))) (hP:ZC K H4 zs) (G:Jdt ps (zs.map (·.2)) gs)
  (nx:H4 x=none) (ndx:H4 dx=none) (q:∀ ps' zs' gs' H',Jf H H'→Bd K C H' x ps' zs' gs'→ps'.Perm ps→ps'.Pairwise sle→zs'.Perm zs→(zs'.map (·.2)).Pairwise ple→gs'.Perm gs→gs'.Pairwise sle→Q .non H') :
  Jn7 K C (.ref x :: ([.ref l1,.ref l2,.ref l3] ++ [])) (upd (upd H4 dx (.own x)) x (.ins C dx [])) Q E:=by
 have e5:Jf H4 (upd (upd H4 dx (.own x)) x (.ins C dx [])):=fun b u e=>by
  rw [JD (JC e nx),JD (JC e ndx)]; exact e
 refine ⟨x,l1,l2,l3,dx,ps,zs,gs,rfl,Jh,JA.of (e5 _ _ k1),JA.of (e5 _ _ k2),Zn hP e5,JA.of (e5 _ _ k3),G,fun H' ps' zs' gs' bt pp ps zp zs gp gs B=>q ps' zs' gs' H' (fun b u e=>?_) ⟨B,G.perm pp (zp.map _) gp⟩ pp ps zp zs gp gs⟩;have e6:=e4 b u e;exact bt b u (JC e6 nx) (e5 b u e6)
theorem Jqp {x0 x dx:Addr} {b:Addr} {ps:List Str} {zs:List (V×(Str×Str))} {gs:List Str} {c t:Int} (B:Bd K C H b ps zs gs) (hc:0≤c∧c≤20) (ht:0≤t∧t≤30)
  (nx:H x=none) (ndx:H dx=none) (q:∀ H',Jf H H'→Bk K C CB H' x b ps zs gs c t.toNat (t.toNat + 1)→Q .non H') :
  Jmr K C CB x0 (.ref x :: ([.ref b,.int c,.int t] ++ [])) (upd (upd H dx (.own x)) x (.ins CB dx [])) Q E:=by
 have e5:Jf H (upd (upd H dx (.own x)) x (.ins CB dx [])):=fun b u e=>by
  rw [JD (JC e nx),JD (JC e ndx)]; exact e
 obtain ⟨bdx,_,_,_,hb,_⟩:=id B.B;refine ⟨x,b,dx,c,t,ps,zs,gs,rfl,Jh,(fun e=>by rw [← e,nx] at hb; cases hb),B.same e5,fun h=>absurd hc h,fun _ h=>absurd ht h,fun _ _ H' bt Bk'=>q H' (fun b u e=>?_) Bk'⟩;exact bt b u (JC e nx) (e5 b u e)
theorem Bk.ins {k b:Addr} {ps:List Str} {zs:List (V×(Str×Str))} {gs:List Str} {c:Int} {t n:Nat} (h:Bk K C CB H k b ps zs gs c t n):∃ dx l,H k=some (.ins CB dx [("board",.ref b),("coins",.int c),("turns",.int t),("needs",.ref l)]):=let ⟨dx,l,_,h1,_⟩:=h.at_; ⟨dx,l,h1⟩
end
theorem Jju {zs zs':List (Str×Str)} (h:zs'.Perm zs) (p:Str):(JB zs' p).Perm (JB zs p):=(h.filter _).map _
theorem Jmi {zs zs':List (Str×Str)} (h:zs'.Perm zs) (p:Str):JB zs' p=[]↔JB zs p=[]:=by
 have hp:=Jju h p;constructor
 ·intro e; rw [e] at hp; exact hp.symm.eq_nil
 ·intro e; rw [e] at hp; exact hp.eq_nil
theorem JpJ {z:Str} {m:Nat} {zs zs':List (Str×Str)} {gs gs':List Str} (zp:zs'.Perm zs) (gp:gs'.Perm gs) :
  (z∈gs'∧Jcf z (m:Int) zs gs = "north"∧Yv zs' gs' m z)∨(z∉gs'∧Jcf z (m:Int) zs gs = "south"∧Yv zs' gs' m z)∨(Jcf z (m:Int) zs gs = ""∧¬ Yv zs' gs' m z):=by
 have e1:(z∈gs')↔(z∈gs):=gp.mem_iff;have e2:=Jmi zp z;unfold Jcf Yv;by_cases hg:z∈gs
 ·exact .inl ⟨e1.mpr hg,by rw [if_pos hg],.inl (e1.mpr hg)⟩
 ·by_cases h0:(m:Int)=0∨JB zs z=[]
  ·refine .inr (.inl ⟨fun h=>hg (e1.mp h),by rw [if_neg hg,if_pos h0],.inr ?_⟩);rcases h0 with h0 | h0
   ·exact .inl (by omega)
   ·exact .inr (e2.mpr h0)
  ·refine .inr (.inr ⟨by rw [if_neg hg,if_neg h0],?_⟩);rintro (h | h | h)
   ·exact hg (e1.mp h)
   ·exact h0 (.inl (by omega))
   ·exact h0 (.inr (e2.mp h))
theorem Jaz {x n:Int} (h:0 < n):0≤x % n∧x % n < n:=⟨Int.emod_nonneg _ (by omega),Int.emod_lt_of_pos _ h⟩
theorem Jj9 {ps:List Str} (h:1≤ps.length) (x:Int):∃ p,atI (ps.map V.str) (x % ((ps.map V.str).length:Int))=some (.str p)∧p∈ps:=by
 rw [List.length_map];have hb:=Jaz (x:=x) (n:=(ps.length:Int)) (by omega);exact ⟨_,Jdx hb.1 hb.2,JhB hb.1 hb.2⟩
theorem Jmh {zs:List (Str×Str)} (h:zs.Pairwise ple) (p:Str):(JB zs p).Pairwise sle:=by
 unfold JB;rw [List.pairwise_map];refine List.Pairwise.imp_of_mem ?_ (h.filter _);intro x y hx hy hxy;have e1:x.1=p:=of_decide_eq_true (List.mem_filter.mp hx).2;have e2:y.1=p:=of_decide_eq_true (List.mem_filter.mp hy).2;have z:(if y.1.cps.toList=x.1.cps.toList then decide (y.2.cps.toList < x.2.cps.toList) else decide (y.1.cps.toList < x.1.cps.toList))=false:=hxy;rw [if_pos (by rw [e1,e2])] at z;exact z
theorem Jq8 {zs zs':List (Str×Str)} {ws:List Str} {p:Str} (hz:zs'.Pairwise ple) (zp:zs'.Perm zs) (hw:ws.Perm (JB zs p)) (hs:ws.Pairwise sle):ws=JB zs' p :=
 Jjy (fun _ _=>Jry) (hw.trans (Jju zp p).symm) hs (Jmh hz p)
def Js6 (K:PySem.W.Frag):Sp:=fun vs H Q _=>∃ (t:Addr) (c:Int) (ps:List Str) (zs:List (V×(Str×Str))) (gs:List Str),vs=[.ref t,.int c]∧Ground K H t ps zs gs∧∀ (p:Str) (H':Hp),p∈ps→Jf H H'→Q (.str p) H'
def Zo:V→Bool
 | .non=>true
 | .int _=>true
 | .str _=>true
 | _=>false
def Jrc:Sp:=fun vs H Q _=>∃ i:Int,vs=[.int i]∧Q (.bl true) H
def Jtd:Sp:=fun vs H Q _=>∃ i:Int,vs=[.int i]∧∀ b H',Jf H H'→Q (.str (hs b)) H'
def Jrn:Sp:=fun vs H Q _=>∃ x:V,vs=[x,x]∧Zo x=true∧Q (.bl true) H
inductive Ph
 | over
 | bid
 | ans (b:Int)
 | step (h:Bool)
structure Mo where
 p:Str
 m:Nat
 n:Int
 r:Bool
 ph:Ph
def Mo.hand (x:Mo):V:=match x.ph with
 | .over=>.non
 | .bid=>.str (hs (!x.r))
 | .ans _=>.str (hs x.r)
 | .step h=>.str (hs h)
def Mo.word (x:Mo):V:=match x.ph with
 | .over=>.non
 | .bid=>.str "bid"
 | .ans _=>.str "answer"
 | .step _=>.str "step"
def Mo.heard (x:Mo):V:=match x.ph with
 | .ans b=>.int b
 | _=>.non
def Mo.fs (c:Int) (x:Mo):List (Str×V):=[("place",.str x.p),("turns",.int (x.m:Int)),("north",.int x.n),("south",.int (c - x.n)),("ribbon",.str (hs x.r)),("hand",x.hand),("word",x.word),("heard",x.heard)]
structure Jds (ps:List Str) (zs:List (Str×Str)) (gs:List Str) (c:Int) (T:Nat) (x:Mo):Prop where
 p:x.p∈ps
 m:x.m≤T
 n:0≤x.n∧x.n≤c
 e:x.ph=.over↔Yv zs gs x.m x.p
 b:∀ b,x.ph=.ans b→0≤b∧b≤own c x.n (!x.r)
def ZS (zs:List (Str×Str)) (gs:List Str) (p:Str) (m:Nat) (n:Int) (r:Bool):Mo:=⟨p,m,n,r,if Yv zs gs m p then .over else .bid⟩
theorem JjQ {ps:List Str} {zs:List (Str×Str)} {gs:List Str} {c:Int} {T:Nat} {p:Str} {m:Nat} {n:Int} {r:Bool} (hp:p∈ps) (hm:m≤T) (hn:0≤n∧n≤c):Jds ps zs gs c T (ZS zs gs p m n r):=by
 refine ⟨hp,hm,hn,?_,fun b h=>?_⟩
 ·show (if Yv zs gs m p then Ph.over else Ph.bid)=.over↔_;by_cases he:Yv zs gs m p
  ·rw [if_pos he]; exact ⟨fun _=>he,fun _=>rfl⟩
  ·rw [if_neg he]; exact ⟨fun h=>(nomatch h),fun h=>absurd h he⟩
 ·have h:(if Yv zs gs m p then Ph.over else Ph.bid)=.ans b:=h;split at h <;> cases h
structure Gm where
 S:Hp
 g:Addr
 b:Addr
 k:Addr
 ld:Addr
 lm:Addr
 ps:List Str
 zs:List (V×(Str×Str))
 gs:List Str
 c:Int
 T:Nat
section
variable {K:PySem.W.Frag} {mg:Str→Option Value} (T:Txt K mg)
structure J0 (G:Gm) (H:Hp) (ds:List (Addr×List V)) (ms:List (Addr×Mo)):Prop where
 sm:Jf G.S H
 bk:Bk K T.JU T.JX G.S G.k G.b G.ps G.zs G.gs G.c G.T (G.T + 1)
 gi:∃ dx,G.S G.g=some (.ins T.J4 dx [("board",.ref G.b),("book",.ref G.k),("done",.ref G.ld),("moments",.ref G.lm)])
 nd:G.S G.ld=none
 nm:G.S G.lm=none
 ne:G.ld≠G.lm
 hd:H G.ld=some (.lst (ds.map fun d=>.ref d.1))
 hm:H G.lm=some (.lst (ms.map fun x=>.ref x.1))
 dt:∀ d∈ds,H d.1=some (.tup d.2)
 mt:∀ x∈ms,∃ dx,H x.1=some (.ins T.Yd dx (x.2.fs G.c))
 mo:∀ x∈ms,Jds G.ps (G.zs.map (·.2)) G.gs G.c G.T x.2
variable {T} {G:Gm} {H H':Hp} {ds:List (Addr×List V)} {ms:List (Addr×Mo)}
theorem J0.same (h:J0 T G H ds ms) (e:Jf H H'):J0 T G H' ds ms :=
 ⟨h.sm.trans e,h.bk,h.gi,h.nd,h.nm,h.ne,e _ _ h.hd,e _ _ h.hm,fun d hd=>e _ _ (h.dt d hd),fun x hx=>let ⟨dx,q⟩:=h.mt x hx; ⟨dx,e _ _ q⟩,h.mo⟩
def Yj (X:List Addr) (H H':Hp):Prop:=∀ b u,b∉X→H b=some u→H' b=some u
theorem Yj.of {X:List Addr} (e:Jf H H'):Yj X H H':=fun b u _ h=>e b u h
theorem Yj.trans {X:List Addr} {H2:Hp} (e:Yj X H H') (e2:Yj X H' H2):Yj X H H2:=fun b u hn h=>e2 b u hn (e b u hn h)
theorem Yj.tup {X:List Addr} (e:Yj X H H') (hX:∀ x∈X,∃ vs,H x=some (.lst vs)) {a:Addr} {xs:List V} (h:H a=some (.tup xs)):H' a=some (.tup xs) :=
 e _ _ (fun hx=>by obtain ⟨vs,q⟩:=hX a hx; rw [h] at q; cases q) h
theorem Yj.ins {X:List Addr} (e:Yj X H H') (hX:∀ x∈X,∃ vs,H x=some (.lst vs)) {a C dx:Addr} {fs:List (Str×V)} (h:H a=some (.ins C dx fs)):H' a=some (.ins C dx fs) :=
 e _ _ (fun hx=>by obtain ⟨vs,q⟩:=hX a hx; rw [h] at q; cases q) h
theorem J0.lists (h:J0 T G H ds ms):∀ x∈[G.ld,G.lm],∃ vs,H x=some (.lst vs):=fun x hx=>by
 rcases List.mem_cons.mp hx with rfl | hx
 ·exact ⟨_,h.hd⟩
 ·rw [List.mem_singleton.mp hx]; exact ⟨_,h.hm⟩
theorem J0.static (h:J0 T G H ds ms) (e:Yj [G.ld,G.lm] H H'):Jf G.S H':=fun b u q=>e b u (fun hx=>by
 rcases List.mem_cons.mp hx with rfl | hx
 ·rw [h.nd] at q; cases q
 ·rw [List.mem_singleton.mp hx,h.nm] at q; cases q) (h.sm b u q)
theorem J0.frame {X:List Addr} (h:J0 T G H ds ms) (e:Yj X H H') (hX:∀ x∈X,∃ vs,H x=some (.lst vs)) (hS:∀ x∈X,G.S x=none) (h1:G.ld∉X) (h2:G.lm∉X):J0 T G H' ds ms :=
 ⟨fun b u q=>e b u (fun hx=>by rw [hS b hx] at q; cases q) (h.sm b u q),h.bk,h.gi,h.nd,h.nm,h.ne,e _ _ h1 h.hd,e _ _ h2 h.hm,fun d hd=>e.tup hX (h.dt d hd),fun x hx=>let ⟨dx,q⟩:=h.mt x hx; ⟨dx,e.ins hX q⟩,h.mo⟩
theorem ZV {xs:List V} {v:V}:atI (xs ++ [v]) (-1)=some v:=by
 have e:ixN (xs ++ [v]).length (-1)=some xs.length:=by
  unfold ixN;rw [List.length_append];simp;exact ⟨by omega,by omega⟩
 unfold atI;rw [e];simp
theorem J0.more (h:J0 T G H ds ms) {H1:Hp} (e:Jf H H1) {d a dx:Addr} {dv:List V} {x:Mo} (hd:H1 d=some (.tup dv)) (ha:H1 a=some (.ins T.Yd dx (x.fs G.c))) (hx:Jds G.ps (G.zs.map (·.2)) G.gs G.c G.T x) :
  Yj [G.ld,G.lm] H (upd (upd H1 G.ld (.lst (ds.map (fun d=>V.ref d.1) ++ [.ref d]))) G.lm (.lst (ms.map (fun x=>V.ref x.1) ++ [.ref a])))∧J0 T G (upd (upd H1 G.ld (.lst (ds.map (fun d=>V.ref d.1) ++ [.ref d]))) G.lm (.lst (ms.map (fun x=>V.ref x.1) ++ [.ref a]))) (ds ++ [(d,dv)]) (ms ++ [(a,x)]):=by
 have h1:=h.same e;have c1:Yj [G.ld,G.lm] H1 (upd (upd H1 G.ld (.lst (ds.map (fun d=>V.ref d.1) ++ [.ref d]))) G.lm (.lst (ms.map (fun x=>V.ref x.1) ++ [.ref a]))):=fun b u hn q=>by
  rw [JD (fun z=>hn (by rw [z]; simp)),JD (fun z=>hn (by rw [z]; simp))]; exact q
 refine ⟨(Yj.of e).trans c1,h1.static c1,h.bk,h.gi,h.nd,h.nm,h.ne,?_,?_,fun y hy=>?_,fun y hy=>?_,fun y hy=>?_⟩
 ·rw [JD h.ne,Jh,List.map_append]; rfl
 ·rw [Jh,List.map_append]; rfl
 ·rcases List.mem_append.mp hy with q | q
  ·exact c1.tup h1.lists (h1.dt y q)
  ·rw [List.mem_singleton.mp q]; exact c1.tup h1.lists hd
 ·rcases List.mem_append.mp hy with q | q
  ·obtain ⟨dy,z⟩:=h1.mt y q;exact ⟨dy,c1.ins h1.lists z⟩
  ·rw [List.mem_singleton.mp q]; exact ⟨dx,c1.ins h1.lists ha⟩
 ·rcases List.mem_append.mp hy with q | q
  ·exact h.mo y q
  ·rw [List.mem_singleton.mp q]; exact hx
variable (T)
def Jmo:Sp:=fun vs H Q _=>∃ (x dx:Addr) (v1 v2 v3 v4 v5 v6 v7 v8:V),vs=[.ref x,v1,v2,v3,v4,v5,v6,v7,v8]∧H x=some (.ins T.Yd dx [])∧Q .non (upd H x (.ins T.Yd dx [("place",v1),("turns",v2),("north",v3),("south",v4),("ribbon",v5),("hand",v6),("word",v7),("heard",v8)]))
def JpT:Sp:=fun vs H Q _=>∃ (b:Addr) (p:Str) (m:Nat) (n c:Int) (r:Bool) (ps:List Str) (zs:List (V×(Str×Str))) (gs:List Str),vs=[.ref b,.str p,.int (m:Int),.int n,.int (c - n),.str (hs r)]∧Bd K T.JU H b ps zs gs∧p∈ps∧m≤30∧∀ a dx H',H a=none→Jf H H'→H' a=some (.ins T.Yd dx ((ZS (zs.map (·.2)) gs p m n r).fs c))→Q (.ref a) H'
def Jjx (ps:List Str) (z:Str) (m n s:Int) (x:Str) (H:Hp) (E:XK):Prop :=
 (z∉ps→E (.ref T.Y8) none H)∧(z∈ps→¬ (0≤m∧m≤30)→E (.ref T.Ym) none H)∧(z∈ps→0≤m∧m≤30→¬ ZM n s→E (.ref T.Ym) none H)∧(z∈ps→0≤m∧m≤30→ZM n s→JaA x=false→E (.ref T.Zr) none H)
def Jn6 (ps:List Str) (z:Str) (m n s:Int) (x:Str):Prop:=z∈ps∧(0≤m∧m≤30)∧ZM n s∧JaA x=true
theorem Jlr {ps:List Str} {z:Str} {m n s:Int} {x:Str} {H:Hp} {E:XK} (h:Jn6 ps z m n s x):Jjx T ps z m n s x H E :=
 ⟨fun z=>absurd h.1 z,fun _ z=>absurd h.2.1 z,fun _ _ z=>absurd h.2.2.1 z,fun _ _ _ z=>by rw [h.2.2.2] at z; cases z⟩
def Jp1:Sp:=fun vs H Q E=>∃ (b:Addr) (z x:Str) (m n s:Int) (ps:List Str) (zs:List (V×(Str×Str))) (gs:List Str),vs=[.ref b,.str z,.int m,.int n,.int s,.str x]∧YQ z∧YQ x∧Bd K T.JU H b ps zs gs∧Jjx T ps z m n s x H E∧(Jn6 ps z m n s x→Q .non H)
def Jmp:Sp:=fun vs H Q E=>∃ (g b dx:Addr) (z x:Str) (m n s:Int) (ps:List Str) (zs:List (V×(Str×Str))) (gs:List Str),vs=[.ref g,.ref b,.str z,.int m,.int n,.int s,.str x]∧H g=some (.ins T.J4 dx [])∧g≠b∧YQ z∧YQ x∧Bd K T.JU H b ps zs gs∧Jjx T ps z m n s x H E ∧
 (z∈ps→0≤m∧m≤30→ZM n s→∀ r,x=hs r→∀ (G:Gm) (a:Addr) (H':Hp),G.g=g→G.b=b→G.ps=ps→G.zs=zs→G.gs=gs→G.c=n + s→G.T=m.toNat→Y2 g H G.S→J0 T G H' [] [(a,ZS (zs.map (·.2)) gs z m.toNat n r)]→Q .non H')
def JpX:Sp:=fun vs H Q _=>∃ (G:Gm) (ds:List (Addr×List V)) (ms:List (Addr×Mo)) (a:Addr) (x:Mo),vs=[.ref G.g]∧J0 T G H ds (ms ++ [(a,x)])∧∀ t H',Jf H H'→H' t=some (.tup [.str x.p,.int (x.m:Int),.int x.n,.int (G.c - x.n),.str (hs x.r)])→Q (.ref t) H'
def Jtg:Sp:=fun vs H Q _=>∃ (G:Gm) (ds:List (Addr×List V)) (ms:List (Addr×Mo)) (a:Addr) (x:Mo),vs=[.ref G.g]∧J0 T G H ds (ms ++ [(a,x)])∧(x.ph=.over→Q .non H)∧(x.ph≠.over→∀ t H',Jf H H'→H' t=some (.tup [x.hand,x.word])→Q (.ref t) H')
def JpZ:Sp:=fun vs H Q _=>∃ (G:Gm) (ds:List (Addr×List V)) (ms:List (Addr×Mo)) (a:Addr) (x:Mo),vs=[.ref G.g]∧J0 T G H ds (ms ++ [(a,x)])∧Q x.heard H
def Jp0:Sp:=fun vs H Q _=>∃ (G:Gm) (ds:List (Addr×List V)) (ms:List (Addr×Mo)),vs=[.ref G.g]∧J0 T G H ds ms∧∀ t H',Jf H H'→H' t=some (.tup (ds.map fun d=>.ref d.1))→Q (.ref t) H'
def Jrq:Sp:=fun vs H Q _=>∃ (G:Gm) (ds:List (Addr×List V)) (ms:List (Addr×Mo)) (a:Addr) (x:Mo),vs=[.ref G.g]∧J0 T G H ds (ms ++ [(a,x)])∧∀ H',Jf H H'→Q (YT x.p (x.m:Int) (G.zs.map (·.2)) G.gs) H'
def Jtj:Sp:=fun vs H Q E=>∃ (G:Gm) (ds:List (Addr×List V)) (ms:List (Addr×Mo)) (a:Addr) (x:Mo) (z w:Str),vs=[.ref G.g,.str z,.str w]∧J0 T G H ds (ms ++ [(a,x)])∧YQ z∧w.length≤1000∧(x.hand=.str z∧x.word=.str w→∀ H',Jf H H'→Q .non H')∧(¬ (x.hand=.str z∧x.word=.str w)→∀ H',Jf H H'→E (.ref T.JaR) none H')
def Jte:Sp:=fun vs H Q _=>∃ (G:Gm) (ds:List (Addr×List V)) (ms:List (Addr×Mo)) (d a dx:Addr) (dv:List V) (x:Mo),vs=[.ref G.g,.ref d,.ref a]∧J0 T G H ds ms∧ds.length≤1000∧ms.length≤1001∧H d=some (.tup dv)∧H a=some (.ins T.Yd dx (x.fs G.c))∧Jds G.ps (G.zs.map (·.2)) G.gs G.c G.T x∧∀ H',Yj [G.ld,G.lm] H H'→J0 T G H' (ds ++ [(d,dv)]) (ms ++ [(a,x)])→Q .non H'
def Jth:Sp:=fun vs H Q E=>∃ (G:Gm) (ds:List (Addr×List V)) (ms:List (Addr×Mo)) (a:Addr) (x:Mo) (z:Str) (y:Int),vs=[.ref G.g,.str z,.int y]∧J0 T G H ds (ms ++ [(a,x)])∧ds.length≤1000∧ms.length≤1000∧YQ z∧(¬ (x.ph=.bid∧z=hs (!x.r))→∀ H',Jf H H'→E (.ref T.JaR) none H')∧(x.ph=.bid→z=hs (!x.r)→¬ (0≤y∧y≤own G.c x.n (!x.r))→∀ H',Jf H H'→E (.ref T.JaD) none H') ∧
 (x.ph=.bid→z=hs (!x.r)→0≤y∧y≤own G.c x.n (!x.r)→∀ d a' H',Yj [G.ld,G.lm] H H'→J0 T G H' (ds ++ [(d,[.str z,.str "bid",.int y])]) ((ms ++ [(a,x)]) ++ [(a',⟨x.p,x.m,x.n,x.r,.ans y⟩)])→Q .non H')
def JoO:Sp:=fun vs H Q E=>∃ (G:Gm) (ds:List (Addr×List V)) (ms:List (Addr×Mo)) (a:Addr) (x:Mo) (z:Str) (y:Int),vs=[.ref G.g,.str z,.int y]∧J0 T G H ds (ms ++ [(a,x)])∧ds.length≤1000∧ms.length≤1000∧YQ z∧((∀ b,x.ph=.ans b→z≠hs x.r)→∀ H',Jf H H'→E (.ref T.JaR) none H')∧(∀ b,x.ph=.ans b→z=hs x.r→¬ (0≤y∧y≤own G.c x.n x.r)→∀ H',Jf H H'→E (.ref T.JaD) none H') ∧
 (∀ b,x.ph=.ans b→z=hs x.r→0≤y∧y≤own G.c x.n x.r→∀ d a' H',Yj [G.ld,G.lm] H H'→J0 T G H' (ds ++ [(d,[.str z,.str "answer",.int y])]) ((ms ++ [(a,x)]) ++ [(a',⟨x.p,x.m,(after x.n x.r b y).2.1,(after x.n x.r b y).2.2,.step (after x.n x.r b y).1⟩)])→Q (.str (hs (after x.n x.r b y).1)) H')
def Jrp:Sp:=fun vs H Q E=>∃ (G:Gm) (ds:List (Addr×List V)) (ms:List (Addr×Mo)) (a:Addr) (x:Mo) (z w:Str),vs=[.ref G.g,.str z,.str w]∧J0 T G H ds (ms ++ [(a,x)])∧ds.length≤1000∧ms.length≤1000∧YQ z∧YQ w∧((∀ h,x.ph=.step h→z≠hs h)→∀ H',Jf H H'→E (.ref T.JaR) none H')∧(∀ h,x.ph=.step h→z=hs h→w∉JB (G.zs.map (·.2)) x.p→∀ H',Jf H H'→E (.ref T.Jdd) none H') ∧
 (∀ h,x.ph=.step h→z=hs h→w∈JB (G.zs.map (·.2)) x.p→∀ d a' H',Yj [G.ld,G.lm] H H'→J0 T G H' (ds ++ [(d,[.str z,.str "step",.str w])]) ((ms ++ [(a,x)]) ++ [(a',ZS (G.zs.map (·.2)) G.gs w (x.m - 1) x.n x.r)])→Q .non H')
end
section
variable {P:Program} {w:World} {K:PySem.W.Frag} {mg:Str→Option Value} {base:Heap}
theorem JrW (T:Txt K mg):JM P w K mg base Yy 1 T.Jk1 T.Ji2 ["_law_found"] Jrc:=by
 refine T.Jlh.F.ok JrH (fun vs H Q E h=>?_) (fun cdv A outer s H vs Q E hr h=>?_)
 ·obtain ⟨i,rfl,_⟩:=h;rfl
 ·obtain ⟨i,rfl,q⟩:=h;refine ⟨_,(Xn (Xq (@JjI _ _ _ _ _ _ _ (Xe (@Jb4 _) T.Ye PyProof.Rows.boot_isinstance (Xc (Xa 0) (Xc (XG T.JsM PyProof.Rows.boot_int) (Xv 0)))) (@JjG _ _ _ _ _ (@Juy _ _ _ _ (Xe (@Jb4 _) T.Ye PyProof.Rows.boot_isinstance (Xc (Xa 0) (Xc (XG T.Jqn PyProof.Rows.boot_bool) (Xv 0))))))))),?_⟩;refine ⟨_,rfl,_,_,_,_,rfl,⟨_,.inl rfl⟩,.int i,JuL,_,rfl,YG ?_⟩;exact ⟨_,rfl,_,_,_,_,rfl,⟨_,.inl rfl⟩,.int i,JuM,_,rfl,q⟩
theorem Jc9 (T:Txt K mg):JM P w K mg base Yy 2 T.Jk8 T.Ji9 ["_law_found", "_law_due_here"] Jrn:=by
 refine T.JcE.F.ok JrK (fun vs H Q E h=>?_) (fun cdv A outer s H vs Q E hr h=>?_)
 ·obtain ⟨_,rfl,_⟩:=h;rfl
 ·obtain ⟨x,rfl,hx,q⟩:=h;refine ⟨_,(Xh (Xl (XM (XY (Xa 1)) (by first | exact YA _ (by decide) (by decide) | rfl)) (Xn (Xq (@JjH _ _ _ _ _ _ (XY (Xa 0)) (by first | exact YA _ (by decide) (by decide) | rfl)))) (XO 0)) (Xh (Xl (XQ (Xe (@Jb4 _) T.Ye PyProof.Rows.boot_isinstance (Xc (Xa 1) (Xc (XG T.Jpd PyProof.Rows.boot_str) (Xv 0)))) (by intro _; rfl)) (Xn (Xq (@JjI _ _ _ _ _ _ _ (Xe (@Jb4 _) T.Ye PyProof.Rows.boot_isinstance (Xc (Xa 0) (Xc (XG T.Jpd PyProof.Rows.boot_str) (Xv 0)))) (@JjG _ _ _ _ _ (@JkG _ _ _ _ _ _ _ _ (Xab 0) (Xa 0) (Xa 1) (JJ _)))))) (XO 0)) (Xn (Xq (@JjI _ _ _ _ _ _ _ (Xb T.Jlh (JrW T) Jp (Xc (Xa 0) (Xv 0))) (@JjG _ _ _ _ _ (@JkG _ _ _ _ _ _ _ _ (Xab 0) (Xa 0) (Xa 1) (JJ _)))))))),?_⟩;change let Bq1:=_; let Bq2:=Jl _ Bq1; Jl _ Bq2 _ _ _;intro Bq1 Bq2;refine ⟨_,rfl,_,rfl,?_⟩;cases x with
  | non =>
   refine YI (by rfl) ⟨_,rfl,?_⟩;exact q
  | int i =>
   refine Yi (by rfl) ⟨_,rfl,_,_,_,_,rfl,⟨_,.inl rfl⟩,.int i,JuK,_,rfl,Yk ?_⟩;refine ⟨_,rfl,i,rfl,_,rfl,YG ⟨_,rfl,_,rfl,rfl,?_⟩⟩;rw [decide_eq_true rfl];exact q
  | str z =>
   refine Yi (by rfl) ⟨_,rfl,_,_,_,_,rfl,⟨_,.inl rfl⟩,.str z,Jqu,_,rfl,YG ?_⟩;refine ⟨_,rfl,_,_,_,_,rfl,⟨_,.inl rfl⟩,.str z,Jqu,_,rfl,YG ⟨_,rfl,_,rfl,rfl,?_⟩⟩;rw [decide_eq_true rfl];exact q
  | _=>exact absurd hx Bool.false_ne_true
theorem JtH (T:Txt K mg):JM P w K mg base Yy 1 T.Jnw T.JkX ["_law_cell"] Jtd:=by
 refine T.JnP.F.ok Jtr (fun vs H Q E h=>?_) (fun cdv A outer s H vs Q E hr h=>?_)
 ·obtain ⟨i,rfl,_⟩:=h;rfl
 ·obtain ⟨i,rfl,q⟩:=h;refine ⟨_,(Xn (Xq (Xf (Xac 0) (XX (Xc (Xx 0) (Xc (Xx 0) (Xv 0)))) (Xi (X7 0) (Xa 0) (Xj 0))))),?_⟩;refine ⟨by decide,fun p hp=>⟨_,rfl,_,_,rfl,rfl,(by show (0:Int) < 2; decide),p,_,_,.str (hs (decide (i % 2=0))),rfl,rfl,JA.of Jh,?_,q _ _ (Jf.upd hp)⟩⟩;have h:i % 2=0∨i % 2=1:=by omega
  rcases h with h | h <;> rw [h] <;> rfl
theorem Joh (T:Txt K mg):JM P w K mg base Yy 1 T.Jnp T.JkQ ["_law_ground_here", "_law_place"] (Jrm K):=by
 refine T.Jkg.F.ok Jtp (fun vs H Q E h=>?_) (fun cdv A outer s H vs Q E hr h=>?_)
 ·obtain ⟨_,_,_,_,_,rfl,_⟩:=h;rfl
 ·obtain ⟨t,z,ps,zs,gs,rfl,G,q⟩:=h;have szl:sizeLine=16777216:=sizeLine_eq;refine ⟨_,(@Jg _ _ _ (@Jo _ _ _ _ (@JF _ _ _ _ _ _ _ _ _ (@Jg3 _) rfl T.Jfb PyProof.Rows.boot_sorted (@Ja _ _ _ _ _ (@JgR _ _ _ _ _ _ _ 2 ["_law_start", "_law_end", "_law_place"] [1] _ _ _ _ ["_law_ground_here", "_law_place"] ((Jn JjC).names) (by decide +kernel) (@JbG _ _ _ _ (@Jw _ _ _ _ _ _ _ (@JN _) (@pv _ 0 _ _ rfl (.inl rfl) rfl rfl) (@Je _ _ _ _) (fun _ _=>rfl))) (fun _ _ _ _=>(show PG _ _ (Jpj K 2 _) from Jgr rfl (@Yh _ _ _ _ _ (@JaX _ _ _ _ _ _ _ _ _ 0 (by decide +kernel) rfl rfl) (@Yh _ _ _ _ _ (@JaX _ _ _ _ _ _ _ _ _ 1 (by decide +kernel) rfl rfl) (@JeA _) rfl) rfl))) (fun _ _ _ _=>(@Jig _ _ _ (@Jy _ _ _ _ _ _ _ _ (@Yl _) (@Jaa _ _ _ _ _ _ _ _ _ 0 rfl rfl (by decide) (by decide)) (@Jbv _ _ _ _ _ _ _ _ _ 2 rfl rfl (by decide) (by decide)) (JJ _)))) (fun _ _ _ _=>(@Jaa _ _ _ _ _ _ _ _ _ 1 rfl rfl (by decide) (by decide))) rfl rfl rfl (by intro _; rfl)) (@Jb _) rfl) (by decide) (by decide) rfl rfl))),?_⟩;obtain ⟨pn,pl,pg,h1,h2,h3,h4,h5⟩:=G.at_;have hzl:zs.length≤40:=by have:=G.good.l1; rwa [List.length_map] at this
  have wl:∀ i,(JB ((zs.map (·.2)).take i) z).length≤40:=fun i=>by
   unfold JB;rw [List.length_map];refine Nat.le_trans (List.length_filter_le _ _) ?_;rw [List.length_take,List.length_map];omega
  refine ⟨_,rfl,t,_,_,.ref pl,rfl,rfl,JH.of h1,rfl,pl,rfl,⟨_,JA.of h3⟩,fun D hD=>?_⟩;let Pq:Nat→List V→Hp→Prop:=fun i ys H2=>Jf H H2∧H2 D=some (.lst ys)∧ys=(JB ((zs.map (·.2)).take i) z).map V.str
  refine Jj3 (xs:=zs.map (·.1)) Pq rfl rfl (fun i ys H2 p=>JA.of (p.1 _ _ h3)) ⟨Jf.upd hD,Jh,by simp [JB]⟩ (fun i ys H2 p=>p.2.1) ?_ ?_
  ·rintro i x ys H2 hx ⟨e2,hy,rfl⟩;rw [List.getElem?_map] at hx;obtain ⟨y,hy1,rfl⟩:=Option.map_eq_some_iff.mp hx;obtain ⟨a,ea,ha⟩:=h4 y (List.mem_of_getElem? hy1);have step:(zs.map (·.2)).take (i + 1)=(zs.map (·.2)).take i ++ [y.2]:=by
    rw [List.take_succ,List.getElem?_map,hy1]; rfl
   have wstep:JB ((zs.map (·.2)).take (i + 1)) z=JB ((zs.map (·.2)).take i) z ++ (if y.2.1=z then [y.2.2] else []):=by
    unfold JB;rw [step,List.filter_append,List.map_append];by_cases h:y.2.1=z
    ·simp [h]
    ·simp [h]
   have wli:=wl i;refine ⟨a,.str y.2.1,.str y.2.2,ea,e2.tup ha,_,rfl,_,rfl,rfl,_,rfl,?_⟩;by_cases h:y.2.1=z
   ·refine YI (by rw [h]; exact decide_eq_true rfl) ⟨_,rfl,hy,by rw [List.length_map]; omega,fun b' u e=>?_,Jh,?_⟩
    ·rw [JD (JC e hD)]; exact e2 b' u e
    ·rw [wstep,if_pos h,List.map_append]; rfl
   ·refine Yi (decide_eq_false (fun e=>h (V.str.inj e))) ⟨e2,hy,?_⟩;rw [wstep,if_neg h,List.append_nil]
  ·rintro ys H2 ⟨e2,hy,rfl⟩;rw [List.length_map] at hy;rw [show zs.length=(zs.map (·.2)).length by simp] at hy;have wll:=wl (zs.map (·.2)).length;rw [List.take_length] at hy wll;exact ⟨D,_,rfl,JA.of hy,by omega,fun p ws np hp hs=>q p ws _ (e2.trans (Jf.upd np)) Jh hp hs⟩
theorem JmW (T:Txt K mg):JM P w K mg base Yy 2 T.Jpn T.Jnh ["_law_ground_here", "_law_place", "_law_left_here"] (Jua K):=by
 refine T.Jkf.F.ok Jui (fun vs H Q E h=>?_) (fun cdv A outer s H vs Q E hr h=>?_)
 ·obtain ⟨_,_,_,_,_,_,rfl,_⟩:=h;rfl
 ·obtain ⟨t,z,n,ps,zs,gs,rfl,G,q⟩:=h;refine ⟨_,(Xh (Xl (Xo (@Jlv _) (Xa 1) (Xf (XZ 0) (Xa 0) (Xj 0)) (by with_unfolding_all rfl)) (Xn (Xq (Xx 0))) (XO 0)) (Xh (Xl (X3 (XH (Xo (Xab 0) (Xa 2) (Xj 0) (JJ _)) (XV (Xo (@JmV _ hr.units0) (Xb T.Jkg (Joh T) Jp (Xc (Xa 0) (Xc (Xa 1) (Xv 0)))) (XX (Xv 0)) (JJ _))))) (Xn (Xq (Xx 0))) (XO 0)) (Xn (Xq (Xx 0))))),?_⟩;change let Bq1:=_; let Bq2:=Jl _ Bq1; Jl _ Bq2 _ _ _;intro Bq1 Bq2;obtain ⟨pn,pl,pg,h1,h2,h3,h4,h5⟩:=G.at_;refine ⟨_,rfl,_,rfl,t,_,_,.ref pg,rfl,rfl,JH.of h1,rfl,pg,_,rfl,.inl (JA.of h5),rfl,JdK gs,_,rfl,?_⟩;rw [if_neg Bool.false_ne_true,Jfd];by_cases hg:z∈gs
  ·refine YI (decide_eq_true hg) ?_;have e:Jcf z n (zs.map (·.2)) gs = "north":=by unfold Jcf; rw [if_pos hg]
   rw [e] at q;exact q H (Jf.refl _)
  ·refine Yi (decide_eq_false hg) ⟨_,rfl,rfl,_,rfl,?_⟩;by_cases h0:n=0
   ·have e:Jcf z n (zs.map (·.2)) gs = "south":=by unfold Jcf; rw [if_neg hg,if_pos (.inl h0)]
    rw [e] at q;exact YI (by rw [h0]; exact decide_eq_true rfl) (YG (q H (Jf.refl _)))
   ·refine Yi (decide_eq_false fun e=>h0 (V.int.inj e)) ⟨_,rfl,_,rfl,t,z,ps,zs,gs,rfl,G,fun p ws H' e' hp wp _=>⟨by show 0≤sizeLine; decide,fun l nl=>⟨p,l,_,rfl,rfl,(Jf.upd nl).seq (JA.of hp),JA.of Jh,_,rfl,?_⟩⟩⟩;by_cases hw:JB (zs.map (·.2)) z=[]
    ·have e:Jcf z n (zs.map (·.2)) gs = "south":=by unfold Jcf; rw [if_neg hg,if_pos (.inr hw)]
     rw [e] at q;rw [hw] at wp;exact YI (by rw [wp.eq_nil]; rfl) (q _ (e'.trans (Jf.upd nl)))
    ·have e:Jcf z n (zs.map (·.2)) gs = "":=by unfold Jcf; rw [if_neg hg,if_neg (fun h=>h.elim h0 hw)]
     rw [e] at q;refine Yi ?_ (q _ (e'.trans (Jf.upd nl)));cases ws with
     | nil=>exact absurd (wp.symm.eq_nil) hw
     | cons _ _=>rfl
theorem JrY (T:Txt K mg):JM P w K mg base Yy 1 T.Jk3 T.Ji4 ["_law_cell"] Jre:=by
 refine T.Jlj.F.ok JrI (fun vs H Q E h=>?_) (fun cdv A outer s H vs Q E hr h=>?_)
 ·obtain ⟨_,rfl,_⟩:=h;rfl
 ·obtain ⟨c,rfl,q⟩:=h;refine ⟨_,(Xh (Xl (Xo (Xab 0) (Xi (X7 0) (Xi (@YJ _) (Xa 0) (Xj 0)) (Xj 0)) (Xj 0) (JJ _)) (Xn (Xq (Xi (X7 0) (Xi (@YJ _) (Xa 0) (Xj 0)) (Xj 0)))) (XO 0)) (Xn (Xq (Xf (Xac 0) (XX (Xc (Xj 0) (Xc (Xj 0) (Xc (Xj 0) (Xc (Xj 0) (Xc (Xj 0) (Xc (Xj 0) (Xc (Xj 0) (Xc (Xj 0) (Xv 0)))))))))) (Xi (X7 0) (Xa 0) (Xj 0)))))),?_⟩;change let Bq1:=_; Jl _ Bq1 _ _ _;intro Bq1;refine ⟨_,rfl,_,_,rfl,rfl,⟨by decide,by decide⟩,_,_,rfl,rfl,(by show (0:Int) < 6; decide),rfl,_,rfl,YW (fun _=>?_) (fun _=>?_)⟩
  ·exact ⟨_,rfl,_,_,rfl,rfl,⟨by decide,by decide⟩,_,_,rfl,rfl,(by show (0:Int) < 21; decide),q _ _ (by omega) (by omega) (Jf.refl _)⟩
  ·refine ⟨by show 8≤sizeLine; decide,fun l hl=>?_⟩;obtain ⟨y,hy,y0,y1⟩:=JsP (xs:=[5,3,4,6,2,1,0,7]) rfl (by decide) c;exact ⟨_,rfl,_,_,rfl,rfl,(by show (0:Int) < 8; decide),l,_,_,.int y,rfl,rfl,JA.of Jh,hy,q _ _ y0 y1 (Jf.upd hl)⟩
theorem JtG (T:Txt K mg):JM P w K mg base Yy 1 T.Jnv T.JkW ["_law_cell"] Jtb:=by
 refine T.JnO.F.ok Jtq (fun vs H Q E h=>?_) (fun cdv A outer s H vs Q E hr h=>?_)
 ·obtain ⟨_,rfl,_⟩:=h;rfl
 ·obtain ⟨c,rfl,q⟩:=h;refine ⟨_,(Xh (Xl (Xo (Xab 0) (Xi (X7 0) (Xi (@YJ _) (Xa 0) (Xj 0)) (Xj 0)) (Xj 0) (JJ _)) (Xn (Xq (Xi (X7 0) (Xi (@YJ _) (Xa 0) (Xj 0)) (Xj 0)))) (XO 0)) (Xn (Xq (Xf (Xac 0) (XX (Xc (Xj 0) (Xc (Xj 0) (Xc (Xj 0) (Xc (Xj 0) (Xc (Xj 0) (Xc (Xj 0) (Xc (Xj 0) (Xc (Xj 0) (Xv 0)))))))))) (Xi (X7 0) (Xa 0) (Xj 0)))))),?_⟩;change let Bq1:=_; Jl _ Bq1 _ _ _;intro Bq1;refine ⟨_,rfl,_,_,rfl,rfl,⟨by decide,by decide⟩,_,_,rfl,rfl,(by show (0:Int) < 6; decide),rfl,_,rfl,YW (fun _=>?_) (fun _=>?_)⟩
  ·exact ⟨_,rfl,_,_,rfl,rfl,⟨by decide,by decide⟩,_,_,rfl,rfl,(by show (0:Int) < 31; decide),q _ _ (by omega) (by omega) (Jf.refl _)⟩
  ·refine ⟨by show 8≤sizeLine; decide,fun l hl=>?_⟩;obtain ⟨y,hy,y0,y1⟩:=JsP (xs:=[4,5,3,6,2,1,0,7]) rfl (by decide) c;exact ⟨_,rfl,_,_,rfl,rfl,(by show (0:Int) < 8; decide),l,_,_,.int y,rfl,rfl,JA.of Jh,hy,q _ _ y0 (by omega) (Jf.upd hl)⟩
theorem JtD (T:Txt K mg):JM P w K mg base Yy 3 T.Jns T.JkT ["_law_ground_here", "_law_cell"] (Js6 K):=by
 refine T.JnL.F.ok Jic (fun vs H Q E h=>?_) (fun cdv A outer s H vs Q E hr h=>?_)
 ·obtain ⟨_,_,_,_,_,rfl,_⟩:=h;rfl
 ·obtain ⟨t,c,ps,zs,gs,rfl,G,q⟩:=h;refine ⟨_,(Xh (Xd 2 Jic.nd (Xf (XZ 0) (Xa 0) (Xj 0))) (Xh (Xy PassesOwn.never (XJ T.ZD (Xc (Xe (@JZ _) T.Y5 PySem.boot_len (Xc (Xa 2) (Xv 0))) (Xv 0))) (Xk 3 Jic.nd) (Xh (Xd 4 Jic.nd (Xf (Xac 0) (Xa 2) (Xi (X7 0) (Xi (X8 0) (Xa 1) (Xa 3)) (Xe (@JZ _) T.Y5 PySem.boot_len (Xc (Xa 2) (Xv 0)))))) (Xn (Xl (Xo (Xab 0) (Xb T.Jkf (JmW T) Jp (Xc (Xa 0) (Xc (Xa 4) (Xc (Xj 0) (Xv 0))))) (Xx 0) (JJ _)) (Xn (Xq (Xa 4))) (XO 0)))) (by intro _; rfl)) (Xn (Xq (Xf (Xac 0) (Xa 2) (Xi (X7 0) (Xa 1) (Xe (@JZ _) T.Y5 PySem.boot_len (Xc (Xa 2) (Xv 0))))))))),?_⟩;change let Bq1:=_; let Bq2:=_; let Bq3:=(Jl _ Bq2); let Bq4:=Jl (Jc4 _ _ Bq3) Bq1; Jl _ Bq4 _ _ _;intro Bq1 Bq2 Bq3 Bq4;obtain ⟨pn,pl,pg,h1,h2,h3,h4,h5⟩:=G.at_;have p1:=G.good.p1;have p2:=G.good.p2;refine ⟨_,rfl,t,_,_,.ref pn,rfl,rfl,JH.of h1,rfl,?_⟩;refine ⟨_,rfl,pn,_,rfl,.inl (JA.of h2),((ps.map V.str).length:Int),rfl,by rw [List.length_map]; omega,by rw [List.length_map]; omega,?_⟩;rw [Int.toNat_natCast];let Pq:Nat→St→Hp→Prop:=fun i σ H2=>Jf H H2∧∃ v3 v4,σ=[some (.ref t),some (.int c),some (.ref pn),v3,v4]
  refine Zs (n:=(ps.map V.str).length) Pq ⟨Jf.refl _,none,none,rfl⟩ ?_ ?_
  ·rintro i σ H2 hi ⟨e2,v3,v4,rfl⟩;obtain ⟨p,hp,hpm⟩:=Jj9 p1 (c + (0 + (i:Int)));refine ⟨_,rfl,_,rfl,_,rfl,_,_,rfl,rfl,_,rfl,pn,_,rfl,.inl (JA.of (e2 _ _ h2)),_,_,rfl,rfl,(by rw [List.length_map]; omega),pn,_,_,.str p,rfl,rfl,JA.of (e2 _ _ h2),hp,?_⟩;refine ⟨_,rfl,_,rfl,t,p,1,ps,zs,gs,rfl,G.same e2,fun H3 e3=>⟨rfl,_,rfl,YW (fun _=>?_) (fun _=>?_)⟩⟩
   ·exact ⟨_,rfl,q p H3 hpm (e2.trans e3)⟩
   ·exact ⟨e2.trans e3,_,_,rfl⟩
  ·rintro σ H2 ⟨e2,v3,v4,rfl⟩;obtain ⟨p,hp,hpm⟩:=Jj9 p1 c;exact ⟨_,rfl,_,rfl,_,rfl,pn,_,rfl,.inl (JA.of (e2 _ _ h2)),_,_,rfl,rfl,(by rw [List.length_map]; omega),pn,_,_,.str p,rfl,rfl,JA.of (e2 _ _ h2),hp,q p H2 hpm e2⟩
end
section
variable {P:Program} {w:World} {K:PySem.W.Frag} {mg:Str→Option Value} {base:Heap}
theorem JbI (T:Txt K mg):JM P w K mg base Yy 1 T.Jca T.Jdj ["self", "place", "turns", "north", "south", "ribbon", "hand", "word", "heard"] (Jmo T):=by
 refine T.Jam.F.ok Jkt (fun vs H Q E h=>?_) (fun cdv A outer s H vs Q E hr h=>?_)
 ·obtain ⟨_,_,_,_,_,_,_,_,_,_,rfl,_⟩:=h;rfl
 ·obtain ⟨x,dx,v1,v2,v3,v4,v5,v6,v7,v8,rfl,hx,q⟩:=h;refine ⟨_,(Xh (Xz (Xa 0) (Xa 1)) (Xh (Xz (Xa 0) (Xa 2)) (Xh (Xz (Xa 0) (Xa 3)) (Xh (Xz (Xa 0) (Xa 4)) (Xh (Xz (Xa 0) (Xa 5)) (Xh (Xz (Xa 0) (Xa 6)) (Xh (Xz (Xa 0) (Xa 7)) (Xn (Xz (Xa 0) (Xa 8)))))))))),?_⟩;change let Bq1:=_; let Bq2:=Jl _ Bq1; let Bq3:=Jl _ Bq2; let Bq4:=Jl _ Bq3; let Bq5:=Jl _ Bq4; let Bq6:=Jl _ Bq5; let Bq7:=Jl _ Bq6; Jl _ Bq7 _ _ _;intro Bq1 Bq2 Bq3 Bq4 Bq5 Bq6 Bq7;refine ⟨_,rfl,_,rfl,x,_,dx,_,rfl,hx,T.Jx,T.YM,by decide,?_⟩;refine ⟨_,rfl,_,rfl,x,_,dx,[("place",v1)],rfl,Jh,T.Jx,T.YL,by show 1 < 1000; decide,?_⟩;rw [Jct];refine ⟨_,rfl,_,rfl,x,_,dx,[("place",v1),("turns",v2)],rfl,Jh,T.Jx,T.YN,by show 2 < 1000; decide,?_⟩;rw [Jct];refine ⟨_,rfl,_,rfl,x,_,dx,[("place",v1),("turns",v2),("north",v3)],rfl,Jh,T.Jx,T.Zx,by show 3 < 1000; decide,?_⟩;rw [Jct];refine ⟨_,rfl,_,rfl,x,_,dx,[("place",v1),("turns",v2),("north",v3),("south",v4)],rfl,Jh,T.Jx,T.YE,by show 4 < 1000; decide,?_⟩;rw [Jct];refine ⟨_,rfl,_,rfl,x,_,dx,[("place",v1),("turns",v2),("north",v3),("south",v4),("ribbon",v5)],rfl,Jh,T.Jx,T.Z5,by show 5 < 1000; decide,?_⟩;rw [Jct];refine ⟨_,rfl,_,rfl,x,_,dx,[("place",v1),("turns",v2),("north",v3),("south",v4),("ribbon",v5),("hand",v6)],rfl,Jh,T.Jx,T.YK,by show 6 < 1000; decide,?_⟩;rw [Jct];refine ⟨_,rfl,_,rfl,x,_,dx,[("place",v1),("turns",v2),("north",v3),("south",v4),("ribbon",v5),("hand",v6),("word",v7)],rfl,Jh,T.Jx,T.Jay,by show 7 < 1000; decide,?_⟩;rw [Jct];exact q
theorem Jdy {T:Txt K mg} {H:Hp} {x dx:Addr} {v1 v2 v3 v4 v5 v6 v7 v8:V} {Q:VK} {E:XK} (nx:H x=none) (ndx:H dx=none) (q:∀ H',Jf H H'→H' x=some (.ins T.Yd dx [("place",v1),("turns",v2),("north",v3),("south",v4),("ribbon",v5),("hand",v6),("word",v7),("heard",v8)])→Q .non H') :
  Jmo T (.ref x :: ([v1,v2,v3,v4,v5,v6,v7,v8] ++ [])) (upd (upd H dx (.own x)) x (.ins T.Yd dx [])) Q E:=by
 refine ⟨x,dx,v1,v2,v3,v4,v5,v6,v7,v8,rfl,Jh,q _ (fun b u e=>?_) Jh⟩;rw [JD (JC e nx),JD (JC e nx),JD (JC e ndx)]; exact e
theorem Jg9 (T:Txt K mg):JM P w K mg base Yy 6 T.Jfn T.JdZ ["board", "place", "turns", "north", "south", "ribbon"] (JpT T):=by
 refine T.Jc1.F.ok Jl1 (fun vs H Q E h=>?_) (fun cdv A outer s H vs Q E hr h=>?_)
 ·obtain ⟨_,_,_,_,_,_,_,_,_,rfl,_⟩:=h;rfl
 ·obtain ⟨b,p,m,n,c,r,ps,zs,gs,rfl,B,hp,hm,q⟩:=h;refine ⟨_,(Xh (Xl (XM (X9 (Xb T.JcF (Jda T) Za (Xc (Xa 0) (Xc (Xa 1) (Xc (Xa 2) (Xv 0)))))) (by first | exact YA _ (by decide) (by decide) | rfl)) (Xn (Xq (Xu T.JdI (JbI T) T.Jfz T.Jam.b .nil Jp (Xc (Xa 1) (Xc (Xa 2) (Xc (Xa 3) (Xc (Xa 4) (Xc (Xa 5) (Xc (XW 0) (Xc (XW 0) (Xc (XW 0) (Xv 0)))))))))))) (XO 0)) (Xn (Xq (Xu T.JdI (JbI T) T.Jfz T.Jam.b .nil Jp (Xc (Xa 1) (Xc (Xa 2) (Xc (Xa 3) (Xc (Xa 4) (Xc (Xa 5) (Xc (Xb T.JeJ (JgS T) Za (Xc (Xa 5) (Xv 0))) (Xc (Xx 0) (Xc (XW 0) (Xv 0))))))))))))),?_⟩;change let Bq1:=_; Jl _ Bq1 _ _ _;intro Bq1;have tp:=Zc (B.G.p3 p hp);refine ⟨_,rfl,_,rfl,_,rfl,b,p,(m:Int),ps,zs,gs,rfl,tp,B.zl,B.B,fun z=>absurd hp z,fun _ z=>absurd ⟨by omega,by omega⟩ z,fun _ _ H1 e1=>?_⟩;have en:=Jfv (z:=p) (m:=m) (zs:=zs.map (·.2)) (gs:=gs);by_cases he:Yv (zs.map (·.2)) gs m p
  ·obtain ⟨y,hy⟩:=en.1 he;rw [hy];refine ⟨_,rfl,YG ⟨_,rfl,_,rfl,_,rfl,_,rfl,_,rfl,fun x dx nx ndx hne=>Jdy nx ndx fun H2 e2 h2=>⟨rfl,q x dx H2 (e1.free nx) (e1.trans e2) ?_⟩⟩⟩;rw [h2];show _=some (HO.ins _ dx (Mo.fs c ⟨p,m,n,r,if Yv (zs.map (·.2)) gs m p then .over else .bid⟩));rw [if_pos he]; rfl
  ·rw [en.2 he];refine ⟨_,rfl,Yk ⟨_,rfl,_,rfl,_,rfl,_,rfl,_,rfl,_,rfl,hs r,rfl,Zp r,(fun r' hr'=>?_),(fun z=>by rw [Zk] at z; cases z)⟩⟩;obtain rfl:=Zf hr';refine fun x dx nx ndx hne=>Jdy nx ndx fun H2 e2 h2=>⟨rfl,q x dx H2 (e1.free nx) (e1.trans e2) ?_⟩
   rw [h2];show _=some (HO.ins _ dx (Mo.fs c ⟨p,m,n,r,if Yv (zs.map (·.2)) gs m p then .over else .bid⟩));rw [if_neg he]; rfl
theorem Jix (T:Txt K mg):JM P w K mg base (Zg P w) 4 T.Jco T.JbS ["board", "place", "turns", "north", "south", "ribbon"] (Jp1 T):=by
 refine T.Jcs.F.ok1 Jiv (fun vs H Q E h=>?_) (fun cdv A outer s H vs Q E hr h=>?_)
 ·obtain ⟨_,_,_,_,_,_,_,_,_,rfl,_⟩:=h;rfl
 ·obtain ⟨b,z,x,m,n,s,ps,zs,gs,rfl,tz,tx,B,⟨q1,q2,q3,q4⟩,q⟩:=h;refine ⟨_,(Xh (Xr (Xg (Xa 0) T.YU T.Yg.m (Zw T) T.Yg.b .nil Yw (Xc (Xa 1) (Xv 0)))) (Xh (Xr (Xb T.ZE (Z4 T) Yw (Xc (Xa 2) (Xc (XI T.JaJ T.JaG) (Xv 0))))) (Xh (Xr (Xb T.Jcb (Jgs T) Yw (Xc (Xa 3) (Xc (Xa 4) (Xv 0))))) (Xn (Xr (Xb T.JaM (Jb8 T) Yw (Xc (Xa 5) (Xv 0)))))))),?_⟩;change let Bq1:=_; let Bq2:=Jl _ Bq1; let Bq3:=Jl _ Bq2; Jl _ Bq3 _ _ _;intro Bq1 Bq2 Bq3;obtain ⟨bdx,tp,tl,tg,hb,_⟩:=id B.B;refine ⟨_,rfl,b,bdx,_,rfl,hb,rfl,_,rfl,b,z,ps,zs,gs,rfl,tz,B.B,fun hz=>?_,q1⟩;refine ⟨_,rfl,m,30,rfl,⟨by decide,by decide⟩,fun hm=>?_,q2 hz⟩;refine ⟨_,rfl,_,rfl,n,s,rfl,fun hc=>?_,q3 hz hm⟩;exact ⟨_,rfl,x,rfl,tx,fun hx=>q ⟨hz,hm,hc,hx⟩,q4 hz hm hc⟩
theorem Y2.bk {C CB C' dx:Addr} {H H':Hp} {k b g:Addr} {ps:List Str} {zs:List (V×(Str×Str))} {gs:List Str} {c:Int} {t n:Nat} {fs:List (Str×V)} (h:Bk K C CB H k b ps zs gs c t n) (e:Y2 g H H') (hg:H g=some (.ins C' dx fs)) (h1:g≠k) (h2:g≠b):Bk K C CB H' k b ps zs gs c t n :=
 ⟨Y2.bd h.B e hg h2,h.c0,h.c1,h.t1,let ⟨dx,l,rs,k1,k2,k3,k4⟩:=h.at_; ⟨dx,l,rs,e _ _ (fun z=>h1 z.symm) k1,e _ _ (Jax k2 hg (fun z=>nomatch z)) k2,k3,fun i a q=>let ⟨kvs,r1,r2⟩:=k4 i a q; ⟨kvs,e _ _ (Jax r1 hg (fun z=>nomatch z)) r1,r2⟩⟩⟩
theorem Jhy (T:Txt K mg):JM P w K mg base (Zg P w) 9 T.Jdz T.Jfk ["self", "board", "place", "turns", "north", "south", "ribbon"] (Jmp T):=by
 refine T.JdD.F.ok1 Jmz (fun vs H Q E h=>?_) (fun cdv A outer s H vs Q E hr h=>?_)
 ·obtain ⟨_,_,_,_,_,_,_,_,_,_,_,rfl,_⟩:=h;rfl
 ·obtain ⟨g,b,dx,z,x,m,n,s,ps,zs,gs,rfl,hg,hgb,tz,tx,B,hE,q⟩:=h;have szl:sizeLine=16777216:=sizeLine_eq;refine ⟨_,(Xh (Xr (Xb T.Jcs (Jix T) Yw (Xc (Xa 1) (Xc (Xa 2) (Xc (Xa 3) (Xc (Xa 4) (Xc (Xa 5) (Xc (Xa 6) (Xv 0))))))))) (Xh (Xz (Xa 0) (Xa 1)) (Xh (Xz (Xa 0) (Xu T.Jok (Jm6 T) T.JqY T.Jgj.b .nil Za (Xc (Xa 1) (Xc (Xi (X8 0) (Xa 4) (Xa 5)) (Xc (Xa 3) (Xv 0)))))) (Xh (Xz (Xa 0) (XX (Xv 0))) (Xn (Xz (Xa 0) (XX (Xc (Xb T.Jc1 (Jg9 T) Jp (Xc (Xa 1) (Xc (Xa 2) (Xc (Xa 3) (Xc (Xa 4) (Xc (Xa 5) (Xc (Xa 6) (Xv 0)))))))) (Xv 0))))))))),?_⟩;change let Bq1:=_; let Bq2:=Jl _ Bq1; let Bq3:=Jl _ Bq2; let Bq4:=Jl _ Bq3; Jl _ Bq4 _ _ _;intro Bq1 Bq2 Bq3 Bq4;refine ⟨_,rfl,_,rfl,_,rfl,_,rfl,_,rfl,_,rfl,b,z,x,m,n,s,ps,zs,gs,rfl,tz,tx,B,hE,fun ⟨hz,hm,hc,hx⟩=>?_⟩;obtain ⟨r,rfl⟩:=JeG hx;have q:=q hz hm hc r rfl;obtain ⟨m,rfl⟩:∃ j:Nat,m=(j:Int):=⟨m.toNat,by omega⟩
  rw [Int.toNat_natCast] at q;have hcn:0≤n∧0≤s∧n + s≤20:=hc;refine ⟨_,rfl,_,rfl,g,_,dx,_,rfl,hg,T.JR,T.Ja1,by decide,?_⟩;have b1:Y2 g H (upd H g (.ins T.J4 dx (Yr "board" (.ref b) []))):=Y2.put;have h1:upd H g (.ins T.J4 dx (Yr "board" (.ref b) [])) g=some (.ins T.J4 dx [("board",.ref b)]):=Jh;generalize upd H g (.ins T.J4 dx (Yr "board" (.ref b) []))=H1 at b1 h1;have B1:Bd K T.JU H1 b ps zs gs:=Y2.bd B b1 hg hgb;refine ⟨_,rfl,_,rfl,_,rfl,_,_,rfl,rfl,_,rfl,fun k dk nk ndk hne=>Jqp B1 ⟨by omega,by omega⟩ ⟨by omega,by omega⟩ nk ndk fun H2 e2 Bk2=>⟨rfl,?_⟩⟩;rw [Int.toNat_natCast] at Bk2;have gk:g≠k:=JC h1 nk;have h2:=e2 _ _ h1;have b2:=b1.trans (Y2.of e2);refine ⟨_,rfl,g,_,dx,_,rfl,h2,T.JR,T.Jfa,by show 1 < 1000; decide,?_⟩;have h3:upd H2 g (.ins T.J4 dx (Yr "book" (.ref k) [("board",.ref b)])) g=some (.ins T.J4 dx [("board",.ref b),("book",.ref k)]):=Jh;have c3:Y2 g H2 (upd H2 g (.ins T.J4 dx (Yr "book" (.ref k) [("board",.ref b)]))):=Y2.put;generalize upd H2 g (.ins T.J4 dx (Yr "book" (.ref k) [("board",.ref b)]))=H3 at h3 c3;have b3:=b2.trans c3;have Bk3:=Y2.bk Bk2 c3 h2 gk hgb;refine ⟨by show 0≤sizeLine; decide,fun ld nld=>?_⟩;have gld:g≠ld:=JC h3 nld;refine ⟨_,rfl,g,_,dx,_,rfl,(Jf.upd nld) _ _ h3,T.JR,T.JaI,by show 2 < 1000; decide,?_⟩;have h4:upd (upd H3 ld (.lst [])) g (.ins T.J4 dx (Yr "done" (.ref ld) [("board",.ref b),("book",.ref k)])) g=some (.ins T.J4 dx [("board",.ref b),("book",.ref k),("done",.ref ld)]):=Jh;have d4:upd (upd H3 ld (.lst [])) g (.ins T.J4 dx (Yr "done" (.ref ld) [("board",.ref b),("book",.ref k)])) ld=some (.lst []):=by rw [JD (fun z=>gld z.symm),Jh]
  have c4:Y2 g H3 (upd (upd H3 ld (.lst [])) g (.ins T.J4 dx (Yr "done" (.ref ld) [("board",.ref b),("book",.ref k)]))):=(Y2.of (Jf.upd nld)).trans Y2.put;generalize upd (upd H3 ld (.lst [])) g (.ins T.J4 dx (Yr "done" (.ref ld) [("board",.ref b),("book",.ref k)]))=H4 at h4 d4 c4;have Bk4:=Y2.bk Bk3 c4 h3 gk hgb;refine ⟨_,rfl,_,rfl,_,rfl,_,rfl,_,rfl,_,rfl,b,z,m,n,n + s,r,ps,zs,gs,(by rw [show n + s - n=s by omega]; rfl),Bk4.B,hz,by omega,fun a dxa H5 na e5 ha=>?_⟩;refine ⟨by show 1≤sizeLine; decide,fun lm nlm=>?_⟩;refine ⟨_,rfl,g,_,dx,_,rfl,(Jf.upd nlm) _ _ (e5 _ _ h4),T.JR,T.Yq,by show 3 < 1000; decide,?_⟩;have h5:=e5 _ _ h4;have glm:g≠lm:=JC h5 nlm;have dlm:ld≠lm:=JC (e5 _ _ d4) nlm;have ag:a≠g:=fun z=>by rw [z,h4] at na; cases na
  have alm:a≠lm:=JC ha nlm;have n4lm:H4 lm=none:=e5.free nlm;let S:Hp:=upd H3 g (.ins T.J4 dx [("board",.ref b),("book",.ref k),("done",.ref ld),("moments",.ref lm)]);have h6:upd (upd H5 lm (.lst [.ref a])) g (.ins T.J4 dx (Yr "moments" (.ref lm) [("board",.ref b),("book",.ref k),("done",.ref ld)])) g=some (.ins T.J4 dx [("board",.ref b),("book",.ref k),("done",.ref ld),("moments",.ref lm)]):=Jh;refine q ⟨S,g,b,k,ld,lm,ps,zs,gs,n + s,m⟩ a _ rfl rfl rfl rfl rfl rfl rfl (b3.trans Y2.put) ⟨fun b' u e=>?_,Y2.bk Bk3 Y2.put h3 gk hgb,⟨dx,Jh⟩,?_,?_,dlm,?_,?_,(fun d hd=>nomatch hd),fun y hy=>?_,fun y hy=>?_⟩
  ·by_cases hbg:b'=g
   ·subst hbg;have e:upd H3 b' _ b'=some u:=e;rw [Jh] at e;rw [h6]; exact e
   ·have e:upd H3 g _ b'=some u:=e;rw [JD hbg] at e;rw [JD hbg];exact (Jf.upd nlm) _ _ (e5 _ _ (c4 _ _ hbg e))
  ·show upd H3 g _ ld=none;rw [JD (fun z=>gld z.symm)]; exact nld
  ·show upd H3 g _ lm=none;rw [JD (fun z=>glm z.symm)];cases hq:H3 lm with
   | none=>rfl
   | some u=>rw [c4 _ _ (fun z=>glm z.symm) hq] at n4lm; cases n4lm
  ·rw [JD (fun z=>gld z.symm)]; exact (Jf.upd nlm) _ _ (e5 _ _ d4)
  ·rw [JD (fun z=>glm z.symm),Jh]; rfl
  ·rw [List.mem_singleton.mp hy];refine ⟨dxa,?_⟩;rw [JD ag]; exact (Jf.upd nlm) _ _ ha
  ·rw [List.mem_singleton.mp hy]; exact JjQ hz (Nat.le_refl _) ⟨hcn.1,by show n≤n + s; omega⟩
theorem Je7 (T:Txt K mg):JM P w K mg base Yy 1 T.JcW T.Jcm ["self"] (JpX T):=by
 refine T.ZU.F.ok JeT (fun vs H Q E h=>?_) (fun cdv A outer s H vs Q E hr h=>?_)
 ·obtain ⟨_,_,_,_,_,rfl,_⟩:=h;rfl
 ·obtain ⟨G,ds,ms,a,x,rfl,A0,q⟩:=h;refine ⟨_,(Xh (Xd 1 JeT.nd (Xf (Xac 0) (Xm (Xa 0)) (XT (@JaV _) (Xj 0)))) (Xn (Xq (XA (Xc (Xm (Xa 1)) (Xc (Xm (Xa 1)) (Xc (Xm (Xa 1)) (Xc (Xm (Xa 1)) (Xc (Xm (Xa 1)) (Xv 0)))))))))),?_⟩;change let Bq1:=_; Jl _ Bq1 _ _ _;intro Bq1;obtain ⟨dx,hg⟩:=A0.gi;have hm:=A0.hm;rw [List.map_append] at hm;obtain ⟨dm,ha⟩:=A0.mt (a,x) (List.mem_append_right _ (List.mem_singleton.mpr rfl));have ha:H a=some (.ins T.Yd dm (x.fs G.c)):=ha;refine ⟨_,rfl,G.g,_,dx,_,.ref G.lm,rfl,A0.sm _ _ hg,T.JR,T.Yq,rfl,_,rfl,G.lm,_,_,.ref a,rfl,rfl,JA.of hm,ZV,?_⟩;refine ⟨_,rfl,a,_,dm,_,.str x.p,rfl,ha,T.Jx,T.YM,rfl,_,rfl,a,_,dm,_,.int (x.m:Int),rfl,ha,T.Jx,T.YL,rfl,_,rfl,a,_,dm,_,.int x.n,rfl,ha,T.Jx,T.YN,rfl,_,rfl,a,_,dm,_,.int (G.c - x.n),rfl,ha,T.Jx,T.Zx,rfl,_,rfl,a,_,dm,_,.str (hs x.r),rfl,ha,T.Jx,T.YE,rfl,by show 5≤sizeLine; decide,fun t nt=>q t _ (Jf.upd nt) Jh⟩
theorem Jf5 (T:Txt K mg):JM P w K mg base Yy 1 T.Jg0 T.Jf9 ["self"] (Jtg T):=by
 refine T.JaB.F.ok JiA (fun vs H Q E h=>?_) (fun cdv A outer s H vs Q E hr h=>?_)
 ·obtain ⟨_,_,_,_,_,rfl,_⟩:=h;rfl
 ·obtain ⟨G,ds,ms,a,x,rfl,A0,q1,q2⟩:=h;refine ⟨_,(Xh (Xd 1 JiA.nd (Xf (Xac 0) (Xm (Xa 0)) (XT (@JaV _) (Xj 0)))) (Xn (Xq (X0 (XM (XY (Xm (Xa 1))) (by first | exact YA _ (by decide) (by decide) | rfl)) (XW 0) (XA (Xc (Xm (Xa 1)) (Xc (Xm (Xa 1)) (Xv 0)))))))),?_⟩;change let Bq1:=_; Jl _ Bq1 _ _ _;intro Bq1;obtain ⟨dx,hg⟩:=A0.gi;have hm:=A0.hm;rw [List.map_append] at hm;obtain ⟨dm,ha⟩:=A0.mt (a,x) (List.mem_append_right _ (List.mem_singleton.mpr rfl));have ha:H a=some (.ins T.Yd dm (x.fs G.c)):=ha;refine ⟨_,rfl,G.g,_,dx,_,.ref G.lm,rfl,A0.sm _ _ hg,T.JR,T.Yq,rfl,_,rfl,G.lm,_,_,.ref a,rfl,rfl,JA.of hm,ZV,?_⟩;refine ⟨_,rfl,a,_,dm,_,x.word,rfl,ha,T.Jx,T.YK,rfl,?_⟩;by_cases ho:x.ph=.over
  ·have hw:x.word=.non:=by unfold Mo.word; rw [ho]
   rw [hw];exact ⟨_,rfl,YG (q1 ho)⟩
  ·have hw:∃ y,x.word=.str y:=by
    unfold Mo.word;cases hp:x.ph with
    | over=>exact absurd hp ho
    | bid=>exact ⟨_,rfl⟩
    | ans b=>exact ⟨_,rfl⟩
    | step h=>exact ⟨_,rfl⟩
   obtain ⟨y,hw⟩:=hw;have e1:(match x.word with | .non=>true | _=>false)=false:=by rw [hw]
   rw [hw];refine ⟨_,rfl,Yk ⟨_,rfl,a,_,dm,_,x.hand,rfl,ha,T.Jx,T.Z5,rfl,_,rfl,a,_,dm,_,x.word,rfl,ha,T.Jx,T.YK,rfl,by show 2≤sizeLine; decide,fun t nt=>q2 ho t _ (Jf.upd nt) Jh⟩⟩
theorem Jha (T:Txt K mg):JM P w K mg base Yy 1 T.Jfq T.Jd2 ["self"] (JpZ T):=by
 refine T.JaN.F.ok Jl4 (fun vs H Q E h=>?_) (fun cdv A outer s H vs Q E hr h=>?_)
 ·obtain ⟨_,_,_,_,_,rfl,_⟩:=h;rfl
 ·obtain ⟨G,ds,ms,a,x,rfl,A0,q⟩:=h;refine ⟨_,(Xn (Xq (Xm (Xf (Xac 0) (Xm (Xa 0)) (XT (@JaV _) (Xj 0)))))),?_⟩;obtain ⟨dx,hg⟩:=A0.gi;have hm:=A0.hm;rw [List.map_append] at hm;obtain ⟨dm,ha⟩:=A0.mt (a,x) (List.mem_append_right _ (List.mem_singleton.mpr rfl));have ha:H a=some (.ins T.Yd dm (x.fs G.c)):=ha;exact ⟨_,rfl,G.g,_,dx,_,.ref G.lm,rfl,A0.sm _ _ hg,T.JR,T.Yq,rfl,_,rfl,G.lm,_,_,.ref a,rfl,rfl,JA.of hm,ZV,a,_,dm,_,x.heard,rfl,ha,T.Jx,T.Jay,rfl,q⟩
theorem Jhb (T:Txt K mg):JM P w K mg base Yy 1 T.Jfs T.Jd4 ["self"] (Jp0 T):=by
 refine T.JaO.F.ok Jl6 (fun vs H Q E h=>?_) (fun cdv A outer s H vs Q E hr h=>?_)
 ·obtain ⟨_,_,_,rfl,_⟩:=h;rfl
 ·obtain ⟨G,ds,ms,rfl,A0,q⟩:=h;refine ⟨_,(Xn (Xq (Xw (@Jak _) T.JbJ PyProof.Rows.boot_tuple (Xc (Xm (Xa 0)) (Xv 0))))),?_⟩;obtain ⟨dx,hg⟩:=A0.gi;exact ⟨_,rfl,G.g,_,dx,_,.ref G.ld,rfl,A0.sm _ _ hg,T.JR,T.JaI,rfl,G.ld,_,rfl,.inl ⟨JA.of A0.hd,fun t nt=>q t _ (Jf.upd nt) Jh⟩⟩
theorem Je8 (T:Txt K mg):JM P w K mg base Yy 5 T.Jgf T.Jfj ["self"] (Jrq T):=by
 refine T.Z3.F.ok Jhk (fun vs H Q E h=>?_) (fun cdv A outer s H vs Q E hr h=>?_)
 ·obtain ⟨_,_,_,_,_,rfl,_⟩:=h;rfl
 ·obtain ⟨G,ds,ms,a,x,rfl,A0,q⟩:=h;refine ⟨_,(Xh (Xd 1 Jhk.nd (Xf (Xac 0) (Xm (Xa 0)) (XT (@JaV _) (Xj 0)))) (Xn (Xq (Xb T.JcF (Jda T) Za (Xc (Xm (Xa 0)) (Xc (Xm (Xa 1)) (Xc (Xm (Xa 1)) (Xv 0)))))))),?_⟩;change let Bq1:=_; Jl _ Bq1 _ _ _;intro Bq1;obtain ⟨dx,hg⟩:=A0.gi;have hm:=A0.hm;rw [List.map_append] at hm;obtain ⟨dm,ha⟩:=A0.mt (a,x) (List.mem_append_right _ (List.mem_singleton.mpr rfl));have ha:H a=some (.ins T.Yd dm (x.fs G.c)):=ha;have ok:=A0.mo (a,x) (List.mem_append_right _ (List.mem_singleton.mpr rfl));have okp:x.p∈G.ps:=ok.p;have okm:x.m≤G.T:=ok.m;have t1:=A0.bk.t1;have B:=A0.bk.B.same A0.sm;refine ⟨_,rfl,G.g,_,dx,_,.ref G.lm,rfl,A0.sm _ _ hg,T.JR,T.Yq,rfl,_,rfl,G.lm,_,_,.ref a,rfl,rfl,JA.of hm,ZV,?_⟩;exact ⟨_,rfl,G.g,_,dx,_,.ref G.b,rfl,A0.sm _ _ hg,T.JR,T.Ja1,rfl,_,rfl,a,_,dm,_,.str x.p,rfl,ha,T.Jx,T.YM,rfl,_,rfl,a,_,dm,_,.int (x.m:Int),rfl,ha,T.Jx,T.YL,rfl,G.b,x.p,(x.m:Int),G.ps,G.zs,G.gs,rfl,Zc (B.G.p3 _ okp),B.zl,B.B,fun z=>absurd okp z,fun _ z=>absurd ⟨by omega,by omega⟩ z,fun _ _ H1 e1=>q H1 e1⟩
theorem JbR (T:Txt K mg):JM P w K mg base (Zg P w) 2 T.Jcp T.JbT ["self", "hand", "word"] (Jtj T):=by
 refine T.Y9.F.ok1 Jiw (fun vs H Q E h=>?_) (fun cdv A outer s H vs Q E hr h=>?_)
 ·obtain ⟨_,_,_,_,_,_,_,rfl,_⟩:=h;rfl
 ·obtain ⟨G,ds,ms,a,x,z,w,rfl,A0,tz,lw,q1,q2⟩:=h;have szl:sizeLine=16777216:=sizeLine_eq;refine ⟨_,(Xn (Xl (Xo (@JuC _ hr.units0) (Xp (Xa 0) T.JR T.JaB.m (Jf5 T) T.JaB.b .nil Jp) (XA (Xc (Xa 1) (Xc (Xa 2) (Xv 0)))) (JJ _)) (Xn (XF T.JlT T.Jji Jcu (X6 (PJ.cons (@JgQ _ _ _ _ (Xa 1)) (PJ.cons (Xx 0) (PJ.cons (@Jtw _ _ _ _ (Xa 2)) PJ.nil)))))) (XO 0))),?_⟩;obtain ⟨dx,hg⟩:=A0.gi;have hz:=JfG tz;have e1:(Str.empty ++ reprText z).length=(reprText z).length:=by rw [strLen_append]; exact Nat.zero_add _
  have l2:((Str.empty ++ reprText z) ++ " is not due to ").length≤10100:=by
   rw [strLen_append,e1]; exact Nat.le_trans (Nat.add_le_add_right hz _) (by decide)
  have l3:(((Str.empty ++ reprText z) ++ " is not due to ") ++ w).length≤sizeLine:=by rw [strLen_append]; omega
  refine ⟨_,rfl,G.g,dx,_,rfl,A0.sm _ _ hg,rfl,G,ds,ms,a,x,rfl,A0,fun ho=>?_,fun ho t H1 e1' ht=>?_⟩
  ·refine ⟨_,rfl,_,rfl,by show 2≤sizeLine; decide,fun t2 n2=>.inl ⟨t2,_,rfl,rfl,JH.of Jh,_,rfl,YG ?_⟩⟩;exact ⟨_,rfl,z,rfl,by omega,_,rfl,by rw [e1]; omega,_,rfl,by omega,_,rfl,w,rfl,by omega,_,rfl,l3,l3,q2 (fun ⟨h1,_⟩=>by unfold Mo.hand at h1; rw [ho] at h1; cases h1) _ (Jf.upd n2)⟩
  ·obtain ⟨y1,y2,hh,hw⟩:∃ y1 y2,x.hand=.str y1∧x.word=.str y2:=by
    unfold Mo.hand Mo.word;cases hp:x.ph with
    | over=>exact absurd hp ho
    | bid=>exact ⟨_,_,rfl,rfl⟩
    | ans b=>exact ⟨_,_,rfl,rfl⟩
    | step h=>exact ⟨_,_,rfl,rfl⟩
   rw [hh,hw] at ht;have s2:∀ {t2:Addr} {o:HO},H1 t2=none→Jf H (upd H1 t2 o):=fun n2=>e1'.trans (Jf.upd n2)
   refine ⟨_,rfl,_,rfl,by show 2≤sizeLine; decide,fun t2 n2=>.inr ⟨t,t2,_,_,rfl,rfl,JH.of ((Jf.upd n2) _ _ ht),JH.of Jh,rfl,rfl,_,rfl,?_⟩⟩;rw [if_pos rfl];have el:eqL [.str y1,.str y2] [.str z,.str w]=(y1 == z && y2 == w):=by
    show ((y1 == z) && ((y2 == w) && true))=_;rw [Bool.and_true]
   by_cases hd:y1=z∧y2=w
   ·refine Yi ?_ (q1 ⟨by rw [hh,hd.1],by rw [hw,hd.2]⟩ _ (s2 n2));rw [el,hd.1,hd.2,beq_self_eq_true,beq_self_eq_true]; rfl
   ·refine YI ?_ ⟨_,rfl,z,rfl,by omega,_,rfl,by rw [e1]; omega,_,rfl,by omega,_,rfl,w,rfl,by omega,_,rfl,l3,l3,q2 (fun ⟨h1,h2⟩=>hd ⟨by rw [hh] at h1; exact V.str.inj h1,by rw [hw] at h2; exact V.str.inj h2⟩) _ (s2 n2)⟩;rw [el];cases h1:y1 == z with
    | false=>rfl
    | true =>
     cases h2:y2 == w with
     | false=>rfl
     | true=>exact absurd ⟨eq_of_beq h1,eq_of_beq h2⟩ hd
theorem JdX (T:Txt K mg):JM P w K mg base Yy 1 T.Jfr T.Jd3 ["self", "deed", "moment"] (Jte T):=by
 refine T.ZQ.F.ok Jl5 (fun vs H Q E h=>?_) (fun cdv A outer s H vs Q E hr h=>?_)
 ·obtain ⟨_,_,_,_,_,_,_,_,rfl,_⟩:=h;rfl
 ·obtain ⟨G,ds,ms,d,a,dx,dv,x,rfl,A0,hdl,hml,hd,ha,hx,q⟩:=h;have szl:sizeLine=16777216:=sizeLine_eq;refine ⟨_,(Xh (Xr (Xs PySem.F.plainAttrs_list PySem.F.slot_list_append PySem.F.type_list_append (@YH _) (Xm (Xa 0)) (Xc (Xa 1) (Xv 0)))) (Xn (Xr (Xs PySem.F.plainAttrs_list PySem.F.slot_list_append PySem.F.type_list_append (@YH _) (Xm (Xa 0)) (Xc (Xa 2) (Xv 0)))))),?_⟩;change let Bq1:=_; Jl _ Bq1 _ _ _;intro Bq1;obtain ⟨dg,hg⟩:=A0.gi;have gi:=A0.sm _ _ hg;have gd:G.g≠G.ld:=Jax gi A0.hd (fun z=>nomatch z);refine ⟨_,rfl,G.g,_,dg,_,.ref G.ld,rfl,gi,T.JR,T.JaI,rfl,.inl ⟨rfl,_,JA.of A0.hd⟩,_,rfl,G.ld,_,_,rfl,rfl,A0.hd,by rw [List.length_map]; omega,?_⟩;have g2:upd H G.ld (.lst (ds.map (fun d=>V.ref d.1) ++ [.ref d])) G.g=some (.ins T.J4 dg [("board",.ref G.b),("book",.ref G.k),("done",.ref G.ld),("moments",.ref G.lm)]):=by rw [JD gd]; exact gi
  have m2:upd H G.ld (.lst (ds.map (fun d=>V.ref d.1) ++ [.ref d])) G.lm=some (.lst (ms.map fun x=>V.ref x.1)):=by rw [JD (fun z=>A0.ne z.symm)]; exact A0.hm
  have mo:=A0.more (Jf.refl H) hd ha hx;exact ⟨_,rfl,G.g,_,dg,_,.ref G.lm,rfl,g2,T.JR,T.Yq,rfl,.inl ⟨rfl,_,JA.of m2⟩,_,rfl,G.lm,_,_,rfl,rfl,m2,by rw [List.length_map]; omega,q _ mo.1 mo.2⟩
end
section
variable {P:Program} {w:World} {K:PySem.W.Frag} {mg:Str→Option Value} {base:Heap}
theorem Jog (n c:Int) (r:Bool) (b a:Int):Jcl n (c - n) r b a=[.str (hs (after n r b a).1),.int (after n r b a).2.1,.int (c - (after n r b a).2.1),.str (hs (after n r b a).2.2)]:=by
 unfold Jcl after;have e1:∀ y:Int,c - n - y=c - (n + y):=fun y=>by omega
 have e2:∀ y:Int,c - n + y=c - (n - y):=fun y=>by omega
 by_cases h1:b > a
 ·rw [if_pos h1,if_pos h1]; cases r <;> simp [e1,e2]
 ·rw [if_neg h1,if_neg h1];by_cases h2:a > b
  ·rw [if_pos h2,if_pos h2]; cases r <;> simp [e1,e2]
  ·rw [if_neg h2,if_neg h2]; cases r <;> simp [e1,e2]
theorem JhG {x:Mo} {z:Str}:(x.hand=.str z∧x.word=.str "bid")↔(x.ph=.bid∧z=hs (!x.r)):=by
 unfold Mo.hand Mo.word;constructor
 ·rintro ⟨h1,h2⟩;cases hp:x.ph with
  | over=>rw [hp] at h1; cases h1
  | bid=>rw [hp] at h1; exact ⟨rfl,(V.str.inj h1).symm⟩
  | ans b=>rw [hp] at h2; exact absurd (V.str.inj h2) (by decide +kernel)
  | step h=>rw [hp] at h2; exact absurd (V.str.inj h2) (by decide +kernel)
 ·rintro ⟨h1,h2⟩;rw [h1,h2]; exact ⟨rfl,rfl⟩
theorem JhH {x:Mo} {z:Str}:(x.hand=.str z∧x.word=.str "answer")↔(∃ b,x.ph=.ans b∧z=hs x.r):=by
 unfold Mo.hand Mo.word;constructor
 ·rintro ⟨h1,h2⟩;cases hp:x.ph with
  | over=>rw [hp] at h1; cases h1
  | bid=>rw [hp] at h2; exact absurd (V.str.inj h2) (by decide +kernel)
  | ans b=>rw [hp] at h1; exact ⟨b,rfl,(V.str.inj h1).symm⟩
  | step h=>rw [hp] at h2; exact absurd (V.str.inj h2) (by decide +kernel)
 ·rintro ⟨b,h1,h2⟩;rw [h1,h2]; exact ⟨rfl,rfl⟩
theorem Jgw {x:Mo} {z:Str}:(x.hand=.str z∧x.word=.str "step")↔(∃ h,x.ph=.step h∧z=hs h):=by
 unfold Mo.hand Mo.word;constructor
 ·rintro ⟨h1,h2⟩;cases hp:x.ph with
  | over=>rw [hp] at h1; cases h1
  | bid=>rw [hp] at h2; exact absurd (V.str.inj h2) (by decide +kernel)
  | ans b=>rw [hp] at h2; exact absurd (V.str.inj h2) (by decide +kernel)
  | step h=>rw [hp] at h1; exact ⟨h,rfl,(V.str.inj h1).symm⟩
 ·rintro ⟨h,h1,h2⟩;rw [h1,h2]; exact ⟨rfl,rfl⟩
theorem JnY (T:Txt K mg):JM P w K mg base (Zg P w) 4 T.Jg1 T.Jga ["self", "hand", "coins"] (Jth T):=by
 refine T.Jeu.F.ok1 JfX (fun vs H Q E h=>?_) (fun cdv A outer s H vs Q E hr h=>?_)
 ·obtain ⟨_,_,_,_,_,_,_,rfl,_⟩:=h;rfl
 ·obtain ⟨G,ds,ms,a,x,z,y,rfl,A0,hdl,hml,tz,q1,q2,q⟩:=h;refine ⟨_,(Xh (Xr (Xg (Xa 0) T.JR T.Y9.m (JbR T) T.Y9.b .nil Yw (Xc (Xa 1) (Xc (Xx 0) (Xv 0))))) (Xh (Xd 3 JfX.nd (Xf (Xac 0) (Xm (Xa 0)) (XT (@JaV _) (Xj 0)))) (Xh (Xr (Xb T.Ja7 (JcN T) Yw (Xc (Xa 2) (Xc (Xb T.JaT (JbY T) Jp (Xc (Xa 1) (Xc (Xm (Xa 3)) (Xc (Xm (Xa 3)) (Xv 0))))) (Xv 0))))) (Xh (Xd 4 JfX.nd (Xu T.JdI (JbI T) T.Jfz T.Jam.b .nil Jp (Xc (Xm (Xa 3)) (Xc (Xm (Xa 3)) (Xc (Xm (Xa 3)) (Xc (Xm (Xa 3)) (Xc (Xm (Xa 3)) (Xc (Xm (Xa 3)) (Xc (Xx 0) (Xc (Xa 2) (Xv 0))))))))))) (Xn (Xr (Xg (Xa 0) T.JR T.ZQ.m (JdX T) T.ZQ.b .nil Jp (Xc (XA (Xc (Xa 1) (Xc (Xx 0) (Xc (Xa 2) (Xv 0))))) (Xc (Xa 4) (Xv 0)))))))))),?_⟩;change let Bq1:=_; let Bq2:=Jl _ Bq1; let Bq3:=Jl _ Bq2; let Bq4:=Jl _ Bq3; Jl _ Bq4 _ _ _;intro Bq1 Bq2 Bq3 Bq4;obtain ⟨dx,hg⟩:=A0.gi;refine ⟨_,rfl,G.g,dx,_,rfl,A0.sm _ _ hg,rfl,_,rfl,G,ds,ms,a,x,z, "bid",rfl,A0,tz,by decide,fun hd H1 e1=>?_,fun hn=>q1 (fun hb=>hn (JhG.mpr hb))⟩;obtain ⟨hp,rfl⟩:=JhG.mp hd;have A1:=A0.same e1;have hg1:=A1.sm _ _ hg;have hm:=A1.hm;rw [List.map_append] at hm;obtain ⟨dm,ha⟩:=A1.mt (a,x) (List.mem_append_right _ (List.mem_singleton.mpr rfl));have ha:H1 a=some (.ins T.Yd dm (x.fs G.c)):=ha;have ok:=A0.mo (a,x) (List.mem_append_right _ (List.mem_singleton.mpr rfl));refine ⟨_,rfl,G.g,_,dx,_,.ref G.lm,rfl,hg1,T.JR,T.Yq,rfl,_,rfl,G.lm,_,_,.ref a,rfl,rfl,JA.of hm,ZV,?_⟩;refine ⟨_,rfl,_,rfl,_,rfl,a,_,dm,_,.int x.n,rfl,ha,T.Jx,T.YN,rfl,_,rfl,a,_,dm,_,.int (G.c - x.n),rfl,ha,T.Jx,T.Zx,rfl,!x.r,x.n,G.c - x.n,rfl,y,own G.c x.n (!x.r),rfl,fun hy=>?_,fun hy=>q2 hp rfl hy H1 e1⟩;refine ⟨_,rfl,a,_,dm,_,.str x.p,rfl,ha,T.Jx,T.YM,rfl,_,rfl,a,_,dm,_,.int (x.m:Int),rfl,ha,T.Jx,T.YL,rfl,_,rfl,a,_,dm,_,.int x.n,rfl,ha,T.Jx,T.YN,rfl,_,rfl,a,_,dm,_,.int (G.c - x.n),rfl,ha,T.Jx,T.Zx,rfl,_,rfl,a,_,dm,_,.str (hs x.r),rfl,ha,T.Jx,T.YE,rfl,_,rfl,a,_,dm,_,.str (hs x.r),rfl,ha,T.Jx,T.YE,rfl,_,rfl,fun a' dx' nx ndx hne=>Jdy nx ndx fun H2 e2 h2=>⟨rfl,?_⟩⟩;have A2:=A1.same e2;refine ⟨_,rfl,G.g,dx,_,rfl,A2.sm _ _ hg,rfl,_,rfl,_,rfl,by show 3≤sizeLine; decide,fun d nd=>⟨_,rfl,G,ds,ms ++ [(a,x)],d,a',dx',[.str (hs (!x.r)),.str "bid",.int y],⟨x.p,x.m,x.n,x.r,.ans y⟩,rfl,A2.same (Jf.upd nd),hdl,by rw [List.length_append]; show ms.length + 1≤1001; omega,Jh,(Jf.upd nd) _ _ h2,⟨ok.p,ok.m,ok.n,⟨fun z=>(nomatch z),fun z=>absurd (ok.e.mpr z) (by rw [hp]; exact fun z=>nomatch z)⟩,fun b hb=>by cases hb; exact hy⟩,fun H' c A3=>?_⟩⟩;exact q hp rfl hy d a' H' ((Yj.of ((e1.trans e2).trans (Jf.upd nd))).trans c) A3
theorem JkK (T:Txt K mg):JM P w K mg base (Zg P w) 4 T.Jed T.Jdl ["self", "hand", "coins"] (JoO T):=by
 refine T.Jcd.F.ok1 JaF (fun vs H Q E h=>?_) (fun cdv A outer s H vs Q E hr h=>?_)
 ·obtain ⟨_,_,_,_,_,_,_,rfl,_⟩:=h;rfl
 ·obtain ⟨G,ds,ms,a,x,z,y,rfl,A0,hdl,hml,tz,q1,q2,q⟩:=h;refine ⟨_,(Xh (Xr (Xg (Xa 0) T.JR T.Y9.m (JbR T) T.Y9.b .nil Yw (Xc (Xa 1) (Xc (Xx 0) (Xv 0))))) (Xh (Xd 3 JaF.nd (Xf (Xac 0) (Xm (Xa 0)) (XT (@JaV _) (Xj 0)))) (Xh (Xd 4 JaF.nd (Xb T.Jg5 (Jlw T) Yw (Xc (Xm (Xa 3)) (Xc (Xm (Xa 3)) (Xc (Xm (Xa 3)) (Xc (Xm (Xa 3)) (Xc (Xa 2) (Xv 0)))))))) (Xh (Xd 5 JaF.nd (Xf (XZ 0) (Xa 4) (Xj 0))) (Xh (Xd 6 JaF.nd (Xu T.JdI (JbI T) T.Jfz T.Jam.b .nil Jp (Xc (Xm (Xa 3)) (Xc (Xm (Xa 3)) (Xc (Xf (XZ 0) (Xa 4) (Xj 0)) (Xc (Xf (XZ 0) (Xa 4) (Xj 0)) (Xc (Xf (XZ 0) (Xa 4) (Xj 0)) (Xc (Xa 5) (Xc (Xx 0) (Xc (XW 0) (Xv 0))))))))))) (Xh (Xr (Xg (Xa 0) T.JR T.ZQ.m (JdX T) T.ZQ.b .nil Jp (Xc (XA (Xc (Xa 1) (Xc (Xx 0) (Xc (Xa 2) (Xv 0))))) (Xc (Xa 6) (Xv 0))))) (Xn (Xq (Xa 5))))))))),?_⟩;change let Bq1:=_; let Bq2:=Jl _ Bq1; let Bq3:=Jl _ Bq2; let Bq4:=Jl _ Bq3; let Bq5:=Jl _ Bq4; let Bq6:=Jl _ Bq5; Jl _ Bq6 _ _ _;intro Bq1 Bq2 Bq3 Bq4 Bq5 Bq6;obtain ⟨dx,hg⟩:=A0.gi;refine ⟨_,rfl,G.g,dx,_,rfl,A0.sm _ _ hg,rfl,_,rfl,G,ds,ms,a,x,z, "answer",rfl,A0,tz,by decide,fun hd H1 e1=>?_,fun hn=>q1 (fun b hb hz=>hn (JhH.mpr ⟨b,hb,hz⟩))⟩;obtain ⟨b,hp,rfl⟩:=JhH.mp hd;have A1:=A0.same e1;have hg1:=A1.sm _ _ hg;have hm:=A1.hm;rw [List.map_append] at hm;obtain ⟨dm,ha⟩:=A1.mt (a,x) (List.mem_append_right _ (List.mem_singleton.mpr rfl));have ha:H1 a=some (.ins T.Yd dm (x.fs G.c)):=ha;have ok:=A0.mo (a,x) (List.mem_append_right _ (List.mem_singleton.mpr rfl));have okn:0≤x.n∧x.n≤G.c:=ok.n;have okb:0≤b∧b≤own G.c x.n (!x.r):=ok.b b hp;have c1:=A0.bk.c1;have hco:ZM x.n (G.c - x.n):=⟨by omega,by omega,by omega⟩
  have hbo:JfA x.n (G.c - x.n) x.r b y↔(0≤y∧y≤own G.c x.n x.r):=by
   unfold JfA;have:(0≤b∧b≤if x.r=true then G.c - x.n else x.n):=by
    unfold own at okb;cases hr:x.r <;> rw [hr] at okb <;> exact okb
   exact ⟨fun h=>h.2,fun h=>⟨this,h⟩⟩
  have hh:x.heard=.int b:=by unfold Mo.heard; rw [hp]
  refine ⟨_,rfl,G.g,_,dx,_,.ref G.lm,rfl,hg1,T.JR,T.Yq,rfl,_,rfl,G.lm,_,_,.ref a,rfl,rfl,JA.of hm,ZV,?_⟩;refine ⟨_,rfl,a,_,dm,_,.int x.n,rfl,ha,T.Jx,T.YN,rfl,_,rfl,a,_,dm,_,.int (G.c - x.n),rfl,ha,T.Jx,T.Zx,rfl,_,rfl,a,_,dm,_,.str (hs x.r),rfl,ha,T.Jx,T.YE,rfl,_,rfl,a,_,dm,_,x.heard,rfl,ha,T.Jx,T.Jay,rfl,_,rfl,x.n,G.c - x.n,hs x.r,b,y,(by rw [hh]; rfl),Zp _,(fun z=>absurd hco z),(fun _ z=>by rw [Zk] at z; cases z),(fun r' hr' _ z=>q2 b hp rfl (fun w=>z (by rw [← Zf hr']; exact hbo.mpr w)) H1 e1),fun r' hr' _ hok t H2 e2 ht=>?_⟩;obtain rfl:=Zf hr';have hy:=hbo.mp hok;rw [Jog] at ht;have ab:=JnE (r:=x.r) okn okb.1 okb.2 hy.1 hy.2;generalize hl:(after x.n x.r b y).1=l at ht;generalize hn':(after x.n x.r b y).2.1=n' at ht ab;generalize hr2:(after x.n x.r b y).2.2=r2 at ht;refine ⟨_,rfl,t,_,_,.str (hs l),rfl,rfl,JH.of ht,rfl,?_⟩;have ha2:=e2 _ _ ha;refine ⟨_,rfl,a,_,dm,_,.str x.p,rfl,ha2,T.Jx,T.YM,rfl,_,rfl,a,_,dm,_,.int (x.m:Int),rfl,ha2,T.Jx,T.YL,rfl,_,rfl,t,_,_,.int n',rfl,rfl,JH.of ht,rfl,_,rfl,t,_,_,.int (G.c - n'),rfl,rfl,JH.of ht,rfl,_,rfl,t,_,_,.str (hs r2),rfl,rfl,JH.of ht,rfl,_,rfl,fun a' dx' nx ndx hne=>Jdy nx ndx fun H3 e3 h3=>⟨rfl,?_⟩⟩;have A3:=(A1.same e2).same e3;refine ⟨_,rfl,G.g,dx,_,rfl,A3.sm _ _ hg,rfl,_,rfl,_,rfl,by show 3≤sizeLine; decide,fun d nd=>⟨_,rfl,G,ds,ms ++ [(a,x)],d,a',dx',[.str (hs x.r),.str "answer",.int y],⟨x.p,x.m,n',r2,.step l⟩,rfl,A3.same (Jf.upd nd),hdl,by rw [List.length_append]; show ms.length + 1≤1001; omega,Jh,(Jf.upd nd) _ _ h3,⟨ok.p,ok.m,ab,⟨fun z=>(nomatch z),fun z=>absurd (ok.e.mpr z) (by rw [hp]; exact fun z=>nomatch z)⟩,fun b hb=>(nomatch hb)⟩,fun H' c A4=>?_⟩⟩;have qq:=q b hp rfl hy d a' H' ((Yj.of (((e1.trans e2).trans e3).trans (Jf.upd nd))).trans c);rw [hl,hn',hr2] at qq;exact ⟨_,rfl,qq A4⟩
theorem Jm4 (T:Txt K mg):JM P w K mg base (Zg P w) 7 T.Jge T.Jfi ["self", "hand", "place"] (Jrp T):=by
 refine T.JdC.F.ok1 JeS (fun vs H Q E h=>?_) (fun cdv A outer s H vs Q E hr h=>?_)
 ·obtain ⟨_,_,_,_,_,_,_,rfl,_⟩:=h;rfl
 ·obtain ⟨G,ds,ms,a,x,z,w,rfl,A0,hdl,hml,tz,tw,q1,q2,q⟩:=h;have szl:sizeLine=16777216:=sizeLine_eq;refine ⟨_,(Xh (Xr (Xg (Xa 0) T.JR T.Y9.m (JbR T) T.Y9.b .nil Yw (Xc (Xa 1) (Xc (Xx 0) (Xv 0))))) (Xh (Xd 3 JeS.nd (Xf (Xac 0) (Xm (Xa 0)) (XT (@JaV _) (Xj 0)))) (Xh (Xl (Xo (@JcM _) (Xa 2) (Xg (Xm (Xa 0)) T.YU T.YY.m (JaZ T) T.YY.b .nil Za (Xc (Xm (Xa 3)) (Xv 0))) (by with_unfolding_all rfl)) (Xn (XF T.JlU T.Jjj Jcu (X6 (PJ.cons (Xx 0) (PJ.cons (@JgQ _ _ _ _ (Xa 2)) (PJ.cons (Xx 0) PJ.nil)))))) (XO 0)) (Xh (Xd 4 JeS.nd (Xb T.Jc1 (Jg9 T) Jp (Xc (Xm (Xa 0)) (Xc (Xa 2) (Xc (Xi (@YR _) (Xm (Xa 3)) (Xj 0)) (Xc (Xm (Xa 3)) (Xc (Xm (Xa 3)) (Xc (Xm (Xa 3)) (Xv 0))))))))) (Xn (Xr (Xg (Xa 0) T.JR T.ZQ.m (JdX T) T.ZQ.b .nil Jp (Xc (XA (Xc (Xa 1) (Xc (Xx 0) (Xc (Xa 2) (Xv 0))))) (Xc (Xa 4) (Xv 0)))))))))),?_⟩;change let Bq1:=_; let Bq2:=Jl _ Bq1; let Bq3:=Jl _ Bq2; let Bq4:=Jl _ Bq3; Jl _ Bq4 _ _ _;intro Bq1 Bq2 Bq3 Bq4;obtain ⟨dx,hg⟩:=A0.gi;refine ⟨_,rfl,G.g,dx,_,rfl,A0.sm _ _ hg,rfl,_,rfl,G,ds,ms,a,x,z, "step",rfl,A0,tz,by decide,fun hd H1 e1=>?_,fun hn=>q1 (fun h hb hz=>hn (Jgw.mpr ⟨h,hb,hz⟩))⟩;obtain ⟨h,hp,rfl⟩:=Jgw.mp hd;have A1:=A0.same e1;have hg1:=A1.sm _ _ hg;have hm:=A1.hm;rw [List.map_append] at hm;obtain ⟨dm,ha⟩:=A1.mt (a,x) (List.mem_append_right _ (List.mem_singleton.mpr rfl));have ha:H1 a=some (.ins T.Yd dm (x.fs G.c)):=ha;have ok:=A0.mo (a,x) (List.mem_append_right _ (List.mem_singleton.mpr rfl));have okp:x.p∈G.ps:=ok.p;have okm:x.m≤G.T:=ok.m;have t1:=A0.bk.t1;have he:¬ Yv (G.zs.map (·.2)) G.gs x.m x.p:=fun z=>absurd (ok.e.mpr z) (by rw [hp]; exact fun z=>nomatch z)
  have hm0:x.m≠0:=fun z=>he (.inr (.inl z))
  have B:=A1.bk.B.same A1.sm;obtain ⟨bdx,tp,tl,tg,hb,_⟩:=id B.B;refine ⟨_,rfl,G.g,_,dx,_,.ref G.lm,rfl,hg1,T.JR,T.Yq,rfl,_,rfl,G.lm,_,_,.ref a,rfl,rfl,JA.of hm,ZV,?_⟩;refine ⟨_,rfl,_,rfl,G.g,_,dx,_,.ref G.b,rfl,hg1,T.JR,T.Ja1,rfl,G.b,bdx,_,rfl,hb,rfl,_,rfl,a,_,dm,_,.str x.p,rfl,ha,T.Jx,T.YM,rfl,G.b,x.p,G.ps,G.zs,G.gs,rfl,Zc (B.G.p3 _ okp),B.zl,B.B,fun _ t H2 e2 ht=>?_,fun z=>absurd okp z⟩;refine ⟨t,_,rfl,.inr (JH.of ht),rfl,JdK _,_,rfl,?_⟩;rw [if_pos rfl,Jfd];by_cases hin:w∈JB (G.zs.map (·.2)) x.p
  ·refine Yi (by rw [decide_eq_true hin]; rfl) ?_;have A2:=A1.same e2;have hg2:=A2.sm _ _ hg;have ha2:=e2 _ _ ha;refine ⟨_,rfl,G.g,_,dx,_,.ref G.b,rfl,hg2,T.JR,T.Ja1,rfl,_,rfl,_,rfl,a,_,dm,_,.int (x.m:Int),rfl,ha2,T.Jx,T.YL,rfl,_,_,rfl,rfl,_,rfl,a,_,dm,_,.int x.n,rfl,ha2,T.Jx,T.YN,rfl,_,rfl,a,_,dm,_,.int (G.c - x.n),rfl,ha2,T.Jx,T.Zx,rfl,_,rfl,a,_,dm,_,.str (hs x.r),rfl,ha2,T.Jx,T.YE,rfl,G.b,w,x.m - 1,x.n,G.c,x.r,G.ps,G.zs,G.gs,(by rw [show ((x.m - 1:Nat):Int)=(x.m:Int) - 1 by omega]; rfl),B.same e2,Jew B.G hin,by omega,fun a' dx' H3 na e3 h3=>?_⟩;have A3:=A2.same e3;refine ⟨_,rfl,G.g,dx,_,rfl,A3.sm _ _ hg,rfl,_,rfl,_,rfl,by show 3≤sizeLine; decide,fun d nd=>⟨_,rfl,G,ds,ms ++ [(a,x)],d,a',dx',[.str (hs h),.str "step",.str w],_,rfl,A3.same (Jf.upd nd),hdl,by rw [List.length_append]; show ms.length + 1≤1001; omega,Jh,(Jf.upd nd) _ _ h3,JjQ (Jew B.G hin) (by omega) ok.n,fun H' c A4=>?_⟩⟩;exact q h hp rfl hin d a' H' ((Yj.of (((e1.trans e2).trans e3).trans (Jf.upd nd))).trans c) A4
  ·have hz:=JfG tw;have e0:(Str.empty ++ "no lane leads to ").length≤100:=by decide +kernel
   have l2:((Str.empty ++ "no lane leads to ") ++ reprText w).length≤10102:=by rw [strLen_append]; omega
   have l3:(((Str.empty ++ "no lane leads to ") ++ reprText w) ++ " from here").length≤sizeLine:=by
    rw [strLen_append]; exact Nat.le_trans (Nat.add_le_add_right l2 _) (by decide)
   exact YI (by rw [decide_eq_false hin]; rfl) ⟨_,rfl,by omega,_,rfl,w,rfl,by omega,_,rfl,by omega,_,rfl,l3,l3,q2 h hp rfl hin H2 (e1.trans e2)⟩
theorem JlA {T:Txt K mg} {H:Hp} {g dx b:Addr} {z x:Str} {m n s:Int} {ps:List Str} {zs:List (V×(Str×Str))} {gs:List Str} {Q:VK} {E:XK} (B:Bd K T.JU H b ps zs gs) (tz:YQ z) (tx:YQ x) (nx:H g=none) (ndx:H dx=none)
  (hE:∀ H',Jf H H'→Jjx T ps z m n s x H' E) (q:z∈ps→0≤m∧m≤30→ZM n s→∀ r,x=hs r→∀ (S:Hp) (k ld lm a:Addr) (H':Hp),Jf H S→J0 T ⟨S,g,b,k,ld,lm,ps,zs,gs,n + s,m.toNat⟩ H' [] ([] ++ [(a,ZS (zs.map (·.2)) gs z m.toNat n r)])→Q .non H') :
  Jmp T (.ref g :: ([.ref b,.str z,.int m,.int n,.int s,.str x] ++ [])) (upd (upd H dx (.own g)) g (.ins T.J4 dx [])) Q E:=by
 have e5:Jf H (upd (upd H dx (.own g)) g (.ins T.J4 dx [])):=fun b u e=>by
  rw [JD (JC e nx),JD (JC e ndx)]; exact e
 obtain ⟨bdx,_,_,_,hb,_⟩:=id B.B;refine ⟨g,b,dx,z,x,m,n,s,ps,zs,gs,rfl,Jh,(fun e=>by rw [← e,nx] at hb; cases hb),tz,tx,B.same e5,hE _ e5,fun h1 h2 h3 r h4 G a H' g1 g2 g3 g4 g5 g6 g7 bt A=>?_⟩;obtain ⟨S,g',b',k,ld,lm,ps',zs',gs',c,T0⟩:=G;cases g1; cases g2; cases g3; cases g4; cases g5; cases g6; cases g7;exact q h1 h2 h3 r h4 S k ld lm a H' (fun b' u e=>bt b' u (JC e nx) (e5 b' u e)) A
def Jao (zs:List (Str×Str)) (gs:List Str) (c:Int) (x:Mo):V:=match x.ph with
 | .over=>.non
 | .bid=>Jg4 zs gs c x.m x.p x.n x.r
 | .ans b=>Jjn zs gs c x.m x.p x.n x.r b
 | .step h=>Jep zs gs c x.m x.p x.n x.r h
def Mo.due (x:Mo):Bool:=match x.ph with
 | .over=>x.r
 | .bid=>!x.r
 | .ans _=>x.r
 | .step h=>h
def JeK (zs:List (Str×Str)) (gs:List Str) (c:Int) (x:Mo):Bool:=match x.ph with
 | .over=>decide (x.p∈gs)
 | _=>if Jao zs gs c x=.non then !x.due else x.due
theorem JuJ {x:Mo} (h:x.ph≠.over):x.hand=.str (hs x.due):=by
 unfold Mo.hand Mo.due;cases hp:x.ph with
 | over=>exact absurd hp h
 | bid=>rfl
 | ans b=>rfl
 | step h=>rfl
theorem JlH {zs:List (Str×Str)} {gs:List Str} {c:Int} {x:Mo}:Zo (Jao zs gs c x)=true:=by
 unfold Jao;split
 ·rfl
 ·unfold Jg4;split
  ·rfl
  ·split <;> rfl
 ·rename_i b _;unfold Jjn;split
  ·rfl
  ·cases Jh5 (JB zs) (gB gs) c (x.m - 1) x.p x.n x.r b <;> rfl
 ·rename_i h _;unfold Jep;split
  ·rfl
  ·cases Jdv (JB zs) (gB gs) c (x.m - 1) x.p x.n x.r h <;> rfl
theorem JuR {z:Str} {m:Nat} {zs:List (Str×Str)} {gs:List Str} (h:Yv zs gs m z):YT z (m:Int) zs gs=.str (hs (decide (z∈gs))):=by
 unfold YT;by_cases hg:z∈gs
 ·rw [if_pos hg,decide_eq_true hg]; rfl
 ·rw [if_neg hg,decide_eq_false hg];have h0:(m:Int)=0∨JB zs z=[]:=by
   rcases h with h | h | h
   ·exact absurd h hg
   ·exact .inl (by omega)
   ·exact .inr h
  rw [if_pos h0]; rfl
def JpS (T:Txt K mg):Sp:=fun vs H Q _=>∃ (k b a dm:Addr) (x:Mo) (ps:List Str) (zs:List (V×(Str×Str))) (gs:List Str) (c:Int) (T0:Nat),vs=[.ref k,.ref a]∧Bk K T.JU T.JX H k b ps zs gs c T0 (T0 + 1)∧H a=some (.ins T.Yd dm (x.fs c))∧Jds ps (zs.map (·.2)) gs c T0 x∧x.ph≠.over∧∀ H',Jf H H'→Q (Jao (zs.map (·.2)) gs c x) H'
def Jro (T:Txt K mg):Sp:=fun vs H Q _=>∃ (G:Gm) (ds:List (Addr×List V)) (ms:List (Addr×Mo)) (a:Addr) (x:Mo),vs=[.ref G.g]∧J0 T G H ds (ms ++ [(a,x)])∧(Jao (G.zs.map (·.2)) G.gs G.c x=.non→∀ H',Jf H H'→Q .non H')∧(Jao (G.zs.map (·.2)) G.gs G.c x≠.non→∀ t H',Jf H H'→H' t=some (.tup [x.word,Jao (G.zs.map (·.2)) G.gs G.c x])→Q (.ref t) H')
def JoN (T:Txt K mg):Sp:=fun vs H Q _=>∃ (G:Gm) (ds:List (Addr×List V)) (ms:List (Addr×Mo)) (a:Addr) (x:Mo),vs=[.ref G.g]∧J0 T G H ds (ms ++ [(a,x)])∧∀ H',Jf H H'→Q (.str (hs (JeK (G.zs.map (·.2)) G.gs G.c x))) H'
theorem Jo9 (T:Txt K mg):JM P w K mg base Yy 8 T.JhV T.JgW ["book", "now"] (JpS T):=by
 refine T.Jh8.F.ok JoV (fun vs H Q E h=>?_) (fun cdv A outer s H vs Q E hr h=>?_)
 ·obtain ⟨_,_,_,_,_,_,_,_,_,_,rfl,_⟩:=h;rfl
 ·obtain ⟨k,b,a,dm,x,ps,zs,gs,c,T0,rfl,B,ha,ok,ho,q⟩:=h;refine ⟨_,(Xh (Xl (Xo (Xab 0) (Xm (Xa 1)) (Xx 0) (JJ _)) (Xn (Xq (Xg (Xa 0) T.J3 T.Jce.m (JkL T) T.Jce.b .nil Za (Xc (Xm (Xa 1)) (Xc (Xm (Xa 1)) (Xc (Xm (Xa 1)) (Xc (Xm (Xa 1)) (Xv 0)))))))) (XO 0)) (Xh (Xl (Xo (Xab 0) (Xm (Xa 1)) (Xx 0) (JJ _)) (Xn (Xq (Xg (Xa 0) T.J3 T.JaU.m (Jiy T) T.JaU.b .nil Za (Xc (Xm (Xa 1)) (Xc (Xm (Xa 1)) (Xc (Xm (Xa 1)) (Xc (Xm (Xa 1)) (Xc (Xm (Xa 1)) (Xv 0))))))))) (XO 0)) (Xn (Xq (Xg (Xa 0) T.J3 T.Z6.m (JfK T) T.Z6.b .nil Za (Xc (Xm (Xa 1)) (Xc (Xm (Xa 1)) (Xc (Xm (Xa 1)) (Xc (Xm (Xa 1)) (Xc (Xm (Xa 1)) (Xv 0))))))))))),?_⟩;change let Bq1:=_; let Bq2:=Jl _ Bq1; Jl _ Bq2 _ _ _;intro Bq1 Bq2;obtain ⟨dx,lk,hk⟩:=B.ins;have tp:=Zc (B.B.G.p3 _ ok.p);have hmm:0≤(x.m:Int)∧(x.m:Int)≤(T0:Int):=by have:=ok.m; omega
  have em:((x.m:Int)).toNat=x.m:=Int.toNat_natCast _;refine ⟨_,rfl,a,_,dm,_,x.word,rfl,ha,T.Jx,T.YK,rfl,?_⟩;unfold Jao at q;have okp:=ok.p;have okn:=ok.n;cases hp:x.ph with
  | over=>exact absurd hp ho
  | bid =>
   rw [hp] at q;have hw:x.word=.str "bid":=by unfold Mo.word; rw [hp]
   rw [hw];refine ⟨rfl,_,rfl,YI (by decide +kernel) ⟨_,rfl,k,dx,_,rfl,hk,rfl,_,rfl,a,_,dm,_,.str x.p,rfl,ha,T.Jx,T.YM,rfl,_,rfl,a,_,dm,_,.int (x.m:Int),rfl,ha,T.Jx,T.YL,rfl,_,rfl,a,_,dm,_,.int x.n,rfl,ha,T.Jx,T.YN,rfl,_,rfl,a,_,dm,_,.str (hs x.r),rfl,ha,T.Jx,T.YE,rfl,k,b,x.p,hs x.r,(x.m:Int),x.n,_,_,_,_,_,rfl,tp,Zp _,B,JdG ⟨okp,hmm,okn,Zk _⟩,fun _ _ _ r' hr' H1 e1=>?_⟩⟩;obtain rfl:=Zf hr';rw [em]; exact q H1 e1
  | ans bb =>
   rw [hp] at q;have hw:x.word=.str "answer":=by unfold Mo.word; rw [hp]
   have hh:x.heard=.int bb:=by unfold Mo.heard; rw [hp]
   have hb:=ok.b bb hp;rw [hw];refine ⟨rfl,_,rfl,Yi (by decide +kernel) ⟨_,rfl,a,_,dm,_,x.word,rfl,ha,T.Jx,T.YK,rfl,?_⟩⟩;rw [hw];refine ⟨rfl,_,rfl,YI (by decide +kernel) ⟨_,rfl,k,dx,_,rfl,hk,rfl,_,rfl,a,_,dm,_,.str x.p,rfl,ha,T.Jx,T.YM,rfl,_,rfl,a,_,dm,_,.int (x.m:Int),rfl,ha,T.Jx,T.YL,rfl,_,rfl,a,_,dm,_,.int x.n,rfl,ha,T.Jx,T.YN,rfl,_,rfl,a,_,dm,_,.str (hs x.r),rfl,ha,T.Jx,T.YE,rfl,_,rfl,a,_,dm,_,x.heard,rfl,ha,T.Jx,T.Jay,rfl,k,b,x.p,hs x.r,(x.m:Int),x.n,bb,_,_,_,_,_,(by rw [hh]; rfl),tp,Zp _,B,JdG ⟨okp,hmm,okn,Zk _⟩,(fun _ _ _ r' hr' h=>absurd (by rw [← Zf hr']; exact hb) h),fun _ _ _ r' hr' _ H1 e1=>?_⟩⟩;obtain rfl:=Zf hr';rw [em]; exact q H1 e1
  | step h =>
   rw [hp] at q;have hw:x.word=.str "step":=by unfold Mo.word; rw [hp]
   have hh:x.hand=.str (hs h):=by unfold Mo.hand; rw [hp]
   rw [hw];refine ⟨rfl,_,rfl,Yi (by decide +kernel) ⟨_,rfl,a,_,dm,_,x.word,rfl,ha,T.Jx,T.YK,rfl,?_⟩⟩;rw [hw];refine ⟨rfl,_,rfl,Yi (by decide +kernel) ⟨_,rfl,k,dx,_,rfl,hk,rfl,_,rfl,a,_,dm,_,.str x.p,rfl,ha,T.Jx,T.YM,rfl,_,rfl,a,_,dm,_,.int (x.m:Int),rfl,ha,T.Jx,T.YL,rfl,_,rfl,a,_,dm,_,.int x.n,rfl,ha,T.Jx,T.YN,rfl,_,rfl,a,_,dm,_,.str (hs x.r),rfl,ha,T.Jx,T.YE,rfl,_,rfl,a,_,dm,_,x.hand,rfl,ha,T.Jx,T.Z5,rfl,k,b,x.p,hs x.r,hs h,(x.m:Int),x.n,_,_,_,_,_,(by rw [hh]; rfl),tp,Zp _,Zp _,B,JdG ⟨okp,hmm,okn,Zk _⟩,(fun _ h=>by rw [Zk] at h; cases h),fun _ _ _ r' h' hr' hh' H1 e1=>?_⟩⟩;obtain rfl:=Zf hr';obtain rfl:=Zf hh';rw [em]; exact q H1 e1
theorem Jhx (T:Txt K mg):JM P w K mg base Yy 9 T.Jgd T.Jfh ["self"] (Jro T):=by
 refine T.Ja8.F.ok JeR (fun vs H Q E h=>?_) (fun cdv A outer s H vs Q E hr h=>?_)
 ·obtain ⟨_,_,_,_,_,rfl,_⟩:=h;rfl
 ·obtain ⟨G,ds,ms,a,x,rfl,A0,q1,q2⟩:=h;refine ⟨_,(Xh (Xd 1 JeR.nd (Xf (Xac 0) (Xm (Xa 0)) (XT (@JaV _) (Xj 0)))) (Xh (Xl (XM (XY (Xm (Xa 1))) (by first | exact YA _ (by decide) (by decide) | rfl)) (Xn (Xq (XW 0))) (XO 0)) (Xh (Xd 2 JeR.nd (Xb T.Jh8 (Jo9 T) Jp (Xc (Xm (Xa 0)) (Xc (Xa 1) (Xv 0))))) (Xn (Xq (X0 (XM (XY (Xa 2)) (by first | exact YA _ (by decide) (by decide) | rfl)) (XW 0) (XA (Xc (Xm (Xa 1)) (Xc (Xa 2) (Xv 0)))))))))),?_⟩;change let Bq1:=_; let Bq2:=Jl _ Bq1; let Bq3:=Jl _ Bq2; Jl _ Bq3 _ _ _;intro Bq1 Bq2 Bq3;obtain ⟨dx,hg⟩:=A0.gi;have gi:=A0.sm _ _ hg;have hm:=A0.hm;rw [List.map_append] at hm;obtain ⟨dm,ha⟩:=A0.mt (a,x) (List.mem_append_right _ (List.mem_singleton.mpr rfl));have ha:H a=some (.ins T.Yd dm (x.fs G.c)):=ha;have ok:Jds G.ps (G.zs.map (·.2)) G.gs G.c G.T x:=A0.mo (a,x) (List.mem_append_right _ (List.mem_singleton.mpr rfl));refine ⟨_,rfl,G.g,_,dx,_,.ref G.lm,rfl,gi,T.JR,T.Yq,rfl,_,rfl,G.lm,_,_,.ref a,rfl,rfl,JA.of hm,ZV,?_⟩;refine ⟨_,rfl,a,_,dm,_,x.word,rfl,ha,T.Jx,T.YK,rfl,?_⟩;by_cases ho:x.ph=.over
  ·have hw:x.word=.non:=by unfold Mo.word; rw [ho]
   rw [hw];exact ⟨_,rfl,YG (q1 (by unfold Jao; rw [ho]) H (Jf.refl _))⟩
  ·obtain ⟨y,hw⟩:∃ y,x.word=.str y:=by
    unfold Mo.word;cases hp:x.ph with
    | over=>exact absurd hp ho
    | bid=>exact ⟨_,rfl⟩
    | ans b=>exact ⟨_,rfl⟩
    | step h=>exact ⟨_,rfl⟩
   rw [hw];refine ⟨_,rfl,Yk ⟨_,rfl,G.g,_,dx,_,.ref G.k,rfl,gi,T.JR,T.Jfa,rfl,_,rfl,G.k,G.b,a,dm,x,G.ps,G.zs,G.gs,G.c,G.T,rfl,A0.bk.same A0.sm,ha,ok,ho,fun H1 e1=>?_⟩⟩;have ha1:=e1 _ _ ha;by_cases hn:Jao (G.zs.map (·.2)) G.gs G.c x=.non
   ·rw [hn];exact ⟨_,rfl,_,rfl,YG (q1 hn H1 e1)⟩
   ·have q2:=q2 hn;obtain ⟨v,hv,hf⟩:∃ v,Jao (G.zs.map (·.2)) G.gs G.c x=v∧((∃ i,v=.int i)∨∃ i,v=.str i):=by
     have:=JlH (zs:=G.zs.map (·.2)) (gs:=G.gs) (c:=G.c) (x:=x);cases ht:Jao (G.zs.map (·.2)) G.gs G.c x with
     | int i=>exact ⟨_,rfl,.inl ⟨_,rfl⟩⟩
     | str i=>exact ⟨_,rfl,.inr ⟨_,rfl⟩⟩
     | non=>exact absurd ht hn
     | _=>rw [ht] at this; cases this
    rw [hv] at q2 ⊢;rcases hf with ⟨i,rfl⟩ | ⟨i,rfl⟩
    ·exact ⟨_,rfl,_,rfl,Yk ⟨_,rfl,a,_,dm,_,x.word,rfl,ha1,T.Jx,T.YK,rfl,_,rfl,by show 2≤sizeLine; decide,fun t nt=>q2 t _ (e1.trans (Jf.upd nt)) Jh⟩⟩
    ·exact ⟨_,rfl,_,rfl,Yk ⟨_,rfl,a,_,dm,_,x.word,rfl,ha1,T.Jx,T.YK,rfl,_,rfl,by show 2≤sizeLine; decide,fun t nt=>q2 t _ (e1.trans (Jf.upd nt)) Jh⟩⟩
theorem JkJ (T:Txt K mg):JM P w K mg base Yy 10 T.Jec T.Jdk ["self"] (JoN T):=by
 refine T.Jcc.F.ok Jgo (fun vs H Q E h=>?_) (fun cdv A outer s H vs Q E hr h=>?_)
 ·obtain ⟨_,_,_,_,_,rfl,_⟩:=h;rfl
 ·obtain ⟨G,ds,ms,a,x,rfl,A0,q⟩:=h;refine ⟨_,(Xh (Xd 1 Jgo.nd (Xf (Xac 0) (Xm (Xa 0)) (XT (@JaV _) (Xj 0)))) (Xh (Xl (XM (XY (Xm (Xa 1))) (by first | exact YA _ (by decide) (by decide) | rfl)) (Xn (Xq (Xp (Xa 0) T.JR T.Z3.m (Je8 T) T.Z3.b .nil Jp))) (XO 0)) (Xn (Xq (X0 (XM (XY (Xp (Xa 0) T.JR T.Ja8.m (Jhx T) T.Ja8.b .nil Jp)) (by first | exact YA _ (by decide) (by decide) | rfl)) (Xb T.JeJ (JgS T) Za (Xc (Xm (Xa 1)) (Xv 0))) (Xm (Xa 1))))))),?_⟩;change let Bq1:=_; let Bq2:=Jl _ Bq1; Jl _ Bq2 _ _ _;intro Bq1 Bq2;obtain ⟨dx,hg⟩:=A0.gi;have gi:=A0.sm _ _ hg;have hm:=A0.hm;rw [List.map_append] at hm;obtain ⟨dm,ha⟩:=A0.mt (a,x) (List.mem_append_right _ (List.mem_singleton.mpr rfl));have ha:H a=some (.ins T.Yd dm (x.fs G.c)):=ha;have ok:Jds G.ps (G.zs.map (·.2)) G.gs G.c G.T x:=A0.mo (a,x) (List.mem_append_right _ (List.mem_singleton.mpr rfl));refine ⟨_,rfl,G.g,_,dx,_,.ref G.lm,rfl,gi,T.JR,T.Yq,rfl,_,rfl,G.lm,_,_,.ref a,rfl,rfl,JA.of hm,ZV,?_⟩;refine ⟨_,rfl,a,_,dm,_,x.word,rfl,ha,T.Jx,T.YK,rfl,?_⟩;by_cases ho:x.ph=.over
  ·have hw:x.word=.non:=by unfold Mo.word; rw [ho]
   rw [hw];refine ⟨_,rfl,YG ⟨_,rfl,G.g,dx,_,rfl,gi,rfl,G,ds,ms,a,x,rfl,A0,fun H1 e1=>?_⟩⟩;rw [JuR (ok.e.mp ho)];have q:=q H1 e1;unfold JeK at q;rw [ho] at q;exact q
  ·obtain ⟨y,hw⟩:∃ y,x.word=.str y:=by
    unfold Mo.word;cases hp:x.ph with
    | over=>exact absurd hp ho
    | bid=>exact ⟨_,rfl⟩
    | ans b=>exact ⟨_,rfl⟩
    | step h=>exact ⟨_,rfl⟩
   have hh:=JuJ ho;have ew:JeK (G.zs.map (·.2)) G.gs G.c x=if Jao (G.zs.map (·.2)) G.gs G.c x=.non then !x.due else x.due:=by
    unfold JeK;cases hp:x.ph with
    | over=>exact absurd hp ho
    | bid=>rfl
    | ans b=>rfl
    | step h=>rfl
   rw [hw];refine ⟨_,rfl,Yk ⟨_,rfl,G.g,dx,_,rfl,gi,rfl,G,ds,ms,a,x,rfl,A0,fun hn H1 e1=>?_,fun hn t H1 e1 ht=>?_⟩⟩
   ·have ha1:=e1 _ _ ha;have q:=q H1 e1;rw [ew,if_pos hn] at q;exact ⟨_,rfl,YG ⟨_,rfl,a,_,dm,_,x.hand,rfl,ha1,T.Jx,T.Z5,rfl,hs x.due,(by rw [hh]; rfl),Zp _,(fun r' hr'=>by rw [← Zf hr']; exact q),(fun z=>by rw [Zk] at z; cases z)⟩⟩
   ·have ha1:=e1 _ _ ha;have q:=q H1 e1;rw [ew,if_neg hn,← hh] at q;exact ⟨_,rfl,Yk ⟨_,rfl,a,_,dm,_,x.hand,rfl,ha1,T.Jx,T.Z5,rfl,q⟩⟩
def Jrs (T:Txt K mg):Sp:=fun vs H Q E=>∃ (G:Gm) (ds:List (Addr×List V)) (ms:List (Addr×Mo)),vs=[.ref G.g]∧J0 T G H ds ms∧(ds=[]→E (.ref T.J1) none H)∧(∀ ds0 d ms0 m,ds=ds0 ++ [d]→ms=ms0 ++ [m]→∀ H',Yj [G.ld,G.lm] H H'→J0 T G H' ds0 ms0→Q (.ref d.1) H')∧(ds≠[]→ms≠[])
theorem Jm5 (T:Txt K mg):JM P w K mg base (Zg P w) 2 T.Jgg T.Jfl ["self"] (Jrs T):=by
 refine T.JdE.F.ok1 JmA (fun vs H Q E h=>?_) (fun cdv A outer s H vs Q E hr h=>?_)
 ·obtain ⟨_,_,_,rfl,_⟩:=h;rfl
 ·obtain ⟨G,ds,ms,rfl,A0,q1,q2,q3⟩:=h;refine ⟨_,(Xh (Xl (Xo (Xab 0) (Xe (@JZ _) T.Y5 PySem.boot_len (Xc (Xm (Xa 0)) (Xv 0))) (Xj 0) (JJ _)) (Xn (XF T.Yp T.Jeh Jcu (Xx 0))) (XO 0)) (Xh (Xr (XU PySem.F.plainAttrs_list PySem.F.slot_list_pop PySem.F.type_list_pop (@JhF _) (Xm (Xa 0)))) (Xn (Xq (XU PySem.F.plainAttrs_list PySem.F.slot_list_pop PySem.F.type_list_pop (@JhF _) (Xm (Xa 0))))))),?_⟩;change let Bq1:=_; let Bq2:=Jl _ Bq1; Jl _ Bq2 _ _ _;intro Bq1 Bq2;obtain ⟨dx,hg⟩:=A0.gi;have gi:=A0.sm _ _ hg;refine ⟨_,rfl,G.g,_,dx,_,.ref G.ld,rfl,gi,T.JR,T.JaI,rfl,G.ld,_,rfl,.inl (JA.of A0.hd),rfl,_,rfl,?_⟩;rw [List.length_map];by_cases hd:ds=[]
  ·exact YI (by rw [hd]; decide +kernel) (q1 hd)
  ·refine Yi (decide_eq_false fun z=>hd (List.eq_nil_of_length_eq_zero (by have:=V.int.inj z; omega))) ?_;obtain ⟨ds0,d,rfl⟩:∃ ds0 d,ds=ds0 ++ [d]:=⟨_,_,(List.dropLast_concat_getLast hd).symm⟩
   have hms:=q3 hd;obtain ⟨ms0,m,rfl⟩:∃ ms0 m,ms=ms0 ++ [m]:=⟨_,_,(List.dropLast_concat_getLast hms).symm⟩
   have hdl:=A0.hd;have hml:=A0.hm;rw [List.map_append] at hdl hml;refine ⟨_,rfl,G.g,_,dx,_,.ref G.lm,rfl,gi,T.JR,T.Yq,rfl,.inl ⟨rfl,_,JA.of hml⟩,G.lm,_,.ref m.1,rfl,rfl,hml,by simp,?_⟩;rw [List.map_singleton,List.dropLast_concat];have gm:G.g≠G.lm:=Jax gi A0.hm (fun z=>nomatch z);have g2:upd H G.lm (.lst (ms0.map fun x=>V.ref x.1)) G.g=some (.ins T.J4 dx [("board",.ref G.b),("book",.ref G.k),("done",.ref G.ld),("moments",.ref G.lm)]):=by rw [JD gm]; exact gi
   have d2:upd H G.lm (.lst (ms0.map fun x=>V.ref x.1)) G.ld=some (.lst (ds0.map (fun d=>V.ref d.1) ++ [.ref d.1])):=by rw [JD A0.ne]; exact hdl
   refine ⟨_,rfl,G.g,_,dx,_,.ref G.ld,rfl,g2,T.JR,T.JaI,rfl,.inl ⟨rfl,_,JA.of d2⟩,G.ld,_,.ref d.1,rfl,rfl,d2,by simp,?_⟩;rw [List.dropLast_concat];have c1:Yj [G.ld,G.lm] H (upd (upd H G.lm (.lst (ms0.map fun x=>V.ref x.1))) G.ld (.lst (ds0.map fun d=>V.ref d.1))):=fun b u hn q=>by
    rw [JD (fun z=>hn (by rw [z]; simp)),JD (fun z=>hn (by rw [z]; simp))]; exact q
   refine q2 ds0 d ms0 m rfl rfl _ c1 ⟨A0.static c1,A0.bk,A0.gi,A0.nd,A0.nm,A0.ne,Jh,by rw [JD (fun z=>A0.ne z.symm),Jh],fun y hy=>c1.tup A0.lists (A0.dt y (List.mem_append_left _ hy)),fun y hy=>let ⟨dy,z⟩:=A0.mt y (List.mem_append_left _ hy); ⟨dy,c1.ins A0.lists z⟩,fun y hy=>A0.mo y (List.mem_append_left _ hy)⟩
end
def JjF (n s:Int):List (J5×V):=[(Sum.inr "north",.int n),(Sum.inr "south",.int s)]
theorem JrQ (n s:Int) (b:Bool):ZK (JdJ [] (JjF n s)) (Sum.inr (hs b))=some (.int (if b then n else s)):=by
 cases b <;> rfl
def Juf:Sp:=fun vs H Q _=>∃ b:Bool,vs=[.str (hs b)]∧Q (.str (hs (!b))) H
def JpR:Sp:=fun vs H Q _=>∃ (n s b a:Int) (r:Bool),vs=[.int n,.int s,.str (hs r),.int b,.int a]∧∀ p H',Jf H H'→H' p=some (.tup (Jcl n s r b a))→Q (.ref p) H'
def JnT:Sp:=fun vs H Q _=>∃ o s c:Int,vs=[.int o,.int s,.int c]∧0≤o∧0≤s∧∀ y,0≤y→y≤o→Q (.int y) H
def JlY:Sp:=fun vs H Q _=>∃ b o c:Int,vs=[.int b,.int o,.int c]∧0≤b∧0≤o∧∀ y,0≤y→y≤o→Q (.int y) H
def Mo.mover (x:Mo):V:=match x.ph with
 | .step h=>.str (hs h)
 | _=>.str ""
def Mo.told (x:Mo):V:=match x.ph with
 | .step h=>.str (hs h)
 | _=>.non
def Jbx (c:Int) (x:Mo):List V:=[.str x.p,.int (x.m:Int),.int x.n,.int (c - x.n),.str (hs x.r),x.heard,x.mover]
def ZZ (zs:List (Str×Str)) (c:Int) (x:Mo) (v:V):Prop:=match x.ph with
 | .over=>False
 | .bid=>∃ y,v=.int y∧0≤y∧y≤own c x.n (!x.r)
 | .ans _=>∃ y,v=.int y∧0≤y∧y≤own c x.n x.r
 | .step _=>∃ w,v=.str w∧w∈JB zs x.p
def Ja0 (zs:List (Str×Str)) (gs:List Str) (x:Mo) (v:V):Mo:=match x.ph,v with
 | .bid,.int y=>⟨x.p,x.m,x.n,x.r,.ans y⟩
 | .ans b,.int y=>⟨x.p,x.m,(after x.n x.r b y).2.1,(after x.n x.r b y).2.2,.step (after x.n x.r b y).1⟩
 | .step _,.str w=>ZS zs gs w (x.m - 1) x.n x.r
 | _,_=>x
theorem Jby {zs:List (Str×Str)} {gs:List Str} {p:Str} {m:Nat} {n:Int} {r:Bool}:(ZS zs gs p m n r).told=.non∧(ZS zs gs p m n r).mover=.str ""∧(ZS zs gs p m n r).heard=.non:=by
 unfold Mo.told Mo.mover Mo.heard ZS;by_cases h:Yv zs gs m p
 ·simp [h]
 ·simp [h]
theorem ZZ.flat {zs:List (Str×Str)} {c:Int} {x:Mo} {v:V} (h:ZZ zs c x v):Zo v=true:=by
 unfold ZZ at h;split at h
 ·exact h.elim
 ·obtain ⟨y,rfl,_⟩:=h; rfl
 ·obtain ⟨y,rfl,_⟩:=h; rfl
 ·obtain ⟨y,rfl,_⟩:=h; rfl
theorem Ji0 {x:Mo}:Zo x.hand=true∧Zo x.word=true∧Zo x.heard=true∧Zo x.told=true:=by
 unfold Mo.hand Mo.word Mo.heard Mo.told;cases x.ph <;> exact ⟨rfl,rfl,rfl,rfl⟩
def Jbl (H:Hp) (ls:List Addr) (ds:List (Addr×List V)):Prop:=ls.length=ds.length∧∀ (i:Nat) a d,ls[i]?=some a→ds[i]?=some d→H a=some (.tup d.2)
def Ju1 (K:PySem.W.Frag) (H:Hp) (ls:List Addr) (ds:List (Addr×List V)):Prop:=ls.length=ds.length∧∀ (i:Nat) a d,ls[i]?=some a→ds[i]?=some d→JH K H a d.2
theorem Jbl.sq {K:PySem.W.Frag} {H:Hp} {ls:List Addr} {ds:List (Addr×List V)} (h:Jbl H ls ds):Ju1 K H ls ds:=⟨h.1,fun i a d h1 h2=>JH.of (h.2 i a d h1 h2)⟩
theorem Jbl.same {H H':Hp} {ls:List Addr} {ds:List (Addr×List V)} (h:Jbl H ls ds) (e:Jf H H'):Jbl H' ls ds:=⟨h.1,fun i a d h1 h2=>e _ _ (h.2 i a d h1 h2)⟩
theorem Jbl.chg {H H':Hp} {X:List Addr} {ls:List Addr} {ds:List (Addr×List V)} (h:Jbl H ls ds) (e:Yj X H H') (hX:∀ x∈X,∃ vs,H x=some (.lst vs)):Jbl H' ls ds:=⟨h.1,fun i a d h1 h2=>e.tup hX (h.2 i a d h1 h2)⟩
theorem Jbl.snoc {H:Hp} {ls:List Addr} {ds:List (Addr×List V)} (h:Jbl H ls ds) {a d:Addr} {v:List V} (ha:H a=some (.tup v)):Jbl H (ls ++ [a]) (ds ++ [(d,v)]):=by
 refine ⟨by rw [List.length_append,List.length_append,h.1]; rfl,fun i b e h1 h2=>?_⟩;by_cases hi:i < ls.length
 ·rw [List.getElem?_append_left hi] at h1;rw [List.getElem?_append_left (by rw [← h.1]; exact hi)] at h2;exact h.2 i b e h1 h2
 ·rw [List.getElem?_append_right (by omega)] at h1;rw [List.getElem?_append_right (by rw [← h.1]; omega),← h.1] at h2;cases hj:i - ls.length with
  | zero =>
   rw [hj] at h1 h2;cases Option.some.inj h1;cases Option.some.inj h2;exact ha
  | succ j=>rw [hj] at h1; simp at h1
structure GG (K:PySem.W.Frag) (H:Hp) (t:Addr) (ps:List Str) (zs:List (V×(Str×Str))) (gs:List Str) (ps':List Str) (zs':List (V×(Str×Str))) (gs':List Str):Prop where
 G:Ground K H t ps zs gs
 pp:ps'.Perm ps
 zp:zs'.Perm zs
 gp:gs'.Perm gs
 zo:(zs'.map (·.2)).Pairwise ple
 B:Jdt ps' (zs'.map (·.2)) gs'
theorem GG.same {K:PySem.W.Frag} {H H':Hp} {t:Addr} {ps:List Str} {zs:List (V×(Str×Str))} {gs:List Str} {ps':List Str} {zs':List (V×(Str×Str))} {gs':List Str} (h:GG K H t ps zs gs ps' zs' gs') (e:Jf H H'):GG K H' t ps zs gs ps' zs' gs':=⟨h.G.same e,h.pp,h.zp,h.gp,h.zo,h.B⟩
def Jru (K:PySem.W.Frag):Sp:=fun vs H Q _=>∃ x y,vs=[x,y]∧Q (.bl true) H∧((x=.non∧y=.non)∨∃ (p t:Addr) (xs:List V),x=.ref p∧y=.ref t∧JH K H p xs∧(JA K H t xs∨JH K H t xs)∧xs.length≤1000∧xs.all Zo=true)
def JpV (K:PySem.W.Frag):Sp:=fun vs H Q _=>∃ (p t:Addr) (ds:List (Addr×List V)) (ls:List Addr),vs=[.ref p,.ref t]∧H p=some (.tup (ds.map fun d=>.ref d.1))∧(JA K H t (ls.map V.ref)∨JH K H t (ls.map V.ref))∧Ju1 K H ls ds∧ds.length≤1000∧(∀ d∈ds,JH K H d.1 d.2∧d.2.length≤1000∧d.2.all Zo=true)∧Q (.bl true) H
def Jtc (K:PySem.W.Frag):Sp:=fun vs H Q _=>∃ (t tn:Addr) (x:Mo) (ps:List Str) (zs:List (V×(Str×Str))) (gs ps':List Str) (zs':List (V×(Str×Str))) (gs':List Str) (c:Int) (T:Nat),vs=[.ref t,.ref tn]∧H tn=some (.tup (Jbx c x))∧GG K H t ps zs gs ps' zs' gs'∧Jds ps' (zs'.map (·.2)) gs' c T x∧(x.ph=.over→∀ H',Jf H H'→Q .non H')∧(x.ph≠.over→∀ tt H',Jf H H'→H' tt=some (.tup [x.hand,x.word])→Q (.ref tt) H')
def Js8:Sp:=fun vs H Q _=>∃ (tn:Addr) (x:Mo) (w:Str) (v:V) (zs:List (Str×Str)) (gs:List Str) (c:Int),vs=[.ref tn,.str w,v]∧H tn=some (.tup (Jbx c x))∧x.word=.str w∧ZZ zs c x v∧(∀ h,x.ph=.step h→x.m≠0)∧∀ t' H',Jf H H'→H' t'=some (.tup (Jbx c (Ja0 zs gs x v)))→Q (.ref t') H'
def Js5 (K:PySem.W.Frag):Sp:=fun vs H Q _=>∃ (t tn:Addr) (x:Mo) (i:Int) (ps:List Str) (zs:List (V×(Str×Str))) (gs ps':List Str) (zs':List (V×(Str×Str))) (gs':List Str) (c:Int) (T:Nat),vs=[.ref t,.ref tn,.int i]∧H tn=some (.tup (Jbx c x))∧GG K H t ps zs gs ps' zs' gs'∧Jds ps' (zs'.map (·.2)) gs' c T x∧x.ph≠.over∧∀ v H',Jf H H'→ZZ (zs'.map (·.2)) c x v→Q v H'
def JoM (K:PySem.W.Frag):Sp:=fun vs H Q _=>∃ (a t:Addr) (ns:List Int) (k:Int) (ps:List Str) (zs:List (V×(Str×Str))) (gs:List Str),vs=[.ref a,.ref t,.int k]∧JA K H a (ns.map V.int)∧0≤k∧Ground K H t ps zs gs∧∀ (tn:Addr) (p:Str) (m:Nat) (n c:Int) (r:Bool) (H':Hp),Jf H H'→p∈ps→m≤30→(0≤n∧n≤c)→c≤20→H' tn=some (.tup [.str p,.int (m:Int),.int n,.int (c - n),.str (hs r),.non,.str ""])→Q (.ref tn) H'
section
variable {K:PySem.W.Frag} {mg:Str→Option Value} (T:Txt K mg)
def Jrg:Sp:=fun vs H Q _=>∃ (G:Gm) (t tn tl a:Addr) (x:Mo) (ds:List (Addr×List V)) (ms:List (Addr×Mo)) (ls:List Addr) (ps:List Str) (zs:List (V×(Str×Str))) (gs:List Str),vs=[.ref G.g,.ref t,.ref tn,.ref tl]∧J0 T G H ds (ms ++ [(a,x)])∧H tn=some (.tup (Jbx G.c x))∧GG K H t ps zs gs G.ps G.zs G.gs∧(JA K H tl (ls.map V.ref)∨JH K H tl (ls.map V.ref))∧Jbl H ls ds∧ds.length≤1000∧(∀ d∈ds,d.2.length≤1000∧d.2.all Zo=true)∧∀ H',Jf H H'→Q (.bl true) H'
def JpI (w:Str) (v:V):Prop:=(w = "bid"∧∃ y,v=.int y)∨(w = "answer"∧∃ y,v=.int y)∨(w = "step"∧∃ z,v=.str z∧YQ z)
def Jti:Sp:=fun vs H Q E=>∃ (G:Gm) (ds:List (Addr×List V)) (ms:List (Addr×Mo)) (a:Addr) (x:Mo) (z w:Str) (v:V),vs=[.ref G.g,.str z,.str w,v]∧J0 T G H ds (ms ++ [(a,x)])∧ds.length≤1000∧ms.length≤1000∧YQ z∧JpI w v∧(¬ (x.hand=.str z∧x.word=.str w)→∀ H',Jf H H'→E (.ref T.JaR) none H')∧(x.hand=.str z→x.word=.str w→¬ ZZ (G.zs.map (·.2)) G.c x v→∀ H',Jf H H'→E (.ref (if w = "step" then T.Jdd else T.JaD)) none H') ∧
 (x.hand=.str z→x.word=.str w→ZZ (G.zs.map (·.2)) G.c x v→∀ d a' H',Yj [G.ld,G.lm] H H'→J0 T G H' (ds ++ [(d,[.str z,.str w,v])]) ((ms ++ [(a,x)]) ++ [(a',Ja0 (G.zs.map (·.2)) G.gs x v)])→Q (Ja0 (G.zs.map (·.2)) G.gs x v).told H')
end
section
variable {P:Program} {w:World} {K:PySem.W.Frag} {mg:Str→Option Value} {base:Heap}
theorem JjK (T:Txt K mg):JM P w K mg base Yy 1 T.Jps T.Jnm ["_law_hand_here"] Juf:=by
 refine T.Jit.F.ok Juk (fun vs H Q E h=>?_) (fun cdv A outer s H vs Q E hr h=>?_)
 ·obtain ⟨i,rfl,_⟩:=h;rfl
 ·obtain ⟨b,rfl,q⟩:=h;refine ⟨_,(Xh (Xl (Xo (Xab 0) (Xa 0) (Xx 0) (JJ _)) (Xn (Xq (Xx 0))) (XO 0)) (Xn (Xq (Xx 0)))),?_⟩;change let Bq1:=_; Jl _ Bq1 _ _ _;intro Bq1;refine ⟨_,rfl,rfl,_,rfl,?_⟩;rw [JhQ];cases b with
  | true=>exact YG q
  | false=>exact Yk q
theorem Jqf (T:Txt K mg):JM P w K mg base Yy 2 T.Jje T.JhS ["_law_north", "_law_south", "_law_ribbon", "_law_bid", "_law_reply"] JpR:=by
 refine T.Jjq.F.ok Jbr (fun vs H Q E h=>?_) (fun cdv A outer s H vs Q E hr h=>?_)
 ·obtain ⟨_,_,_,_,_,rfl,_⟩:=h;rfl
 ·obtain ⟨n,s,b,a,r,rfl,q⟩:=h;refine ⟨_,(Xh (Xd 5 Jbr.nd (Xa 2)) (Xh (Xd 6 Jbr.nd (Xa 4)) (Xh (Xd 7 Jbr.nd (Xa 2)) (Xh (Xl (Xo (@Jer _) (Xa 3) (Xa 4) (JJ _)) (Xh (Xd 5 Jbr.nd (Xb T.Jit (JjK T) Jp (Xc (Xa 2) (Xv 0)))) (Xn (Xd 6 Jbr.nd (Xa 3)))) (XO 0)) (Xh (Xl (Xo (Xab 0) (Xa 3) (Xa 4) (JJ _)) (Xn (Xd 7 Jbr.nd (Xb T.Jit (JjK T) Jp (Xc (Xa 2) (Xv 0))))) (XO 0)) (Xh (Xl (Xo (Xab 0) (Xa 5) (Xx 0) (JJ _)) (Xn (Xq (XA (Xc (Xa 5) (Xc (Xi (@YR _) (Xa 0) (Xa 6)) (Xc (Xi (X8 0) (Xa 1) (Xa 6)) (Xc (Xa 7) (Xv 0)))))))) (XO 0)) (Xn (Xq (XA (Xc (Xa 5) (Xc (Xi (X8 0) (Xa 0) (Xa 6)) (Xc (Xi (@YR _) (Xa 1) (Xa 6)) (Xc (Xa 7) (Xv 0)))))))))))))),?_⟩
  try dsimp only [cxK,Jcr]
  change let Bq1:=_; let Bq2:=Jl _ Bq1; let Bq3:=Jl _ Bq2; let Bq4:=_; let Bq5:=Jl (JeN _ (Jl _ Bq4) _) Bq3; let Bq6:=Jl _ Bq5; let Bq7:=Jl _ Bq6; Jl _ Bq7 _ _ _;intro Bq1 Bq2 Bq3 Bq4 Bq5 Bq6 Bq7;refine ⟨_,rfl,_,rfl,_,rfl,_,rfl,_,rfl,_,_,rfl,rfl,_,rfl,?_⟩;have fin:∀ p,H p=none→Jf H (upd H p (.tup (Jcl n s r b a))):=fun p hp=>Jf.upd hp
  refine YW (fun c=>?_) (fun c=>?_)
  ·have c':a < b:=of_decide_eq_true c;refine ⟨_,rfl,r,rfl,_,rfl,_,rfl,_,rfl,rfl,_,rfl,?_⟩;refine Yi (decide_eq_false (fun z=>by cases z; omega)) ?_;refine ⟨_,rfl,rfl,_,rfl,?_⟩;rw [JhQ];have e:Jcl n s r b a=if r then [.str (hs false),.int (n + b),.int (s - b),.str (hs true)] else [.str (hs true),.int (n - b),.int (s + b),.str (hs false)]:=by unfold Jcl; rw [if_pos c']
   cases r with
   | true =>
    refine Yk ⟨_,rfl,_,rfl,_,rfl,_,_,rfl,rfl,_,rfl,_,rfl,_,_,rfl,rfl,_,rfl,by show 4≤sizeLine; decide,fun p hp=>q p _ (Jf.upd hp) ?_⟩;rw [Jh,e]; rfl
   | false =>
    refine YG ⟨_,rfl,_,rfl,_,rfl,_,_,rfl,rfl,_,rfl,_,rfl,_,_,rfl,rfl,_,rfl,by show 4≤sizeLine; decide,fun p hp=>q p _ (Jf.upd hp) ?_⟩;rw [Jh,e]; rfl
  ·have c':¬ a < b:=fun z=>c (decide_eq_true z)
   refine ⟨_,rfl,_,rfl,rfl,_,rfl,?_⟩;refine YW (fun d=>?_) (fun d=>?_)
   ·have d':b=a:=by have z:=of_decide_eq_true d; cases z; rfl
    refine ⟨_,rfl,r,rfl,_,rfl,rfl,_,rfl,?_⟩;rw [JhQ];have e:Jcl n s r b a=if r then [.str (hs true),.int (n - a),.int (s + a),.str (hs false)] else [.str (hs false),.int (n + a),.int (s - a),.str (hs true)]:=by
     unfold Jcl; rw [if_neg (by omega),if_neg (by omega)]
    cases r with
    | true =>
     refine YG ⟨_,rfl,_,rfl,_,rfl,_,_,rfl,rfl,_,rfl,_,rfl,_,_,rfl,rfl,_,rfl,by show 4≤sizeLine; decide,fun p hp=>q p _ (Jf.upd hp) ?_⟩;rw [Jh,e]; rfl
    | false =>
     refine Yk ⟨_,rfl,_,rfl,_,rfl,_,_,rfl,rfl,_,rfl,_,rfl,_,_,rfl,rfl,_,rfl,by show 4≤sizeLine; decide,fun p hp=>q p _ (Jf.upd hp) ?_⟩;rw [Jh,e]; rfl
   ·have d':¬ b=a:=fun z=>d (decide_eq_true (by rw [z]))
    refine ⟨_,rfl,rfl,_,rfl,?_⟩;rw [JhQ];have e:Jcl n s r b a=if r then [.str (hs true),.int (n - a),.int (s + a),.str (hs true)] else [.str (hs false),.int (n + a),.int (s - a),.str (hs false)]:=by
     unfold Jcl; rw [if_neg (by omega),if_pos (by omega)]
    cases r with
    | true =>
     refine YG ⟨_,rfl,_,rfl,_,rfl,_,_,rfl,rfl,_,rfl,_,rfl,_,_,rfl,rfl,_,rfl,by show 4≤sizeLine; decide,fun p hp=>q p _ (Jf.upd hp) ?_⟩;rw [Jh,e]; rfl
    | false =>
     refine Yk ⟨_,rfl,_,rfl,_,rfl,_,_,rfl,rfl,_,rfl,_,rfl,_,_,rfl,rfl,_,rfl,by show 4≤sizeLine; decide,fun p hp=>q p _ (Jf.upd hp) ?_⟩;rw [Jh,e]; rfl
theorem JnX (T:Txt K mg):JM P w K mg base Yy 1 T.JgZ T.Jf8 ["_law_own", "_law_his", "_law_cell"] JnT:=by
 refine T.Jg7.F.ok JnV (fun vs H Q E h=>?_) (fun cdv A outer s H vs Q E hr h=>?_)
 ·obtain ⟨_,_,_,rfl,_⟩:=h;rfl
 ·obtain ⟨o,s',c,rfl,o0,s0,q⟩:=h;refine ⟨_,(Xh (Xl (Xo (Xab 0) (Xi (X7 0) (Xa 2) (Xj 0)) (Xj 0) (JJ _)) (Xn (Xq (Xe (@Jh1 _ rfl) T.JjO PyProof.Rows.boot_min (Xc (Xa 0) (Xc (Xi (X8 0) (Xa 1) (Xi (X7 0) (Xi (@YJ _) (Xa 2) (Xj 0)) (Xj 0))) (Xv 0)))))) (XO 0)) (Xn (Xq (Xi (X7 0) (Xi (@YJ _) (Xa 2) (Xj 0)) (Xi (X8 0) (Xa 0) (Xj 0)))))),?_⟩;change let Bq1:=_; Jl _ Bq1 _ _ _;intro Bq1;refine ⟨_,rfl,_,_,rfl,rfl,(by show (0:Int) < 3; decide),rfl,_,rfl,YW (fun _=>?_) (fun _=>?_)⟩
  ·refine ⟨_,rfl,_,rfl,_,rfl,_,_,rfl,rfl,⟨by decide,by decide⟩,_,_,rfl,rfl,(by show (0:Int) < 2; decide),_,_,rfl,rfl,_,_,rfl,q _ ?_ ?_⟩
   ·have:=Jaz (x:=c / 3) (n:=2) (by decide);split <;> omega
   ·split <;> omega
  ·have:=Jaz (x:=c / 3) (n:=o + 1) (by omega);exact ⟨_,rfl,_,_,rfl,rfl,⟨by decide,by decide⟩,_,rfl,_,_,rfl,rfl,_,_,rfl,rfl,(by show (0:Int) < o + 1; omega),q _ this.1 (by omega)⟩
theorem Jl9 (T:Txt K mg):JM P w K mg base Yy 1 T.Jfo T.Jd0 ["_law_bid", "_law_own", "_law_cell"] JlY:=by
 refine T.JfE.F.ok Jl2 (fun vs H Q E h=>?_) (fun cdv A outer s H vs Q E hr h=>?_)
 ·obtain ⟨_,_,_,rfl,_⟩:=h;rfl
 ·obtain ⟨b,o,c,rfl,b0,o0,q⟩:=h;refine ⟨_,(Xh (Xl (Xo (Xab 0) (Xi (X7 0) (Xa 2) (Xj 0)) (Xj 0) (JJ _)) (Xn (Xq (Xe (@Jh1 _ rfl) T.JjO PyProof.Rows.boot_min (Xc (Xa 0) (Xc (Xa 1) (Xv 0)))))) (XO 0)) (Xn (Xq (Xi (X7 0) (Xi (@YJ _) (Xa 2) (Xj 0)) (Xi (X8 0) (Xa 1) (Xj 0)))))),?_⟩;change let Bq1:=_; Jl _ Bq1 _ _ _;intro Bq1;refine ⟨_,rfl,_,_,rfl,rfl,(by show (0:Int) < 3; decide),rfl,_,rfl,YW (fun _=>?_) (fun _=>?_)⟩
  ·refine ⟨_,rfl,_,rfl,_,_,rfl,q _ ?_ ?_⟩ <;> (split <;> omega)
  ·have:=Jaz (x:=c / 3) (n:=o + 1) (by omega);exact ⟨_,rfl,_,_,rfl,rfl,⟨by decide,by decide⟩,_,rfl,_,_,rfl,rfl,_,_,rfl,rfl,(by show (0:Int) < o + 1; omega),q _ this.1 (by omega)⟩
theorem Jcx (T:Txt K mg):JM P w K mg base Yy 3 T.Jnx T.JkY ["_law_found", "_law_due_here"] (Jru K):=by
 refine T.Jb5.F.ok Jn9 (fun vs H Q E h=>?_) (fun cdv A outer s H vs Q E hr h=>?_)
 ·obtain ⟨_,_,rfl,_⟩:=h;rfl
 ·obtain ⟨x,y,rfl,q,h⟩:=h;refine ⟨_,(Xh (Xl (XM (XY (Xa 1)) (by first | exact YA _ (by decide) (by decide) | rfl)) (Xn (Xq (@JjH _ _ _ _ _ _ (XY (Xa 0)) (by first | exact YA _ (by decide) (by decide) | rfl)))) (XO 0)) (Xh (Xl (X3 (XH (XN (XQ (Xe (@Jss _) T.Ye PyProof.Rows.boot_isinstance (Xc (Xa 0) (Xc (XG T.JbJ PyProof.Rows.boot_tuple) (Xv 0)))) (by intro _; rfl))) (XV (Xo (@Jih _) (Xe (@JZ _) T.Y5 PySem.boot_len (Xc (Xa 0) (Xv 0))) (Xe (@JZ _) T.Y5 PySem.boot_len (Xc (Xa 1) (Xv 0))) (JJ _))))) (Xn (Xq (XR 0))) (XO 0)) (Xh (Xy PassesOwn.never (XJ T.ZD (Xc (Xe (@JZ _) T.Y5 PySem.boot_len (Xc (Xa 1) (Xv 0))) (Xv 0))) (Xk 2 Jn9.nd) (Xn (Xl (XN (XQ (Xb T.JcE (Jc9 T) Jp (Xc (Xf (XZ 0) (Xa 0) (Xa 2)) (Xc (Xf (@Jqy _) (Xa 1) (Xa 2)) (Xv 0)))) (by intro _; rfl))) (Xn (Xq (XR 0))) (XO 0))) (by intro _; rfl)) (Xn (Xq (XR 0)))))),?_⟩;change let Bq1:=_; let Bq2:=Jl _ Bq1; let Bq3:=Jl _ Bq2; Jl _ Bq3 _ _ _;intro Bq1 Bq2 Bq3;rcases h with ⟨rfl,rfl⟩ | ⟨p,t,xs,rfl,rfl,hp,ht,hl,hx⟩
  ·exact ⟨_,rfl,_,rfl,YG ⟨_,rfl,q⟩⟩
  ·have hl2:xs.length≤sizeLine:=Nat.le_trans hl (by decide);refine ⟨_,rfl,_,rfl,Yk ⟨_,rfl,p,xs,rfl,hp,_,rfl,Yk ?_⟩⟩;refine ⟨_,rfl,p,xs,rfl,.inr hp,_,rfl,t,xs,rfl,ht,rfl,_,rfl,?_⟩;refine Yi (by rw [decide_eq_true rfl]; rfl) ?_;let Pq:Nat→St→Hp→Prop:=fun i σ H2=>H2=H∧∃ v,σ=[some (.ref p),some (.ref t),v]
   refine ⟨_,rfl,t,xs,rfl,ht,(xs.length:Int),rfl,by omega,by omega,Zs (n:=xs.length) Pq ⟨rfl,none,rfl⟩ ?_ ?_⟩
   ·rintro i σ H2 hi ⟨rfl,v,rfl⟩;obtain ⟨y,hy⟩:∃ y,xs[i]?=some y:=⟨xs[i],List.getElem?_eq_getElem hi⟩
    have e0:(0:Int) + (i:Int)=(i:Int):=by omega
    have hf:Zo y=true:=List.all_eq_true.mp hx y (List.mem_of_getElem? hy);refine ⟨_,rfl,_,rfl,p,xs,_,y,rfl,rfl,hp,by rw [e0]; exact Zt hy,_,rfl,_,rfl,?_⟩;rcases ht with ht | ht
    ·exact .inl ⟨t,xs,_,y,rfl,rfl,ht,by rw [e0]; exact Zt hy,y,rfl,hf,_,rfl,Yk ⟨rfl,_,rfl⟩⟩
    ·exact .inr (.inl ⟨t,xs,_,y,rfl,rfl,ht,by rw [e0]; exact Zt hy,y,rfl,hf,_,rfl,Yk ⟨rfl,_,rfl⟩⟩)
   ·rintro σ H2 ⟨rfl,v,rfl⟩;exact q
theorem Jm3 (T:Txt K mg):JM P w K mg base Yy 4 T.Jlc T.Jjd ["_law_found", "_law_due_here"] (JpV K):=by
 refine T.Jiu.F.ok Jmx (fun vs H Q E h=>?_) (fun cdv A outer s H vs Q E hr h=>?_)
 ·obtain ⟨_,_,_,_,rfl,_⟩:=h;rfl
 ·obtain ⟨p,t,ds,ls,rfl,hp,ht,hL,hl,hd,q⟩:=h;refine ⟨_,(Xh (Xl (X3 (XH (XN (XQ (Xe (@Jb4 _) T.Ye PyProof.Rows.boot_isinstance (Xc (Xa 0) (Xc (XG T.JbJ PyProof.Rows.boot_tuple) (Xv 0)))) (by intro _; rfl))) (XV (Xo (@Jih _) (Xe (@JZ _) T.Y5 PySem.boot_len (Xc (Xa 0) (Xv 0))) (Xe (@JZ _) T.Y5 PySem.boot_len (Xc (Xa 1) (Xv 0))) (JJ _))))) (Xn (Xq (XR 0))) (XO 0)) (Xh (Xy PassesOwn.never (XJ T.ZD (Xc (Xe (@JZ _) T.Y5 PySem.boot_len (Xc (Xa 1) (Xv 0))) (Xv 0))) (Xk 2 Jmx.nd) (Xn (Xl (XN (XQ (Xb T.Jb5 (Jcx T) Jp (Xc (Xf (XZ 0) (Xa 0) (Xa 2)) (Xc (Xf (@Jqy _) (Xa 1) (Xa 2)) (Xv 0)))) (by intro _; rfl))) (Xn (Xq (XR 0))) (XO 0))) (by intro _; rfl)) (Xn (Xq (XR 0))))),?_⟩;change let Bq1:=_; let Bq2:=Jl _ Bq1; Jl _ Bq2 _ _ _;intro Bq1 Bq2;have szl:sizeLine=16777216:=sizeLine_eq;have el:(ls.map V.ref).length=(ds.map fun d=>V.ref d.1).length:=by rw [List.length_map,List.length_map,hL.1]
  refine ⟨_,rfl,_,_,_,_,rfl,⟨_,.inl rfl⟩,.tup hp,Jqt,_,rfl,Yk ?_⟩;refine ⟨_,rfl,p,_,rfl,.inr (JH.of hp),_,rfl,t,_,rfl,ht,rfl,_,rfl,?_⟩;refine Yi (by rw [el,decide_eq_true rfl]; rfl) ?_;refine ⟨_,rfl,t,_,rfl,ht,((ls.map V.ref).length:Int),rfl,by omega,by rw [List.length_map,hL.1]; omega,?_⟩;rw [Int.toNat_natCast];let Pq:Nat→St→Hp→Prop:=fun i σ H2=>H2=H∧∃ v,σ=[some (.ref p),some (.ref t),v]
  refine Zs (n:=(ls.map V.ref).length) Pq ⟨rfl,none,rfl⟩ ?_ ?_
  ·rintro i σ H2 hi ⟨rfl,v,rfl⟩;rw [List.length_map] at hi;obtain ⟨b,hb⟩:∃ b,ls[i]?=some b:=⟨_,List.getElem?_eq_getElem hi⟩
   obtain ⟨d,hdi⟩:∃ d,ds[i]?=some d:=⟨_,List.getElem?_eq_getElem (by rw [← hL.1]; exact hi)⟩
   have hb2:=hL.2 i b d hb hdi;obtain ⟨d1,d2,d3⟩:=hd d (List.mem_of_getElem? hdi);have a1:atI (ds.map fun d=>V.ref d.1) (0 + (i:Int))=some (.ref d.1):=by rw [Int.zero_add]; exact Zt (by rw [List.getElem?_map,hdi]; rfl)
   have a2:atI (ls.map V.ref) (0 + (i:Int))=some (.ref b):=by rw [Int.zero_add]; exact Zt (by rw [List.getElem?_map,hb]; rfl)
   refine ⟨_,rfl,_,rfl,p,_,_,.ref d.1,rfl,rfl,JH.of hp,a1,_,rfl,_,rfl,?_⟩;rcases ht with ht | ht
   ·exact .inl ⟨t,_,_,.ref b,rfl,rfl,ht,a2,.ref d.1,.ref b,rfl,⟨_,rfl,Yk ⟨rfl,_,rfl⟩⟩,.inr ⟨d.1,b,d.2,rfl,rfl,d1,.inr hb2,d2,d3⟩⟩
   ·exact .inr (.inl ⟨t,_,_,.ref b,rfl,rfl,ht,a2,.ref d.1,.ref b,rfl,⟨_,rfl,Yk ⟨rfl,_,rfl⟩⟩,.inr ⟨d.1,b,d.2,rfl,rfl,d1,.inr hb2,d2,d3⟩⟩)
  ·rintro σ H2 ⟨rfl,v,rfl⟩;exact q
theorem Jm2 (T:Txt K mg):JM P w K mg base Yy 4 T.Jpt T.Jnn ["_law_ground_here", "_law_now"] (Jtc K):=by
 refine T.Jki.F.ok JdH (fun vs H Q E h=>?_) (fun cdv A outer s H vs Q E hr h=>?_)
 ·obtain ⟨_,_,_,_,_,_,_,_,_,_,_,rfl,_⟩:=h;rfl
 ·obtain ⟨t,tn,x,ps,zs,gs,ps',zs',gs',c,T0,rfl,htn,g,ok,q1,q2⟩:=h;refine ⟨_,(Xh (X4 (Xa 1) (X5 (XB (Xk 2 JdH.nd) (XB (Xk 3 JdH.nd) (XB (Xk 4 JdH.nd) (XB (Xk 5 JdH.nd) (XB (Xk 6 JdH.nd) (XB (Xk 7 JdH.nd) (XB (Xk 8 JdH.nd) (@JeA _)))))))))) (Xh (Xl (Xo (@Jih _) (Xa 8) (Xx 0) (JJ _)) (Xn (Xq (XA (Xc (Xa 8) (Xc (Xx 0) (Xv 0)))))) (XO 0)) (Xh (Xl (XM (X9 (Xa 7)) (by first | exact YA _ (by decide) (by decide) | rfl)) (Xn (Xq (XA (Xc (Xa 6) (Xc (Xx 0) (Xv 0)))))) (XO 0)) (Xh (Xl (Xo (@Jih _) (Xb T.Jkf (JmW T) Jp (Xc (Xa 0) (Xc (Xa 2) (Xc (Xa 3) (Xv 0))))) (Xx 0) (JJ _)) (Xn (Xq (XW 0))) (XO 0)) (Xn (Xq (XA (Xc (Xb T.Jit (JjK T) Jp (Xc (Xa 6) (Xv 0))) (Xc (Xx 0) (Xv 0)))))))))),?_⟩;change let Bq1:=_; let Bq2:=Jl _ Bq1; let Bq3:=Jl _ Bq2; let Bq4:=Jl _ Bq3; Jl _ Bq4 _ _ _;intro Bq1 Bq2 Bq3 Bq4;refine ⟨_,rfl,tn,_,rfl,JH.of htn,rfl,_,_,rfl,_,_,rfl,_,_,rfl,_,_,rfl,_,_,rfl,_,_,rfl,_,_,rfl,rfl,?_⟩;unfold Mo.mover Mo.heard;unfold Mo.hand Mo.word at q2;cases hp:x.ph with
  | step h =>
   rw [hp] at q2;refine ⟨_,rfl,rfl,_,rfl,YI (by cases h <;> decide +kernel) ⟨_,rfl,by show 2≤sizeLine; decide,fun tt nt=>q2 (fun z=>nomatch z) tt _ (Jf.upd nt) Jh⟩⟩
  | ans b =>
   rw [hp] at q2;refine ⟨_,rfl,rfl,_,rfl,Yi (by show (!decide (V.str "" = V.str ""))=false; decide +kernel) ⟨_,rfl,_,rfl,YG ⟨_,rfl,by show 2≤sizeLine; decide,fun tt nt=>q2 (fun z=>nomatch z) tt _ (Jf.upd nt) Jh⟩⟩⟩
  | over =>
   rw [hp] at q1;refine ⟨_,rfl,rfl,_,rfl,Yi (by decide +kernel) ⟨_,rfl,_,rfl,Yk ⟨_,rfl,_,rfl,_,rfl,t,x.p,(x.m:Int),ps,zs,gs,rfl,g.G,fun H1 e1=>?_⟩⟩⟩;have he:=ok.e.mp hp;rcases JpJ (z:=x.p) (m:=x.m) (g.zp.map (·.2)) g.gp with ⟨_,hw,_⟩ | ⟨_,hw,_⟩ | ⟨_,hn⟩
   ·exact ⟨rfl,_,rfl,YI (by rw [hw]; decide +kernel) (q1 rfl H1 e1)⟩
   ·exact ⟨rfl,_,rfl,YI (by rw [hw]; decide +kernel) (q1 rfl H1 e1)⟩
   ·exact absurd he hn
  | bid =>
   rw [hp] at q2;refine ⟨_,rfl,rfl,_,rfl,Yi (by decide +kernel) ⟨_,rfl,_,rfl,Yk ⟨_,rfl,_,rfl,_,rfl,t,x.p,(x.m:Int),ps,zs,gs,rfl,g.G,fun H1 e1=>?_⟩⟩⟩;have he:¬ Yv (zs'.map (·.2)) gs' x.m x.p:=fun z=>by have:=ok.e.mpr z; rw [hp] at this; cases this
   rcases JpJ (z:=x.p) (m:=x.m) (g.zp.map (·.2)) g.gp with ⟨_,_,hn⟩ | ⟨_,_,hn⟩ | ⟨hw,_⟩
   ·exact absurd hn he
   ·exact absurd hn he
   ·exact ⟨rfl,_,rfl,Yi (by rw [hw]; decide +kernel) ⟨_,rfl,x.r,rfl,by show 2≤sizeLine; decide,fun tt nt=>q2 (fun z=>nomatch z) tt _ (e1.trans (Jf.upd nt)) Jh⟩⟩
theorem JtE (T:Txt K mg):JM P w K mg base Yy 3 T.Jnt T.JkU ["_law_now", "_law_word", "_law_what"] Js8:=by
 refine T.JnM.F.ok Jai (fun vs H Q E h=>?_) (fun cdv A outer s H vs Q E hr h=>?_)
 ·obtain ⟨_,_,_,_,_,_,_,rfl,_⟩:=h;rfl
 ·obtain ⟨tn,x,w,v,zs,gs,c,rfl,htn,hw,hv,hm,q⟩:=h;refine ⟨_,(Xh (XS (X4 (Xa 0) (X5 (XB (Xk 3 Jai.nd) (XB (Xk 4 Jai.nd) (XB (Xk 5 Jai.nd) (XB (Xk 6 Jai.nd) (XB (Xk 7 Jai.nd) (XB (Xk 8 Jai.nd) (XB (Xk 9 Jai.nd) (@JeA _))))))))))) (Xh (Xl (Xo (Xab 0) (Xa 1) (Xx 0) (JJ _)) (Xn (Xq (XA (Xc (Xa 3) (Xc (Xa 4) (Xc (Xa 5) (Xc (Xa 6) (Xc (Xa 7) (Xc (Xa 2) (Xc (Xx 0) (Xv 0))))))))))) (XO 0)) (Xh (Xl (Xo (Xab 0) (Xa 1) (Xx 0) (JJ _)) (Xh (X4 (Xb T.Jjq (Jqf T) Jp (Xc (Xa 5) (Xc (Xa 6) (Xc (Xa 7) (Xc (Xa 8) (Xc (Xa 2) (Xv 0))))))) (X5 (XB (Xk 9 Jai.nd) (XB (Xk 5 Jai.nd) (XB (Xk 6 Jai.nd) (XB (Xk 7 Jai.nd) (@JeA _))))))) (Xn (Xq (XA (Xc (Xa 3) (Xc (Xa 4) (Xc (Xa 5) (Xc (Xa 6) (Xc (Xa 7) (Xc (XW 0) (Xc (Xa 9) (Xv 0)))))))))))) (XO 0)) (Xn (Xq (XA (Xc (Xa 2) (Xc (Xi (@YR _) (Xa 4) (Xj 0)) (Xc (Xa 5) (Xc (Xa 6) (Xc (Xa 7) (Xc (XW 0) (Xc (Xx 0) (Xv 0)))))))))))))),?_⟩
  try dsimp only [cxK,Jcr]
  change let Bq1:=_; let Bq2:=_; let Bq3:=Jl (JeN _ (Jl _ Bq2) _) Bq1; let Bq4:=Jl _ Bq3; Jl _ Bq4 _ _ _;intro Bq1 Bq2 Bq3 Bq4;refine ⟨fun σ1 H1=>H1=H∧σ1=[some (.ref tn),some (.str w),some v,some (.str x.p),some (.int (x.m:Int)),some (.int x.n),some (.int (c - x.n)),some (.str (hs x.r)),some x.heard,some x.mover],⟨_,rfl,tn,_,rfl,JH.of htn,rfl,_,_,rfl,_,_,rfl,_,_,rfl,_,_,rfl,_,_,rfl,_,_,rfl,_,_,rfl,rfl,rfl,rfl⟩,?_⟩;rintro σ1 H1 ⟨rfl,rfl⟩;unfold Mo.mover Mo.heard;unfold Mo.word at hw;unfold ZZ at hv;unfold Ja0 at q;cases hp:x.ph with
  | over=>rw [hp] at hv; exact hv.elim
  | bid =>
   rw [hp] at hw hv q;obtain ⟨y,rfl,hy⟩:=hv;cases V.str.inj hw;refine ⟨_,rfl,rfl,_,rfl,YI (by decide +kernel) ⟨_,rfl,_,rfl,_,rfl,_,rfl,_,rfl,_,rfl,by show 7≤sizeLine; decide,fun t' nt=>q t' _ (Jf.upd nt) Jh⟩⟩
  | ans b =>
   rw [hp] at hw hv q;obtain ⟨y,rfl,hy⟩:=hv;cases V.str.inj hw;refine ⟨_,rfl,rfl,_,rfl,Yi (by decide +kernel) ⟨_,rfl,rfl,_,rfl,YI (by decide +kernel) ⟨_,rfl,_,rfl,_,rfl,_,rfl,_,rfl,x.n,c - x.n,b,y,x.r,rfl,fun tu H2 e1 htu=>?_⟩⟩⟩;rw [Jog] at htu;have q:∀ (t':Addr) (H':Hp),Jf H1 H'→H' t'=some (.tup (Jbx c ⟨x.p,x.m,(after x.n x.r b y).2.1,(after x.n x.r b y).2.2,.step (after x.n x.r b y).1⟩))→Q (.ref t') H':=q;generalize hl:(after x.n x.r b y).1=l at htu q;generalize hn':(after x.n x.r b y).2.1=n' at htu q;generalize hr2:(after x.n x.r b y).2.2=r2 at htu q;have en:Jbx c ⟨x.p,x.m,n',r2,.step l⟩=[.str x.p,.int (x.m:Int),.int n',.int (c - n'),.str (hs r2),.non,.str (hs l)]:=rfl;rw [en] at q;refine ⟨tu,_,rfl,JH.of htu,rfl,_,_,rfl,_,_,rfl,_,_,rfl,_,_,rfl,rfl,?_⟩;refine ⟨_,rfl,_,rfl,_,rfl,_,rfl,_,rfl,_,rfl,by show 7≤sizeLine; decide,fun t' nt=>?_⟩;exact q t' _ (e1.trans (Jf.upd nt)) Jh
  | step h =>
   rw [hp] at hw hv q;obtain ⟨y,rfl,hy⟩:=hv;cases V.str.inj hw;have hm0:=hm h hp;refine ⟨_,rfl,rfl,_,rfl,Yi (by decide +kernel) ⟨_,rfl,rfl,_,rfl,Yi (by decide +kernel) ⟨_,rfl,_,rfl,_,_,rfl,rfl,_,rfl,_,rfl,_,rfl,by show 7≤sizeLine; decide,fun t' nt=>q t' _ (Jf.upd nt) ?_⟩⟩⟩;show upd _ _ (HO.tup [V.str y,V.int ((x.m:Int) - 1),V.int x.n,V.int (c - x.n),V.str (hs x.r),.non,.str ""]) _=_;rw [Jh];unfold Jbx;rw [(Jby (zs:=zs) (gs:=gs) (p:=y) (m:=x.m - 1) (n:=x.n) (r:=x.r)).2.1,(Jby (zs:=zs) (gs:=gs) (p:=y) (m:=x.m - 1) (n:=x.n) (r:=x.r)).2.2];show _=some (HO.tup [V.str y,V.int ((x.m - 1:Nat):Int),V.int x.n,V.int (c - x.n),V.str (hs x.r),.non,.str ""]);rw [show ((x.m - 1:Nat):Int)=(x.m:Int) - 1 by omega]
theorem JtC (T:Txt K mg):JM P w K mg base Yy 4 T.Jnr T.JkS ["_law_ground_here", "_law_now", "_law_cell"] (Js5 K):=by
 refine T.JnK.F.ok Ja5 (fun vs H Q E h=>?_) (fun cdv A outer s H vs Q E hr h=>?_)
 ·obtain ⟨_,_,_,_,_,_,_,_,_,_,_,_,rfl,_⟩:=h;rfl
 ·obtain ⟨t,tn,x,i,ps,zs,gs,ps',zs',gs',c,T0,rfl,htn,g,ok,hno,q⟩:=h;have hu:=JgT hr;refine ⟨_,(Xh (XS (X4 (Xa 1) (X5 (XB (Xk 3 Ja5.nd) (XB (Xk 4 Ja5.nd) (XB (Xk 5 Ja5.nd) (XB (Xk 6 Ja5.nd) (XB (Xk 7 Ja5.nd) (XB (Xk 8 Ja5.nd) (XB (Xk 9 Ja5.nd) (@JeA _))))))))))) (Xh (Xl (Xo (@Jih _) (Xa 9) (Xx 0) (JJ _)) (Xh (Xd 10 Ja5.nd (Xb T.Jkg (Joh T) Jp (Xc (Xa 0) (Xc (Xa 3) (Xv 0))))) (Xn (Xq (Xf (Xac 0) (Xa 10) (Xi (X7 0) (Xa 2) (Xe (@JZ _) T.Y5 PySem.boot_len (Xc (Xa 10) (Xv 0)))))))) (XO 0)) (Xh (Xd 11 Ja5.nd (@Jtx _ _ _ _ _ (@JmR _ _ _ _ _ _ _ _ _ (Xx 0) (Xa 5) (@JmR _ _ _ _ _ _ _ _ _ (Xx 0) (Xa 6) (@Jtv _ _))) rfl rfl (by decide) (by decide))) (Xh (Xl (XM (XY (Xa 8)) (by first | exact YA _ (by decide) (by decide) | rfl)) (Xn (Xq (Xb T.Jg7 (JnX T) Jp (Xc (X2 hu (Xa 11) (Xb T.Jit (JjK T) Jp (Xc (Xa 7) (Xv 0)))) (Xc (X2 hu (Xa 11) (Xa 7)) (Xc (Xa 2) (Xv 0))))))) (XO 0)) (Xn (Xq (Xb T.JfE (Jl9 T) Jp (Xc (Xa 8) (Xc (X2 hu (Xa 11) (Xa 7)) (Xc (Xa 2) (Xv 0))))))))))),?_⟩
  try dsimp only [cxK,Jcr]
  change let Bq1:=_; let Bq2:=Jl _ Bq1; let Bq3:=Jl _ Bq2; let Bq4:=_; let Bq5:=Jl (JeN _ (Jl _ Bq4) _) Bq3; Jl _ Bq5 _ _ _;intro Bq1 Bq2 Bq3 Bq4 Bq5;refine ⟨fun σ1 H1=>H1=H∧σ1=[some (.ref t),some (.ref tn),some (.int i),some (.str x.p),some (.int (x.m:Int)),some (.int x.n),some (.int (c - x.n)),some (.str (hs x.r)),some x.heard,some x.mover,none,none],⟨_,rfl,tn,_,rfl,JH.of htn,rfl,_,_,rfl,_,_,rfl,_,_,rfl,_,_,rfl,_,_,rfl,_,_,rfl,_,_,rfl,rfl,rfl,rfl⟩,?_⟩;rintro σ1 H0 ⟨rfl,rfl⟩;unfold Mo.mover Mo.heard;unfold ZZ at q;have okn:=ok.n;have ho:∀ r,0≤own c x.n r:=fun r=>by unfold own; cases r <;> simp <;> omega
  have he:¬ Yv (zs'.map (·.2)) gs' x.m x.p:=fun z=>hno (ok.e.mpr z)
  have hwn:JB (zs'.map (·.2)) x.p≠[]:=fun h=>he (.inr (.inr h))
  have pur:∀ {d:Addr},H0 d=none→Jf H0 (upd (upd H0 d (.dK [])) d (.dK (JdJ [] (JjF x.n (c - x.n))))):=fun hd=>by rw [Jct]; exact Jf.upd hd
  have gD:∀ {H2:Hp} {d:Addr} (x1:Bool),H2 d=some (.dK (JdJ [] (JjF x.n (c - x.n))))→Jel H2 d (.str (hs x1)) (some (.int (own c x.n x1))):=fun {H2 d} x1 e=>by
   have z:=Jel.k (k:=Sum.inr (hs x1)) e;rw [JrQ] at z;exact z
  cases hp:x.ph with
  | over=>exact absurd hp hno
  | step h =>
   rw [hp] at q;refine ⟨_,rfl,rfl,_,rfl,YI (by cases h <;> decide +kernel) ⟨_,rfl,_,rfl,t,x.p,ps,zs,gs,rfl,g.G,fun lw ws H1 e1 hlw wp wsrt=>?_⟩⟩;obtain rfl:=Jq8 g.zo (g.zp.map _) wp wsrt;have hwl:1≤(JB (zs'.map (·.2)) x.p).length:=by cases hz:JB (zs'.map (·.2)) x.p with | nil=>exact absurd hz hwn | cons=>simp
   obtain ⟨w1,hw1,hwm1⟩:=Jj9 hwl i;exact ⟨_,rfl,_,rfl,_,rfl,lw,_,rfl,.inl (JA.of hlw),_,_,rfl,rfl,(by show (0:Int) < _; rw [List.length_map]; omega),lw,_,_,.str w1,rfl,rfl,JA.of hlw,hw1,q _ H1 e1 ⟨w1,rfl,hwm1⟩⟩
  | bid =>
   rw [hp] at q;refine ⟨_,rfl,rfl,_,rfl,Yi (by decide +kernel) ?_⟩;intro d hd;refine ⟨_,rfl,_,rfl,Jh,JjF x.n (c - x.n),rfl,(by show 2≤15; decide),?_⟩;refine ⟨_,rfl,_,rfl,YG ⟨_,rfl,_,rfl,x.r,rfl,d,_,rfl,gD (!x.r) Jh,_,rfl,_,rfl,d,_,rfl,gD x.r Jh,_,rfl,own c x.n (!x.r),own c x.n x.r,i,rfl,ho _,ho _,fun y y0 y1=>q _ _ (pur hd) ⟨y,rfl,y0,y1⟩⟩⟩
  | ans b =>
   rw [hp] at q;refine ⟨_,rfl,rfl,_,rfl,Yi (by show (!decide (V.str "" = V.str ""))=false; decide +kernel) ?_⟩;intro d hd;refine ⟨_,rfl,_,rfl,Jh,JjF x.n (c - x.n),rfl,(by show 2≤15; decide),?_⟩;have hb:=ok.b b hp;refine ⟨_,rfl,_,rfl,Yk ⟨_,rfl,_,rfl,_,rfl,d,_,rfl,gD x.r Jh,_,rfl,b,own c x.n x.r,i,rfl,hb.1,ho _,fun y y0 y1=>q _ _ (pur hd) ⟨y,rfl,y0,y1⟩⟩⟩
theorem Jpa (T:Txt K mg):JM P w K mg base Yy 4 T.JhW T.JgX ["_law_script", "_law_ground_here", "_law_at_here"] (JoM K):=by
 refine T.Jh9.F.ok JaP (fun vs H Q E h=>?_) (fun cdv A outer s H vs Q E hr h=>?_)
 ·obtain ⟨_,_,_,_,_,_,_,rfl,_⟩:=h;rfl
 ·obtain ⟨a,t,ns,k,ps,zs,gs,rfl,hS,k0,G,q⟩:=h;refine ⟨_,(Xh (Xd 3 JaP.nd (Xb T.JnL (JtD T) Jp (Xc (Xa 1) (Xc (Xb T.Z0 (ZH T) Jp (Xc (Xa 0) (Xc (Xa 2) (Xv 0)))) (Xv 0))))) (Xh (XS (Xl (Xo (Xab 0) (Xi (X7 0) (Xi (@YJ _) (Xb T.Z0 (ZH T) Jp (Xc (Xa 0) (Xc (Xa 2) (Xv 0)))) (Xj 0)) (Xj 0)) (Xj 0) (JJ _)) (Xn (Xd 3 JaP.nd (Xf (Xac 0) (Xf (XZ 0) (Xa 1) (Xj 0)) (Xi (X7 0) (Xb T.Z0 (ZH T) Jp (Xc (Xa 0) (Xc (Xa 2) (Xv 0)))) (Xe (@JZ _) T.Y5 PySem.boot_len (Xc (Xf (XZ 0) (Xa 1) (Xj 0)) (Xv 0))))))) (XO 0))) (Xh (Xd 4 JaP.nd (Xb T.Jlj (JrY T) Jp (Xc (Xb T.Z0 (ZH T) Jp (Xc (Xa 0) (Xc (Xi (X8 0) (Xa 2) (Xj 0)) (Xv 0)))) (Xv 0)))) (Xh (Xd 5 JaP.nd (Xb T.JnO (JtG T) Jp (Xc (Xb T.Z0 (ZH T) Jp (Xc (Xa 0) (Xc (Xi (X8 0) (Xa 2) (Xj 0)) (Xv 0)))) (Xv 0)))) (Xh (XS (Xd 6 JaP.nd (Xi (X7 0) (Xb T.Z0 (ZH T) Jp (Xc (Xa 0) (Xc (Xi (X8 0) (Xa 2) (Xj 0)) (Xv 0)))) (Xi (X8 0) (Xa 4) (Xj 0))))) (Xh (Xd 7 JaP.nd (Xb T.JnP (JtH T) Jp (Xc (Xb T.Z0 (ZH T) Jp (Xc (Xa 0) (Xc (Xi (X8 0) (Xa 2) (Xj 0)) (Xv 0)))) (Xv 0)))) (Xn (Xq (XA (Xc (Xa 3) (Xc (Xa 5) (Xc (Xa 6) (Xc (Xi (@YR _) (Xa 4) (Xa 6)) (Xc (Xa 7) (Xc (XW 0) (Xc (Xx 0) (Xv 0))))))))))))))))),?_⟩
  try dsimp only [cxK,Jcr]
  change let Bq1:=_; let Bq2:=Jl _ Bq1; let Bq3:=Jl _ Bq2; let Bq4:=Jl _ Bq3; let Bq5:=Jl _ Bq4; let Bq6:=Jl _ Bq5; Jl _ Bq6 _ _ _;intro Bq1 Bq2 Bq3 Bq4 Bq5 Bq6;have p1:=G.good.p1;refine ⟨_,rfl,_,rfl,_,rfl,a,ns,k,rfl,hS,k0,t,_,ps,zs,gs,rfl,G,fun p H1 hpm e1=>?_⟩;let Mq:St→Hp→Prop:=fun σ1 H2=>∃ p:Str,H2=H1∧p∈ps∧σ1=[some (.ref a),some (.ref t),some (.int k),some (.str p),none,none,none,none]
  refine ⟨Mq,?_,?_⟩
  ·refine ⟨_,rfl,_,rfl,a,ns,k,rfl,e1.seq hS,k0,_,_,rfl,rfl,⟨by decide,by decide⟩,_,_,rfl,rfl,(by show (0:Int) < 8; decide),rfl,_,rfl,YW (fun _=>?_) (fun _=>⟨p,rfl,hpm,rfl⟩)⟩;obtain ⟨pn,pl,pg,h1,h2,h3,h4,h5⟩:=(G.same e1).at_;obtain ⟨p2,hp2,hpm2⟩:=Jj9 p1 (Y1 ns k);exact ⟨_,rfl,t,_,_,.ref pn,rfl,rfl,JH.of h1,rfl,_,rfl,_,rfl,a,ns,k,rfl,e1.seq hS,k0,_,rfl,t,_,_,.ref pn,rfl,rfl,JH.of h1,rfl,pn,_,rfl,.inl (JA.of h2),_,_,rfl,rfl,(by show (0:Int) < _; rw [List.length_map]; omega),pn,_,_,.str p2,rfl,rfl,JA.of h2,hp2,p2,rfl,hpm2,rfl⟩
  try clear hpm p
  rintro σ1 H2 ⟨p,rfl,hpm,rfl⟩;refine ⟨_,rfl,_,rfl,_,_,rfl,rfl,a,ns,k + 1,rfl,e1.seq hS,by omega,_,rfl,fun c H3 c0 c1 e3=>?_⟩;refine ⟨_,rfl,_,rfl,_,_,rfl,rfl,a,ns,k + 2,rfl,(e1.trans e3).seq hS,by omega,_,rfl,fun mt H4 m0 m1 e4=>?_⟩;obtain ⟨m,rfl⟩:∃ m:Nat,mt=(m:Int):=⟨mt.toNat,by omega⟩
  have e14:=(e1.trans e3).trans e4;let Mq:St→Hp→Prop:=fun σ1 H5=>∃ n:Int,H5=H4∧(0≤n∧n≤c)∧σ1=[some (.ref a),some (.ref t),some (.int k),some (.str p),some (.int c),some (.int (m:Int)),some (.int n),none]
  refine ⟨Mq,?_,?_⟩
  ·have hb:=Jaz (x:=Y1 ns (k + 3)) (n:=c + 1) (by omega);exact ⟨_,rfl,_,rfl,_,_,rfl,rfl,a,ns,k + 3,rfl,e14.seq hS,by omega,_,rfl,_,_,rfl,rfl,_,_,rfl,rfl,(by show (0:Int) < c + 1; omega),_,rfl,⟨hb.1,by omega⟩,rfl⟩
  rintro σ1 H5 ⟨n,rfl,hn,rfl⟩;refine ⟨_,rfl,_,rfl,_,_,rfl,rfl,a,ns,k + 4,rfl,e14.seq hS,by omega,_,rfl,fun r H6 e6=>?_⟩;exact ⟨_,rfl,_,rfl,_,rfl,_,rfl,_,rfl,_,_,rfl,rfl,_,rfl,by show 7≤sizeLine; decide,fun tn nt=>q tn p m n c r _ ((e14.trans e6).trans (Jf.upd nt)) hpm (by omega) hn c1 Jh⟩
end
section
variable {P:Program} {w:World} {K:PySem.W.Frag} {mg:Str→Option Value} {base:Heap}
theorem JtV {z:Str} {m:Nat} {zs zs':List (Str×Str)} {gs gs':List Str} (zp:zs'.Perm zs) (gp:gs'.Perm gs) (h:Yv zs' gs' m z):YT z (m:Int) zs' gs'=.str (Jcf z (m:Int) zs gs):=by
 rw [JqL zp gp];unfold YT Jcf;by_cases hg:z∈gs
 ·rw [if_pos hg,if_pos hg]
 ·rw [if_neg hg,if_neg hg];have h0:(m:Int)=0∨JB zs z=[]:=by
   rcases h with h | h | h
   ·exact absurd (gp.mem_iff.mp h) hg
   ·exact .inl (by omega)
   ·exact .inr ((Jmi zp z).mp h)
  rw [if_pos h0,if_pos h0]
theorem Jse {z:Str} {n:Int} {zs:List (Str×Str)} {gs:List Str}:Zo (YT z n zs gs)=true:=by
 unfold YT;split
 ·rfl
 ·split <;> rfl
theorem JmX (T:Txt K mg):JM P w K mg base Yy 7 T.Jk4 T.Ji5 ["_law_game", "_law_ground_here", "_law_now", "_law_log"] (Jrg T):=by
 refine T.Jiq.F.ok JiQ (fun vs H Q E h=>?_) (fun cdv A outer s H vs Q E hr h=>?_)
 ·obtain ⟨_,_,_,_,_,_,_,_,_,_,_,_,rfl,_⟩:=h;rfl
 ·obtain ⟨G,t,tn,tl,a,x,ds,ms,ls,ps,zs,gs,rfl,A0,htn,g,htl,hL,hdl,hdf,q⟩:=h;refine ⟨_,(Xh (XS (Xl (X3 (XH (XN (XQ (Xb T.Jb5 (Jcx T) Jp (Xc (Xp (Xa 0) T.JR T.ZU.m (Je7 T) T.ZU.b .nil Jp) (Xc (Xaa (@Jug _) (Xa 2) (@Jgq _) (@JbF _ _ _ (Xj 0))) (Xv 0)))) (by intro _; rfl))) (XV (XN (XQ (Xb T.Jb5 (Jcx T) Jp (Xc (Xp (Xa 0) T.JR T.JaB.m (Jf5 T) T.JaB.b .nil Jp) (Xc (Xb T.Jki (Jm2 T) Jp (Xc (Xa 1) (Xc (Xa 2) (Xv 0)))) (Xv 0)))) (by intro _; rfl)))))) (Xn (Xq (XR 0))) (XO 0))) (Xh (Xl (X3 (XH (XN (XQ (Xb T.JcE (Jc9 T) Jp (Xc (Xp (Xa 0) T.JR T.JaN.m (Jha T) T.JaN.b .nil Jp) (Xc (Xf (XZ 0) (Xa 2) (Xj 0)) (Xv 0)))) (by intro _; rfl))) (XV (XN (XQ (Xb T.Jiu (Jm3 T) Jp (Xc (Xp (Xa 0) T.JR T.JaO.m (Jhb T) T.JaO.b .nil Jp) (Xc (Xa 3) (Xv 0)))) (by intro _; rfl)))))) (Xn (Xq (XR 0))) (XO 0)) (Xh (Xd 4 JiQ.nd (XW 0)) (Xh (XS (Xl (XM (XY (Xb T.Jki (Jm2 T) Jp (Xc (Xa 1) (Xc (Xa 2) (Xv 0))))) (by first | exact YA _ (by decide) (by decide) | rfl)) (Xn (Xd 4 JiQ.nd (Xb T.Jkf (JmW T) Jp (Xc (Xa 1) (Xc (Xf (XZ 0) (Xa 2) (Xj 0)) (Xc (Xf (XZ 0) (Xa 2) (Xj 0)) (Xv 0))))))) (XO 0))) (Xn (Xq (Xb T.JcE (Jc9 T) Jp (Xc (Xp (Xa 0) T.JR T.Z3.m (Je8 T) T.Z3.b .nil Jp) (Xc (Xa 4) (Xv 0)))))))))),?_⟩
  try dsimp only [cxK,Jcr]
  change let Bq1:=_; let Bq2:=Jl _ Bq1; let Bq3:=Jl _ Bq2; let Bq4:=Jl _ Bq3; Jl _ Bq4 _ _ _;intro Bq1 Bq2 Bq3 Bq4;obtain ⟨dg,hg⟩:=A0.gi;have ok:=A0.mo (a,x) (List.mem_append_right _ (List.mem_singleton.mpr rfl));have ok:Jds G.ps (G.zs.map (·.2)) G.gs G.c G.T x:=ok;have fd:=Ji0 (x:=x);have hX:∀ {H1:Hp},Jf H H1→(JA K H1 tl (ls.map V.ref)∨JH K H1 tl (ls.map V.ref)):=fun e=>htl.elim (fun h=>.inl (e.seq h)) (fun h=>.inr (e.tup h))
  let Mq:St→Hp→Prop:=fun σ1 H1=>Jf H H1∧σ1=[some (.ref G.g),some (.ref t),some (.ref tn),some (.ref tl),none]
  refine ⟨Mq,?_,?_⟩
  ·refine ⟨_,rfl,G.g,dg,_,rfl,A0.sm _ _ hg,rfl,G,ds,ms,a,x,rfl,A0,fun t1 H1 e1 h1=>?_⟩;have cut:ZB (Jbx G.c x) none (some 5)=[.str x.p,.int (x.m:Int),.int x.n,.int (G.c - x.n),.str (hs x.r)]:=rfl;refine ⟨_,rfl,_,rfl,tn,_,rfl,JH.of (e1 _ _ htn),(by rintro ⟨_,h⟩; exact absurd h (by show ¬ (HT.YB 7 7 (some 5)=7); decide)),fun t2 n2=>?_⟩;have s2:=Jf.upd (o:=.tup (ZB (Jbx G.c x) none (some 5))) n2;refine ⟨.ref t1,.ref t2,rfl,⟨_,rfl,Yk ?_⟩,.inr ⟨t1,t2,_,rfl,rfl,JH.of (s2 _ _ h1),.inr (JH.of (by rw [Jh,cut])),by show 5≤1000; decide,rfl⟩⟩;have e2:=e1.trans s2;generalize upd H1 t2 (.tup (ZB (Jbx G.c x) none (some 5)))=H2 at e2 s2;have A2:=A0.same e2;refine ⟨_,rfl,G.g,dg,_,rfl,A2.sm _ _ hg,rfl,G,ds,ms,a,x,rfl,A2,fun ho=>?_,fun ho t3 H3 e3 h3=>?_⟩
   ·exact ⟨_,rfl,_,rfl,t,tn,x,ps,zs,gs,G.ps,G.zs,G.gs,G.c,G.T,rfl,e2 _ _ htn,g.same e2,ok,fun _ H4 e4=>⟨.non,.non,rfl,⟨_,rfl,Yk ⟨e2.trans e4,rfl⟩⟩,.inl ⟨rfl,rfl⟩⟩,fun z=>absurd ho z⟩
   ·refine ⟨_,rfl,_,rfl,t,tn,x,ps,zs,gs,G.ps,G.zs,G.gs,G.c,G.T,rfl,(e2.trans e3) _ _ htn,g.same (e2.trans e3),ok,fun z=>absurd z ho,fun _ t4 H4 e4 h4=>⟨.ref t3,.ref t4,rfl,⟨_,rfl,Yk ⟨(e2.trans e3).trans e4,rfl⟩⟩,.inr ⟨t3,t4,_,rfl,rfl,JH.of (e4 _ _ h3),.inr (JH.of h4),by show 2≤1000; decide,?_⟩⟩⟩;show (Zo x.hand && (Zo x.word && true))=true;rw [fd.1,fd.2.1]; rfl
  rintro σ1 H1 ⟨e1,rfl⟩;have A1:=A0.same e1;refine ⟨_,rfl,G.g,dg,_,rfl,A1.sm _ _ hg,rfl,G,ds,ms,a,x,rfl,A1,?_⟩;refine ⟨_,rfl,tn,_,_,x.heard,rfl,rfl,JH.of (e1 _ _ htn),rfl,x.heard,rfl,fd.2.2.1,_,rfl,Yk ?_⟩;refine ⟨_,rfl,G.g,dg,_,rfl,A1.sm _ _ hg,rfl,G,ds,_,rfl,A1,fun t2 H2 e2 h2=>?_⟩;have e12:=e1.trans e2;have A2:=A0.same e12;refine ⟨_,rfl,t2,tl,ds,ls,rfl,h2,hX e12,(hL.same e12).sq,hdl,fun d hd=>⟨JH.of (A2.dt d hd),hdf d hd⟩,_,rfl,Yk ?_⟩;let Mq:St→Hp→Prop:=fun σ1 H3=>Jf H H3∧σ1=[some (.ref G.g),some (.ref t),some (.ref tn),some (.ref tl),some (YT x.p (x.m:Int) (G.zs.map (·.2)) G.gs)]
  refine ⟨Mq,?_,?_⟩
  ·refine ⟨_,rfl,_,rfl,t,tn,x,ps,zs,gs,G.ps,G.zs,G.gs,G.c,G.T,rfl,e12 _ _ htn,g.same e12,ok,fun ho H3 e3=>?_,fun ho t3 H3 e3 h3=>?_⟩
   ·have e13:=e12.trans e3;refine ⟨_,rfl,YG ⟨_,rfl,_,rfl,tn,_,_,.str x.p,rfl,rfl,JH.of (e13 _ _ htn),rfl,_,rfl,tn,_,_,.int (x.m:Int),rfl,rfl,JH.of (e13 _ _ htn),rfl,t,x.p,(x.m:Int),ps,zs,gs,rfl,g.G.same e13,fun H4 e4=>⟨e13.trans e4,?_⟩⟩⟩;rw [JtV (g.zp.map _) g.gp (ok.e.mp ho)]; rfl
   ·refine ⟨_,rfl,Yk ⟨e12.trans e3,?_⟩⟩;rw [Jfv.2 (fun z=>ho (ok.e.mpr z))]; rfl
  rintro σ1 H3 ⟨e3,rfl⟩;have A3:=A0.same e3;refine ⟨_,rfl,G.g,dg,_,rfl,A3.sm _ _ hg,rfl,G,ds,ms,a,x,rfl,A3,fun H4 e4=>⟨_,rfl,_,rfl,Jse,q H4 (e3.trans e4)⟩⟩
theorem Joi (T:Txt K mg):JM P w K mg base (Zg P w) 8 T.Jny T.JkZ ["_law_game", "_law_hand_here", "_law_word", "_law_what"] (Jti T):=by
 refine T.Jkj.F.ok1 Jts (fun vs H Q E h=>?_) (fun cdv A outer s H vs Q E hr h=>?_)
 ·obtain ⟨_,_,_,_,_,_,_,_,rfl,_⟩:=h;rfl
 ·obtain ⟨G,ds,ms,a,x,z,w,v,rfl,A0,hdl,hml,tz,hw,q1,q2,q⟩:=h;refine ⟨_,(Xh (Xl (Xo (Xab 0) (Xa 2) (Xx 0) (JJ _)) (Xn (Xq (Xg (Xa 0) T.JR T.Jeu.m (JnY T) T.Jeu.b .nil Yw (Xc (Xa 1) (Xc (Xa 3) (Xv 0)))))) (XO 0)) (Xh (Xl (Xo (Xab 0) (Xa 2) (Xx 0) (JJ _)) (Xn (Xq (Xg (Xa 0) T.JR T.Jcd.m (JkK T) T.Jcd.b .nil Yw (Xc (Xa 1) (Xc (Xa 3) (Xv 0)))))) (XO 0)) (Xn (Xq (Xg (Xa 0) T.JR T.JdC.m (Jm4 T) T.JdC.b .nil Yw (Xc (Xa 1) (Xc (Xa 3) (Xv 0)))))))),?_⟩;change let Bq1:=_; let Bq2:=Jl _ Bq1; Jl _ Bq2 _ _ _;intro Bq1 Bq2;obtain ⟨dg,hg⟩:=A0.gi;have gi:=A0.sm _ _ hg;rcases hw with ⟨rfl,y,rfl⟩ | ⟨rfl,y,rfl⟩ | ⟨rfl,y,rfl,ty⟩
  ·refine ⟨_,rfl,rfl,_,rfl,YI (by decide +kernel) ⟨_,rfl,G.g,dg,_,rfl,gi,rfl,_,rfl,_,rfl,G,ds,ms,a,x,z,y,rfl,A0,hdl,hml,tz,fun hn=>q1 (fun h=>hn (JhG.mp h)),fun hp hz hy H1 e1=>?_,fun hp hz hy d a' H1 c1 A1=>?_⟩⟩
   ·have h:=JhG.mpr ⟨hp,hz⟩;have q2:=q2 h.1 h.2 (fun hgd=>by unfold ZZ at hgd; rw [hp] at hgd; obtain ⟨y',e,h1⟩:=hgd; cases e; exact hy h1) H1 e1;rw [if_neg (by decide +kernel)] at q2;exact q2
   ·have h:=JhG.mpr ⟨hp,hz⟩;have e:Ja0 (G.zs.map (·.2)) G.gs x (.int y)=⟨x.p,x.m,x.n,x.r,.ans y⟩:=by unfold Ja0; rw [hp]
    have q:=q h.1 h.2 (by unfold ZZ; rw [hp]; exact ⟨y,rfl,hy⟩) d a' H1 c1;rw [e] at q;exact q A1
  ·refine ⟨_,rfl,rfl,_,rfl,Yi (by decide +kernel) ⟨_,rfl,rfl,_,rfl,YI (by decide +kernel) ⟨_,rfl,G.g,dg,_,rfl,gi,rfl,_,rfl,_,rfl,G,ds,ms,a,x,z,y,rfl,A0,hdl,hml,tz,fun hn=>q1 (fun h=>by obtain ⟨b,h1,h2⟩:=JhH.mp h; exact hn b h1 h2),fun b hp hz hy H1 e1=>?_,fun b hp hz hy d a' H1 c1 A1=>?_⟩⟩⟩
   ·have h:=JhH.mpr ⟨b,hp,hz⟩;have q2:=q2 h.1 h.2 (fun hgd=>by unfold ZZ at hgd; rw [hp] at hgd; obtain ⟨y',e,h1⟩:=hgd; cases e; exact hy h1) H1 e1;rw [if_neg (by decide +kernel)] at q2;exact q2
   ·have h:=JhH.mpr ⟨b,hp,hz⟩;have e:Ja0 (G.zs.map (·.2)) G.gs x (.int y)=⟨x.p,x.m,(after x.n x.r b y).2.1,(after x.n x.r b y).2.2,.step (after x.n x.r b y).1⟩:=by unfold Ja0; rw [hp]
    have q:=q h.1 h.2 (by unfold ZZ; rw [hp]; exact ⟨y,rfl,hy⟩) d a' H1 c1;rw [e] at q;exact q A1
  ·refine ⟨_,rfl,rfl,_,rfl,Yi (by decide +kernel) ⟨_,rfl,rfl,_,rfl,Yi (by decide +kernel) ⟨_,rfl,G.g,dg,_,rfl,gi,rfl,_,rfl,_,rfl,G,ds,ms,a,x,z,y,rfl,A0,hdl,hml,tz,ty,fun hn=>q1 (fun h=>by obtain ⟨b,h1,h2⟩:=Jgw.mp h; exact hn b h1 h2),fun b hp hz hy H1 e1=>?_,fun b hp hz hy d a' H1 c1 A1=>?_⟩⟩⟩
   ·have h:=Jgw.mpr ⟨b,hp,hz⟩;have q2:=q2 h.1 h.2 (fun hgd=>by unfold ZZ at hgd; rw [hp] at hgd; obtain ⟨y',e,h1⟩:=hgd; cases e; exact hy h1) H1 e1;rw [if_pos rfl] at q2;exact q2
   ·have h:=Jgw.mpr ⟨b,hp,hz⟩;have e:Ja0 (G.zs.map (·.2)) G.gs x (.str y)=ZS (G.zs.map (·.2)) G.gs y (x.m - 1) x.n x.r:=by unfold Ja0; rw [hp]
    have q:=q h.1 h.2 (by unfold ZZ; rw [hp]; exact ⟨y,rfl,hy⟩) d a' H1 c1;rw [e,Jby.1] at q;exact q A1
end
section
variable {P:Program} {w:World} {K:PySem.W.Frag} {mg:Str→Option Value} {base:Heap}
def Jjt:List Str:=["BadName", "BadHand", "OutOfRange", "Twice", "NoPlace", "BadBid", "NoLane", "NotDue", "NothingDone", "Taken", "Full", "Missing"]
def JjR (j:Nat):List V:=(List.range 12).map (fun k=>V.bl (k == j)) ++ [.bl true]
def Jrd:Sp:=fun vs H Q _=>∃ (l:Addr) (j:Nat) (x:Str),vs=[.ref l]∧H l=some (.lst (JjR j))∧Jjt[j]?=some x∧∀ p H',Jf H H'→H' p=some (.tup (rf x))→Q (.ref p) H'
theorem Jr5 (j i:Nat) (h:i < 12):atI (JjR j) ((0:Int) + (i:Int))=some (.bl (i == j)):=by
 rw [Int.zero_add];refine Zt ?_;unfold JjR;rw [List.getElem?_append_left (by simp; exact h),List.getElem?_map,List.getElem?_range h];rfl
theorem Jq7 (i:Nat) (h:i < 12):∃ x,Jjt[i]?=some x∧atI (Jjt.map V.str) ((0:Int) + (i:Int))=some (.str x):=by
 refine ⟨Jjt[i]'h,List.getElem?_eq_getElem h,?_⟩;rw [Int.zero_add];refine Zt ?_;rw [List.getElem?_map,List.getElem?_eq_getElem h];rfl
theorem JrX (T:Txt K mg):JM P w K mg base Yy 1 T.Jk2 T.Ji3 ["_law_marks"] Jrd:=by
 refine T.Jli.F.ok JgI (fun vs H Q E h=>?_) (fun cdv A outer s H vs Q E hr h=>?_)
 ·obtain ⟨_,_,_,rfl,_⟩:=h;rfl
 ·obtain ⟨l,j,x,rfl,hl,hx,q⟩:=h;refine ⟨_,(@Jd _ _ _ _ _ (@Yc _ _ _ (@Js _ _ 1 _ _ _ _ JgI.nd rfl (Or.inr rfl) (@Y6 _ _ _ _ (@Ja _ _ _ _ _ (@JG _ _ _ _) (@Ja _ _ _ _ _ (@JG _ _ _ _) (@Ja _ _ _ _ _ (@JG _ _ _ _) (@Ja _ _ _ _ _ (@JG _ _ _ _) (@Ja _ _ _ _ _ (@JG _ _ _ _) (@Ja _ _ _ _ _ (@JG _ _ _ _) (@Jb _) rfl) rfl) rfl) rfl) rfl) rfl)) rfl (by first | exact .inl rfl | exact .inr rfl | assumption))) (@Jd _ _ _ _ _ (@Yc _ _ _ (@Js _ _ 1 _ _ _ _ JgI.nd rfl (Or.inr rfl) (@Jm _ _ _ _ _ _ _ _ (@JuD _) (@pv _ 1 _ _ rfl (.inr (.inl rfl)) rfl rfl) (@Y6 _ _ _ _ (@Ja _ _ _ _ _ (@JG _ _ _ _) (@Ja _ _ _ _ _ (@JG _ _ _ _) (@Ja _ _ _ _ _ (@JG _ _ _ _) (@Ja _ _ _ _ _ (@JG _ _ _ _) (@Ja _ _ _ _ _ (@JG _ _ _ _) (@Ja _ _ _ _ _ (@JG _ _ _ _) (@Jb _) rfl) rfl) rfl) rfl) rfl) rfl))) rfl (by first | exact .inl rfl | exact .inr rfl | assumption))) (@Jd _ _ _ _ _ (@Jo3 _ _ _ _ _ _ _ _ _ _ 2 1 ["_law_k", "_law_words", "_law_marks"] [1,0] _ _ _ _ ["_law_marks", "_law_words", "_law_found"] ((Jn Jid).names) (by decide +kernel) JgI.nd rfl (@Zi _ _ _ _ _ _ rfl T.ZD (@Ja _ _ _ _ _ (@Je _ _ _ _) (@Jb _) rfl) rfl) (fun _ _ _ _=>(@JaX _ _ _ _ _ _ _ _ _ 0 (by decide +kernel) rfl rfl)) (fun _ _ _ _=>(@Jig _ _ _ (@YC _ _ _ (@Jw _ _ _ _ _ _ _ (show IxR _ (Jhq K) from (@JP _)) (@Jbv _ _ _ _ _ _ _ _ _ 2 rfl rfl (by decide) (by decide)) (@Jaa _ _ _ _ _ _ _ _ _ 0 rfl rfl (by decide) (by decide)) (fun _ _=>rfl)) (by intro _; rfl)))) (fun _ _ _ _=>(@Jw _ _ _ _ _ _ _ (show IxR _ (Jhq K) from (@JP _)) (@Jbv _ _ _ _ _ _ _ _ _ 1 rfl rfl (by decide) (by decide)) (@Jaa _ _ _ _ _ _ _ _ _ 0 rfl rfl (by decide) (by decide)) (fun _ _=>rfl))) rfl rfl rfl rfl rfl (by intro _; rfl)) (@Jd _ _ _ _ _ (@JI _ _ _ _ _ _ _ _ (@PW.pt _ _ _ (@JmQ _ _ _ _ _ _ _ (@Jy _ _ _ _ _ _ _ _ (@Yl _) (@JF _ _ _ _ _ _ _ _ _ (@JZ _) rfl T.Y5 PySem.boot_len (@Ja _ _ _ _ _ (@pv _ 2 _ _ rfl (.inl rfl) rfl rfl) (@Jb _) rfl) (by decide) (by decide) rfl rfl) (@Je _ _ _ _) (JJ _)) (@JkF _ _ _ _ (@YC _ _ _ (@Jw _ _ _ _ _ _ _ (@JP _) (@pv _ 0 _ _ rfl (.inr (.inl rfl)) rfl rfl) (@Je _ _ _ _) (fun _ _=>rfl)) (by intro _; rfl))))) (@Jg _ _ _ (@Jo _ _ _ _ (@J7 _ _ _ _ _ (@Ja _ _ _ _ _ (@JG _ _ _ _) (@Ja _ _ _ _ _ (@Jw _ _ _ _ _ _ _ (@JP _) (@pv _ 2 _ _ rfl (.inl rfl) rfl rfl) (@Je _ _ _ _) (fun _ _=>rfl)) (@Jb _) rfl) rfl)))) (@Jr _)) (@Jg _ _ _ (@Jo _ _ _ _ (@J7 _ _ _ _ _ (@Ja _ _ _ _ _ (@JG _ _ _ _) (@Ja _ _ _ _ _ (@JG _ _ _ _) (@Jb _) rfl) rfl)))))))),?_⟩;change let Bq1:=_; let Bq2:=Jl _ Bq1; let Bq3:=Jl _ Bq2; let Bq4:=Jl _ Bq3; Jl _ Bq4 _ _ _;intro Bq1 Bq2 Bq3 Bq4;have hj:j < 12:=(List.getElem?_eq_some_iff.mp hx).1;refine ⟨fun σ1 H1=>∃ p1,Jf H H1∧H1 p1=some (.lst [.str "BadName",.str "BadHand",.str "OutOfRange",.str "Twice",.str "NoPlace",.str "BadBid"])∧σ1=[some (.ref l),some (.ref p1),none],
   ⟨by show 6≤sizeLine; decide,fun p1 hp1=>⟨p1,Jf.upd hp1,Jh,rfl⟩⟩,?_⟩
  rintro σ1 H1 ⟨p1,s1,hp1,rfl⟩;refine ⟨fun σ2 H3=>∃ p3,Jf H1 H3∧H3 p3=some (.lst (Jjt.map V.str))∧σ2=[some (.ref l),some (.ref p3),none],
   ⟨_,rfl,by show 6≤sizeLine; decide,fun p2 hp2=>⟨p1,p2,_,_,rfl,rfl,(Jf.upd hp2) _ _ hp1,Jh,by show 12≤sizeLine; decide,fun p3 hp3=>⟨p3,(Jf.upd hp2).trans (Jf.upd hp3),Jh,rfl⟩⟩⟩,?_⟩
  rintro σ2 H3 ⟨p3,s13,hw3,rfl⟩;have s3:=s1.trans s13;refine ⟨12,rfl,by decide,by decide,fun D hD=>Jj2 (n:=12) (fun i ys H4=>Jf H3 H4∧H4 D=some (.lst ys)∧ys=if j < i then [.str x] else []) rfl ?_ ?_ ?_ ?_⟩
  ·exact ⟨Jf.upd hD,Jh,by simp⟩
  ·exact fun i ys H4 p=>p.2.1
  ·rintro i ys H4 hi ⟨e4,hD4,hys⟩;have keep:∀ o,Jf H3 (upd H4 D o):=fun o b u e=>by rw [JD (JC e hD)]; exact e4 b u e
   refine ⟨_,rfl,_,rfl,l,_,_,_,rfl,rfl,JA.of (e4 _ _ (s3 _ _ hl)),Jr5 j i hi,_,rfl,?_⟩;by_cases hij:i=j
   ·subst hij;obtain ⟨y,hy1,hy2⟩:=Jq7 i hi;rw [hx] at hy1;cases hy1;rw [if_neg (Nat.lt_irrefl _)] at hys;subst hys;refine YI (by simp) ⟨_,rfl,_,rfl,p3,_,_,.str x,rfl,rfl,JA.of (e4 _ _ hw3),hy2,hD4,by show 0 < sizeLine; decide,keep _,Jh,?_⟩;rw [if_pos (Nat.lt_succ_self _)]; rfl
   ·refine Yi (by simpa using hij) ⟨e4,hD4,?_⟩;rw [hys];by_cases hlt:j < i
    ·rw [if_pos hlt,if_pos (by omega)]
    ·rw [if_neg hlt,if_neg (by omega)]
  ·rintro ys H4 ⟨e4,hD4,hys⟩;rw [if_pos hj] at hys;subst hys;have s4:=s3.trans e4;refine ⟨_,rfl,D,_,rfl,.inl (JA.of hD4),rfl,_,rfl,YI (decide_eq_true rfl) ?_⟩;refine ⟨_,rfl,l,_,_,.bl true,rfl,rfl,JA.of (s4 _ _ hl),?_,_,rfl,YG ?_⟩
   ·have z:atI (JjR j) ((12:Nat):Int)=some (.bl true):=Zt (by unfold JjR; rw [List.getElem?_append_right (by simp)]; simp);exact z
   refine ⟨_,rfl,D,_,_,.str x,rfl,rfl,JA.of hD4,rfl,by show 2≤sizeLine; decide,fun p hp=>q p _ (s4.trans (Jf.upd hp)) Jh⟩
def Js4 (T:Txt K mg):Sp:=fun vs H Q _=>∃ (G:Gm) (ds:List (Addr×List V)) (ms:List (Addr×Mo)),vs=[.ref G.g]∧J0 T G H ds ms∧(ds=[]→∀ p H',Jf H H'→H' p=some (.tup (rf "NothingDone"))→Q (.ref p) H')∧(∀ ds0 d ms0 m,ds=ds0 ++ [d]→ms=ms0 ++ [m]→∀ H',Yj [G.ld,G.lm] H H'→J0 T G H' ds0 ms0→Q (.ref d.1) H')∧(ds≠[]→ms≠[])
theorem Jqg (T:Txt K mg):JM P w K mg base Yy 4 T.Jpo T.Jni ["_law_game"] (Js4 T):=by
 refine T.Jmf.F.ok JjB (fun vs H Q E h=>?_) (fun cdv A outer s H vs Q E hr h=>?_)
 ·obtain ⟨_,_,_,rfl,_⟩:=h;rfl
 ·obtain ⟨G,ds,ms,rfl,A0,q1,q2,q3⟩:=h;refine ⟨_,(Xh (Xd 1 JjB.nd (XX (Xv 0))) (Xh (@Juv _ _ _ _ 2 _ _ _ _ _ _ _ _ (fun c _ H2=>Jf H H2∧c=.ref T.J1∧ds=[]) JjB.nd T.JfP rfl (fun pn xe hx=> (Xn (Xq (Xp (Xa 0) T.JR T.JdE.m (Jm5 T) T.JdE.b .nil hx)))) (fun ea C oe A pn hp hc=> (Xn (Xd 1 JjB.nd (XX (Xc (Xe (show Yx _ _ (JcL K ea C) from Zd hp hc) T.Ye PyProof.Rows.boot_isinstance (Xc (Xa 2) (Xc (XD T.JlN) (Xv 0)))) (Xc (Xe (show Yx _ _ (JcL K ea C) from Zd hp hc) T.Ye PyProof.Rows.boot_isinstance (Xc (Xa 2) (Xc (XD T.Jh4) (Xv 0)))) (Xc (Xe (show Yx _ _ (JcL K ea C) from Zd hp hc) T.Ye PyProof.Rows.boot_isinstance (Xc (Xa 2) (Xc (XD T.JcZ) (Xv 0)))) (Xc (Xe (show Yx _ _ (JcL K ea C) from Zd hp hc) T.Ye PyProof.Rows.boot_isinstance (Xc (Xa 2) (Xc (XD T.Joz) (Xv 0)))) (Xc (Xe (show Yx _ _ (JcL K ea C) from Zd hp hc) T.Ye PyProof.Rows.boot_isinstance (Xc (Xa 2) (Xc (XD T.Jh3) (Xv 0)))) (Xc (Xe (show Yx _ _ (JcL K ea C) from Zd hp hc) T.Ye PyProof.Rows.boot_isinstance (Xc (Xa 2) (Xc (XD T.Jjk) (Xv 0)))) (Xc (Xe (show Yx _ _ (JcL K ea C) from Zd hp hc) T.Ye PyProof.Rows.boot_isinstance (Xc (Xa 2) (Xc (XD T.Jjj) (Xv 0)))) (Xc (Xe (show Yx _ _ (JcL K ea C) from Zd hp hc) T.Ye PyProof.Rows.boot_isinstance (Xc (Xa 2) (Xc (XD T.Jji) (Xv 0)))) (Xc (Xe (show Yx _ _ (JcL K ea C) from Zd hp hc) T.Ye PyProof.Rows.boot_isinstance (Xc (Xa 2) (Xc (XD T.Jeh) (Xv 0)))) (Xc (Xe (show Yx _ _ (JcL K ea C) from Zd hp hc) T.Ye PyProof.Rows.boot_isinstance (Xc (Xa 2) (Xc (XD T.JoA) (Xv 0)))) (Xc (Xe (show Yx _ _ (JcL K ea C) from Zd hp hc) T.Ye PyProof.Rows.boot_isinstance (Xc (Xa 2) (Xc (XD T.JqX) (Xv 0)))) (Xc (Xe (show Yx _ _ (JcL K ea C) from Zd hp hc) T.Ye PyProof.Rows.boot_isinstance (Xc (Xa 2) (Xc (XD T.JlM) (Xv 0)))) (Xc (Xe (show Yx _ _ (JcL K ea C) from Zd hp hc) T.Ye PyProof.Rows.boot_isinstance (Xc (Xa 2) (Xc (XG T.JhE Jj7) (Xv 0)))) (Xv 0)))))))))))))))))) rfl rfl rfl rfl (by decide)) (Xn (Xq (Xb T.Jli (JrX T) Jp (Xc (Xa 1) (Xv 0))))))),?_⟩
  try dsimp only [cxK,Jcr]
  change let Bq1:=_; let Bq2:=Jl _ Bq1; Jl _ Bq2 _ _ _;intro Bq1 Bq2;refine ⟨by show 0≤sizeLine; decide,fun p0 hp0=>?_⟩;have s0:Jf H (upd H p0 (.lst [])):=Jf.upd hp0;obtain ⟨dg,hg⟩:=A0.gi;have A1:=A0.same s0;refine ⟨⟨_,rfl,G.g,dg,_,rfl,A1.sm _ _ hg,rfl,G,ds,ms,rfl,A1,fun hd=>⟨s0,rfl,hd⟩,fun ds0 d ms0 m h1 h2 H1 c1 A2=>q2 ds0 d ms0 m h1 h2 H1 ((Yj.of s0).trans c1) A2,q3⟩,fun ea C H' hE=>?_⟩;obtain ⟨s1,e,hd⟩:=hE;obtain rfl:C=T.J1:=Value.ref.inj e;refine ⟨T.JgD,_,rfl,_,_,rfl,⟨"",.inr ⟨_,rfl⟩⟩,T.Yp,T.Jb2,_,rfl,_,_,rfl,⟨"",.inr ⟨_,rfl⟩⟩,T.Yp,T.Jb3,_,rfl,_,_,rfl,⟨"",.inr ⟨_,rfl⟩⟩,T.Yp,T.Jbk,_,rfl,_,_,rfl,⟨"",.inr ⟨_,rfl⟩⟩,T.Yp,T.JcO,_,rfl,_,_,rfl,⟨"",.inr ⟨_,rfl⟩⟩,T.Yp,T.Jb0,_,rfl,_,_,rfl,⟨"",.inr ⟨_,rfl⟩⟩,T.Yp,T.JcA,_,rfl,_,_,rfl,⟨"",.inr ⟨_,rfl⟩⟩,T.Yp,T.Jcz,_,rfl,_,_,rfl,⟨"",.inr ⟨_,rfl⟩⟩,T.Yp,T.Jcy,_,rfl,_,_,rfl,⟨"",.inr ⟨_,rfl⟩⟩,T.Yp,T.Ja3,_,rfl,_,_,rfl,⟨"",.inr ⟨_,rfl⟩⟩,T.Yp,T.JcP,_,rfl,_,_,rfl,⟨"",.inr ⟨_,rfl⟩⟩,T.Yp,T.Jc3,_,rfl,_,_,rfl,⟨"",.inr ⟨_,rfl⟩⟩,T.Yp,T.Jb1,_,rfl,_,_,rfl,⟨_,.inl rfl⟩,T.Yp,T.JgA,by show 13≤sizeLine; decide,fun l hl=>?_⟩;exact ⟨_,rfl,l,8, "NothingDone",rfl,by rw [Jh]; rfl,rfl,fun p H2 e2 hp=>q1 hd p H2 ((s1.trans (Jf.upd hl)).trans e2) hp⟩
end
def Jeg (X:List Addr) (H:Hp):Hp:=fun a=>if a∈X then none else H a
theorem JeI {X:List Addr} {H:Hp} {a:Addr} (h:a∈X):Jeg X H a=none:=if_pos h
theorem Jfx {X:List Addr} {H:Hp} {a:Addr} (h:a∉X):Jeg X H a=H a:=if_neg h
theorem Jsp {X:List Addr} {H:Hp}:Jf (Jeg X H) H:=fun b u q=>by
 by_cases h:b∈X
 ·rw [JeI h] at q; cases q
 ·rw [Jfx h] at q; exact q
theorem Jsq {X:List Addr} {H H0:Hp} (e:Jf H0 H) (h:∀ x∈X,H0 x=none):Jf H0 (Jeg X H):=fun b u q=>by
 rw [Jfx (fun z=>by rw [h b z] at q; cases q)];exact e b u q
def JsV (H:Hp) (vs:List V):Prop:=vs=[]∨∃ a o rest,vs=.ref a :: rest∧H a=some o∧∀ kv,o≠.dT kv
def XOk (X:List Addr) (H:Hp):Prop:=∀ x∈X,∃ vs,H x=some (.lst vs)∧JsV H vs
theorem XOk.keep {X:List Addr} {H:Hp} {a:Addr} {o:HO} (hX:XOk X H) (h:H a=some o) (ho:∀ vs,o≠.lst vs):Jeg X H a=some o:=by
 rw [Jfx]
 ·exact h
 ·intro z;obtain ⟨vs,q,_⟩:=hX a z;rw [h] at q;exact ho _ (Option.some.inj q)
theorem XOk.bd {K:PySem.W.Frag} {C:Addr} {X:List Addr} {H:Hp} {b:Addr} {ps:List Str} {zs:List (V×(Str×Str))} {gs:List Str} (hX:XOk X H) (h:Bd K C H b ps zs gs):Bd K C (Jeg X H) b ps zs gs:=by
 obtain ⟨⟨dx,tp,tl,tg,h1,h2,h3,h4,h5⟩,G⟩:=h;refine ⟨⟨dx,tp,tl,tg,hX.keep h1 (fun _ z=>nomatch z),hX.keep h2 (fun _ z=>nomatch z),hX.keep h3 (fun _ z=>nomatch z),fun z hz=>?_,hX.keep h5 (fun _ z=>nomatch z)⟩,G⟩;obtain ⟨a,q1,q2⟩:=h4 z hz;refine ⟨a,q1,?_⟩;rcases q2 with (h | ⟨o,h⟩) | h
 ·exact .inl (.inl (hX.keep h (fun _ z=>nomatch z)))
 ·exact .inl (.inr ⟨o,hX.keep h (fun _ z=>nomatch z)⟩)
 ·exact .inr h
theorem XOk.bk {K:PySem.W.Frag} {C CB:Addr} {X:List Addr} {H:Hp} {k b:Addr} {ps:List Str} {zs:List (V×(Str×Str))} {gs:List Str} {c:Int} {t n:Nat} (hX:XOk X H) (h:Bk K C CB H k b ps zs gs c t (n + 1)):Bk K C CB (Jeg X H) k b ps zs gs c t (n + 1):=by
 refine ⟨hX.bd h.B,h.c0,h.c1,h.t1,?_⟩;obtain ⟨dx,l,rs,h1,h2,h3,h4⟩:=h.at_;refine ⟨dx,l,rs,hX.keep h1 (fun _ z=>nomatch z),?_,h3,fun i a q=>let ⟨kv,r1,r2⟩:=h4 i a q; ⟨kv,hX.keep r1 (fun _ z=>nomatch z),r2⟩⟩;rw [Jfx]
 ·exact h2
 ·intro z;obtain ⟨vs,q,hn⟩:=hX l z;rw [h2] at q;cases Option.some.inj q
  match rs,h3 with
  | r :: rs,_ =>
   rcases hn with hn | ⟨a,o,rest,hn,ho,hk⟩
   ·cases hn
   ·obtain ⟨kv,r1,_⟩:=h4 0 r rfl;have e:V.ref r=.ref a:=(List.cons.inj hn).1;cases e;rw [r1] at ho;exact hk kv (Option.some.inj ho).symm
section
variable {K:PySem.W.Frag} {mg:Str→Option Value} {T:Txt K mg} {G:Gm} {H H':Hp} {ds:List (Addr×List V)} {ms:List (Addr×Mo)}
theorem J0.re (A:J0 T G H ds ms) {X:List Addr} (hX:XOk X H) (h1:G.ld∈X) (h2:G.lm∈X):J0 T ⟨Jeg X H,G.g,G.b,G.k,G.ld,G.lm,G.ps,G.zs,G.gs,G.c,G.T⟩ H ds ms :=
 ⟨Jsp,hX.bk (A.bk.same A.sm),let ⟨dx,hg⟩:=A.gi; ⟨dx,hX.keep (A.sm _ _ hg) (fun _ z=>nomatch z)⟩,JeI h1,JeI h2,A.ne,A.hd,A.hm,A.dt,A.mt,A.mo⟩
theorem Yj.up {X:List Addr} {a:Addr} {o:HO} (e:Yj X H H') (ha:a∈X):Yj X H (upd H' a o):=fun b u hn q=>by rw [JD (fun z=>hn (by rw [z]; exact ha))]; exact e b u hn q
theorem Yj.mono {X Y:List Addr} (e:Yj X H H') (h:∀ x∈X,x∈Y):Yj Y H H':=fun b u hn q=>e b u (fun z=>hn (h b z)) q
structure KT (T:Txt K mg) (G:Gm) (H:Hp) (ds:List (Addr×List V)) (ms:List (Addr×Mo)) (lt ll:Addr) (ts ls:List Addr):Prop where
 A:J0 T G H ds ms
 len:ms.length=ds.length + 1
 ht:H lt=some (.lst (ts.map V.ref))
 tl:ts.length=ms.length
 tt:∀ (i:Nat) a x,ts[i]?=some a→ms[i]?=some x→H a=some (.tup (Jbx G.c x.2))
 hl:H ll=some (.lst (ls.map V.ref))
 L:Jbl H ls ds
 df:∀ d∈ds,d.2.length≤1000∧d.2.all Zo=true
 nt:G.S lt=none
 nl:G.S ll=none
 n1:lt≠ll
 n2:G.ld≠lt
 n3:G.lm≠lt
 n4:G.ld≠ll
 n5:G.lm≠ll
variable {lt ll:Addr} {ts ls:List Addr}
theorem KT.same (h:KT T G H ds ms lt ll ts ls) (e:Jf H H'):KT T G H' ds ms lt ll ts ls :=
 ⟨h.A.same e,h.len,e _ _ h.ht,h.tl,fun i a x h1 h2=>e _ _ (h.tt i a x h1 h2),e _ _ h.hl,h.L.same e,h.df,h.nt,h.nl,h.n1,h.n2,h.n3,h.n4,h.n5⟩
theorem KT.lists (h:KT T G H ds ms lt ll ts ls):∀ x∈[G.ld,G.lm,lt,ll],∃ vs,H x=some (.lst vs):=fun x hx=>by
 simp only [List.mem_cons,List.not_mem_nil,or_false] at hx;rcases hx with rfl | rfl | rfl | rfl
 ·exact ⟨_,h.A.hd⟩
 ·exact ⟨_,h.A.hm⟩
 ·exact ⟨_,h.ht⟩
 ·exact ⟨_,h.hl⟩
theorem KT.frame {X:List Addr} (h:KT T G H ds ms lt ll ts ls) (e:Yj X H H') (hX:∀ x∈X,∃ vs,H x=some (.lst vs)) (hS:∀ x∈X,G.S x=none) (hn:∀ x∈[G.ld,G.lm,lt,ll],x∉X):KT T G H' ds ms lt ll ts ls :=
 ⟨h.A.frame e hX hS (hn _ (by simp)) (hn _ (by simp)),h.len,e _ _ (hn _ (by simp)) h.ht,h.tl,fun i a x h1 h2=>e.tup hX (h.tt i a x h1 h2),e _ _ (hn _ (by simp)) h.hl,h.L.chg e hX,h.df,h.nt,h.nl,h.n1,h.n2,h.n3,h.n4,h.n5⟩
theorem KT.last (h:KT T G H ds ms lt ll ts ls):∃ ms0 a x ts0 tn,ms=ms0 ++ [(a,x)]∧ts=ts0 ++ [tn]∧ts0.length=ms0.length∧H tn=some (.tup (Jbx G.c x)):=by
 have l1:=h.len;have l2:=h.tl;have hm:ms≠[]:=fun z=>by rw [z] at l1; simp at l1
 have ht:ts≠[]:=fun z=>by rw [z] at l2; simp at l2; omega
 obtain ⟨ms0,m,rfl⟩:∃ ms0 m,ms=ms0 ++ [m]:=⟨_,_,(List.dropLast_concat_getLast hm).symm⟩
 obtain ⟨ts0,tn,rfl⟩:∃ ts0 tn,ts=ts0 ++ [tn]:=⟨_,_,(List.dropLast_concat_getLast ht).symm⟩
 have l3:ts0.length=ms0.length:=by rw [List.length_append,List.length_append] at l2; simpa using l2
 exact ⟨ms0,m.1,m.2,ts0,tn,rfl,rfl,l3,h.tt ts0.length tn m (by rw [List.getElem?_append_right (Nat.le_refl _),Nat.sub_self]; rfl) (by rw [l3,List.getElem?_append_right (Nat.le_refl _),Nat.sub_self]; rfl)⟩
theorem JbX {α:Type} {l r:List α} {i:Nat} {a:α} (h:l[i]?=some a):(l ++ r)[i]?=some a:=by rw [List.getElem?_append_left (List.getElem?_eq_some_iff.mp h).1]; exact h
theorem Jtm {α β:Type} {l:List α} {r:List β} {a x:α} {b y:β} {i:Nat} (hl:l.length=r.length) (h1:(l ++ [a])[i]?=some x) (h2:(r ++ [b])[i]?=some y):(l[i]?=some x∧r[i]?=some y)∨(x=a∧y=b):=by
 by_cases hi:i < l.length
 ·rw [List.getElem?_append_left hi] at h1;rw [List.getElem?_append_left (by omega)] at h2;exact .inl ⟨h1,h2⟩
 ·rw [List.getElem?_append_right (by omega)] at h1;rw [List.getElem?_append_right (by omega),← hl] at h2;cases hj:i - l.length with
  | zero=>rw [hj] at h1 h2; exact .inr ⟨(Option.some.inj h1).symm,(Option.some.inj h2).symm⟩
  | succ j=>rw [hj] at h1; simp at h1
theorem KT.more {d a' td tn':Addr} {y:V} {w:Str} {v:V} {x':Mo} {H1 H2 H3:Hp} (h:KT T G H ds ms lt ll ts ls) (e:Yj [G.ld,G.lm] H H1) (A1:J0 T G H1 (ds ++ [(d,[y,.str w,v])]) (ms ++ [(a',x')])) (e2:Jf H1 H2) (htn:H2 tn'=some (.tup (Jbx G.c x'))) (e3:Jf (upd H2 lt (.lst (ts.map V.ref ++ [.ref tn']))) H3) (htd:H3 td=some (.tup [y,.str w,v])) (fv:Zo v=true) (fy:Zo y=true) :
  KT T G (upd H3 ll (.lst (ls.map V.ref ++ [.ref td]))) (ds ++ [(d,[y,.str w,v])]) (ms ++ [(a',x')]) lt ll (ts ++ [tn']) (ls ++ [td])∧Yj [G.ld,G.lm,lt,ll] H (upd H3 ll (.lst (ls.map V.ref ++ [.ref td]))):=by
 have n1:lt∉[G.ld,G.lm]:=by simp; exact ⟨fun z=>h.n2 z.symm,fun z=>h.n3 z.symm⟩
 have n2:ll∉[G.ld,G.lm]:=by simp; exact ⟨fun z=>h.n4 z.symm,fun z=>h.n5 z.symm⟩
 have ht1:=e2 _ _ (e _ _ n1 h.ht);have hl1:=e2 _ _ (e _ _ n2 h.hl);have c2:Yj [lt] H2 (upd H2 lt (.lst (ts.map V.ref ++ [.ref tn']))):=(Yj.of (Jf.refl _)).up (by simp);have x2:∀ x∈[lt],∃ vs,H2 x=some (.lst vs):=fun x hx=>by rw [List.mem_singleton.mp hx]; exact ⟨_,ht1⟩
 have hl2:=e3 _ _ (c2 _ _ (by simp; exact fun z=>h.n1 z.symm) hl1);have c3:Yj [ll] H3 (upd H3 ll (.lst (ls.map V.ref ++ [.ref td]))):=(Yj.of (Jf.refl _)).up (by simp);have x3:∀ x∈[ll],∃ vs,H3 x=some (.lst vs):=fun x hx=>by rw [List.mem_singleton.mp hx]; exact ⟨_,hl2⟩
 have A2:=(A1.same e2).frame c2 x2 (fun x hx=>by rw [List.mem_singleton.mp hx]; exact h.nt) (fun z=>h.n2 (List.mem_singleton.mp z)) (fun z=>h.n3 (List.mem_singleton.mp z));have A3:=(A2.same e3).frame c3 x3 (fun x hx=>by rw [List.mem_singleton.mp hx]; exact h.nl) (fun z=>h.n4 (List.mem_singleton.mp z)) (fun z=>h.n5 (List.mem_singleton.mp z));have keep:∀ {a:Addr} {xs:List V},H a=some (.tup xs)→upd H3 ll (.lst (ls.map V.ref ++ [.ref td])) a=some (.tup xs):=fun q=>c3.tup x3 (e3 _ _ (c2.tup x2 (e2 _ _ (e.tup h.A.lists q))))
 have L3:=(((((h.L.chg e h.A.lists).same e2).chg c2 x2).same e3).chg c3 x3)
 refine ⟨⟨A3,by rw [List.length_append,List.length_append,h.len]; rfl,?_,by rw [List.length_append,List.length_append,h.tl]; rfl,fun i a x h1 h2=>?_,by rw [Jh,List.map_append]; rfl,Jbl.snoc L3 (c3.tup x3 htd),fun q hq=>?_,h.nt,h.nl,h.n1,h.n2,h.n3,h.n4,h.n5⟩,?_⟩
 ·rw [JD h.n1,e3 _ _ Jh,List.map_append]; rfl
 ·rcases Jtm h.tl h1 h2 with ⟨q1,q2⟩ | ⟨rfl,rfl⟩
  ·exact keep (h.tt i a x q1 q2)
  ·exact c3.tup x3 (e3 _ _ (c2.tup x2 htn))
 ·rcases List.mem_append.mp hq with z | z
  ·exact h.df q z
  ·rw [List.mem_singleton.mp z];refine ⟨by show 3≤1000; decide,?_⟩;show (Zo y && (true && (Zo v && true)))=true;rw [fy,fv]; rfl
 ·exact ((((e.mono (Y:=[G.ld,G.lm,lt,ll]) (fun x hx=>by simp at hx ⊢; rcases hx with h | h <;> simp [h])).trans (Yj.of e2)).trans (c2.mono (fun x hx=>by simp at hx ⊢; simp [hx]))).trans (Yj.of e3)).trans (c3.mono (fun x hx=>by simp at hx ⊢; simp [hx]))
theorem KT.less {ds0:List (Addr×List V)} {d:Addr×List V} {ms0:List (Addr×Mo)} {m:Addr×Mo} {ts0 ls0:List Addr} {tn td:Addr} {H1:Hp} (h:KT T G H (ds0 ++ [d]) (ms0 ++ [m]) lt ll (ts0 ++ [tn]) (ls0 ++ [td])) (e:Yj [G.ld,G.lm] (upd H lt (.lst (ts0.map V.ref))) H1) (A1:J0 T G H1 ds0 ms0) :
  KT T G (upd H1 ll (.lst (ls0.map V.ref))) ds0 ms0 lt ll ts0 ls0∧Yj [G.ld,G.lm,lt,ll] H (upd H1 ll (.lst (ls0.map V.ref)))∧H1 d.1=some (.tup d.2)∧H1 td=some (.tup d.2)∧H1 ll=some (.lst (ls0.map V.ref ++ [.ref td])):=by
 have n1:lt∉[G.ld,G.lm]:=by simp; exact ⟨fun z=>h.n2 z.symm,fun z=>h.n3 z.symm⟩
 have n2:ll∉[G.ld,G.lm]:=by simp; exact ⟨fun z=>h.n4 z.symm,fun z=>h.n5 z.symm⟩
 have c1:Yj [lt] H (upd H lt (.lst (ts0.map V.ref))):=(Yj.of (Jf.refl _)).up (by simp);have x1:∀ x∈[lt],∃ vs,H x=some (.lst vs):=fun x hx=>by rw [List.mem_singleton.mp hx]; exact ⟨_,h.ht⟩
 have A0:=h.A.frame c1 x1 (fun x hx=>by rw [List.mem_singleton.mp hx]; exact h.nt) (fun z=>h.n2 (List.mem_singleton.mp z)) (fun z=>h.n3 (List.mem_singleton.mp z));have hl0:=h.hl;rw [List.map_append] at hl0;have hl1:=e _ _ n2 (c1 _ _ (by simp; exact fun z=>h.n1 z.symm) hl0);have c3:Yj [ll] H1 (upd H1 ll (.lst (ls0.map V.ref))):=(Yj.of (Jf.refl _)).up (by simp);have x3:∀ x∈[ll],∃ vs,H1 x=some (.lst vs):=fun x hx=>by rw [List.mem_singleton.mp hx]; exact ⟨_,hl1⟩
 have A3:=A1.frame c3 x3 (fun x hx=>by rw [List.mem_singleton.mp hx]; exact h.nl) (fun z=>h.n4 (List.mem_singleton.mp z)) (fun z=>h.n5 (List.mem_singleton.mp z));have keep:∀ {a:Addr} {xs:List V},H a=some (.tup xs)→H1 a=some (.tup xs):=fun q=>e.tup A0.lists (c1.tup x1 q)
 have ll1:=h.len;have ll2:=h.tl;have ll3:=h.L.1;rw [List.length_append,List.length_append] at ll1 ll2 ll3;have ll1:ms0.length=ds0.length + 1:=by simpa using ll1
 have ll2:ts0.length=ms0.length:=by simpa using ll2
 have ll3:ls0.length=ds0.length:=by simpa using ll3
 refine ⟨⟨A3,ll1,?_,ll2,fun i a x h1 h2=>c3.tup x3 (keep (h.tt i a x (JbX h1) (JbX h2))),Jh,⟨ll3,fun i a x h1 h2=>c3.tup x3 (keep (h.L.2 i a x (JbX h1) (JbX h2)))⟩,fun q hq=>h.df q (List.mem_append_left _ hq),h.nt,h.nl,h.n1,h.n2,h.n3,h.n4,h.n5⟩,?_,?_,?_,hl1⟩
 ·rw [JD h.n1]; exact e _ _ n1 Jh
 ·exact ((c1.mono (Y:=[G.ld,G.lm,lt,ll]) (fun x hx=>by simp at hx ⊢; simp [hx])).trans (e.mono (fun x hx=>by simp at hx ⊢; rcases hx with h | h <;> simp [h]))).trans (c3.mono (fun x hx=>by simp at hx ⊢; simp [hx]))
 ·exact keep (h.A.dt d (by simp))
 ·exact keep (h.L.2 ls0.length td d (by rw [List.getElem?_append_right (Nat.le_refl _),Nat.sub_self]; rfl) (by rw [ll3,List.getElem?_append_right (Nat.le_refl _),Nat.sub_self]; rfl))
end
def Dv (H:Hp) (x:Mo) (v:V):Prop:=(x.ph=.over∧v=.non)∨(x.ph≠.over∧∃ t,v=.ref t∧H t=some (.tup [x.hand,x.word]))
def Tv (zs:List (Str×Str)) (gs:List Str) (c:Int) (H:Hp) (x:Mo) (v:V):Prop:=(Jao zs gs c x=.non∧v=.non)∨(Jao zs gs c x≠.non∧∃ t,v=.ref t∧H t=some (.tup [x.word,Jao zs gs c x]))
def S7 (zs:List (Str×Str)) (gs:List Str) (c:Int) (H:Hp) (s:Addr) (ds:List (Addr×List V)) (x:Mo):Prop:=∃ (t1 t4:Addr) (v2 v7:V),H s=some (.tup [.ref t1,v2,x.heard,.ref t4,YT x.p (x.m:Int) zs gs,.str (hs (JeK zs gs c x)),v7])∧H t1=some (.tup [.str x.p,.int (x.m:Int),.int x.n,.int (c - x.n),.str (hs x.r)])∧Dv H x v2∧H t4=some (.tup (ds.map fun d=>.ref d.1))∧Tv zs gs c H x v7
theorem S7.map {zs:List (Str×Str)} {gs:List Str} {c:Int} {H H':Hp} {s:Addr} {ds:List (Addr×List V)} {x:Mo} (h:S7 zs gs c H s ds x) (e:∀ {a:Addr} {xs:List V},H a=some (.tup xs)→H' a=some (.tup xs)):S7 zs gs c H' s ds x:=by
 obtain ⟨t1,t4,v2,v7,h1,h2,h3,h4,h5⟩:=h;refine ⟨t1,t4,v2,v7,e h1,e h2,?_,e h4,?_⟩
 ·rcases h3 with h | ⟨h,t,h',q⟩
  ·exact .inl h
  ·exact .inr ⟨h,t,h',e q⟩
 ·rcases h5 with h | ⟨h,t,h',q⟩
  ·exact .inl h
  ·exact .inr ⟨h,t,h',e q⟩
theorem Jsl {z:Str} {n:Int} {zs:List (Str×Str)} {gs:List Str}:Zo (YT z n zs gs)=true:=by
 unfold YT;split
 ·rfl
 ·split <;> rfl
def Go (zs:List (Str×Str)) (gs:List Str) (c:Int) (ds:List (Addr×List V)) (ms:List (Addr×Mo)):Prop:=∀ (i:Nat) d x x',ds[i]?=some d→ms[i]?=some x→ms[i + 1]?=some x'→∃ y w v,d.2=[.str y,.str w,v]∧x.2.hand=.str y∧x.2.word=.str w∧x.2.ph≠.over∧ZZ zs c x.2 v∧x'.2=Ja0 zs gs x.2 v
section
variable {K:PySem.W.Frag} {mg:Str→Option Value} {T:Txt K mg} {G:Gm} {H H':Hp} {ds:List (Addr×List V)} {ms:List (Addr×Mo)} {lt ll se:Addr} {ts ls ss:List Addr} {z0:Addr×Mo}
structure KS (T:Txt K mg) (G:Gm) (H:Hp) (ds:List (Addr×List V)) (ms:List (Addr×Mo)) (lt ll se:Addr) (ts ls ss:List Addr) (z0:Addr×Mo):Prop where
 K:KT T G H ds ms lt ll ts ls
 hs:H se=some (.lst (ss.map V.ref))
 sl:ss.length=ds.length
 st:∀ (i:Nat) s x,ss[i]?=some s→ms[i]?=some x→S7 (G.zs.map (·.2)) G.gs G.c H s (ds.take i) x.2
 go:Go (G.zs.map (·.2)) G.gs G.c ds ms
 m0:ms[0]?=some z0
 ns:G.S se=none
 n1:G.ld≠se
 n2:G.lm≠se
 n3:lt≠se
 n4:ll≠se
theorem KS.same (h:KS T G H ds ms lt ll se ts ls ss z0) (e:Jf H H'):KS T G H' ds ms lt ll se ts ls ss z0 :=
 ⟨h.K.same e,e _ _ h.hs,h.sl,fun i s x h1 h2=>(h.st i s x h1 h2).map fun q=>e _ _ q,h.go,h.m0,h.ns,h.n1,h.n2,h.n3,h.n4⟩
theorem KS.lists (h:KS T G H ds ms lt ll se ts ls ss z0):∀ x∈[G.ld,G.lm,lt,ll,se],∃ vs,H x=some (.lst vs):=fun x hx=>by
 simp only [List.mem_cons,List.not_mem_nil,or_false] at hx;rcases hx with rfl | rfl | rfl | rfl | rfl
 ·exact ⟨_,h.K.A.hd⟩
 ·exact ⟨_,h.K.A.hm⟩
 ·exact ⟨_,h.K.ht⟩
 ·exact ⟨_,h.K.hl⟩
 ·exact ⟨_,h.hs⟩
theorem KS.frame {X:List Addr} (h:KS T G H ds ms lt ll se ts ls ss z0) (e:Yj X H H') (hX:∀ x∈X,∃ vs,H x=some (.lst vs)) (hS:∀ x∈X,G.S x=none) (hn:∀ x∈[G.ld,G.lm,lt,ll,se],x∉X):KS T G H' ds ms lt ll se ts ls ss z0 :=
 ⟨h.K.frame e hX hS (fun x hx=>hn x (by simp at hx ⊢; rcases hx with h | h | h | h <;> simp [h])),e _ _ (hn _ (by simp)) h.hs,h.sl,fun i s x h1 h2=>(h.st i s x h1 h2).map fun q=>e.tup hX q,h.go,h.m0,h.ns,h.n1,h.n2,h.n3,h.n4⟩
theorem KS.ne4 (h:KS T G H ds ms lt ll se ts ls ss z0):se∉[G.ld,G.lm,lt,ll]:=by
 simp only [List.mem_cons,List.not_mem_nil,or_false,not_or];exact ⟨fun z=>h.n1 z.symm,fun z=>h.n2 z.symm,fun z=>h.n3 z.symm,fun z=>h.n4 z.symm⟩
theorem KS.see (h:KS T G H ds ms lt ll se ts ls ss z0) (o:HO):KT T G (upd H se o) ds ms lt ll ts ls∧Yj [se] H (upd H se o)∧∀ {a:Addr} {xs:List V},H a=some (.tup xs)→upd H se o a=some (.tup xs):=by
 have c:Yj [se] H (upd H se o):=(Yj.of (Jf.refl _)).up (by simp);have x:∀ x∈[se],∃ vs,H x=some (.lst vs):=fun x hx=>by rw [List.mem_singleton.mp hx]; exact ⟨_,h.hs⟩
 refine ⟨h.K.frame c x (fun y hy=>by rw [List.mem_singleton.mp hy]; exact h.ns) (fun y hy hz=>?_),c,fun q=>c.tup x q⟩;rw [List.mem_singleton.mp hz] at hy;exact h.ne4 hy
theorem KS.more {d:Addr×List V} {x x':Addr×Mo} {ms0:List (Addr×Mo)} {s:Addr} {H2:Hp} {ts' ls':List Addr} (h:KS T G H ds (ms0 ++ [x]) lt ll se ts ls ss z0) (hs:S7 (G.zs.map (·.2)) G.gs G.c H s ds x.2) (e1:Yj [G.ld,G.lm,lt,ll] (upd H se (.lst (ss.map V.ref ++ [.ref s]))) H2) (k2:KT T G H2 (ds ++ [d]) ((ms0 ++ [x]) ++ [x']) lt ll ts' ls')
  (hg:∃ y w v,d.2=[.str y,.str w,v]∧x.2.hand=.str y∧x.2.word=.str w∧x.2.ph≠.over∧ZZ (G.zs.map (·.2)) G.c x.2 v∧x'.2=Ja0 (G.zs.map (·.2)) G.gs x.2 v) :
  KS T G H2 (ds ++ [d]) ((ms0 ++ [x]) ++ [x']) lt ll se ts' ls' (ss ++ [s]) z0∧Yj [G.ld,G.lm,lt,ll,se] H H2:=by
 obtain ⟨k1,c1,t1⟩:=h.see (.lst (ss.map V.ref ++ [.ref s]));have keep:∀ {a:Addr} {xs:List V},H a=some (.tup xs)→H2 a=some (.tup xs):=fun q=>e1.tup k1.lists (t1 q)
 have hlen:=h.K.len;have hsl:=h.sl;have hml:ms0.length=ds.length:=by rw [List.length_append] at hlen; simpa using hlen
 refine ⟨⟨k2,?_,by rw [List.length_append,List.length_append,hsl]; rfl,fun i a y h1 h2=>?_,fun i q y y' h1 h2 h3=>?_,?_,h.ns,h.n1,h.n2,h.n3,h.n4⟩,?_⟩
 ·rw [e1 _ _ h.ne4 Jh,List.map_append]; rfl
 ·by_cases hi:i < ss.length
  ·rw [List.getElem?_append_left hi] at h1;rw [List.getElem?_append_left (by rw [List.length_append]; show _ < _ + 1; omega)] at h2;rw [List.take_append_of_le_length (by omega)];exact (h.st i a y h1 h2).map keep
  ·have hi2:i=ss.length:=by have:=(List.getElem?_eq_some_iff.mp h1).1; rw [List.length_append] at this; simp at this; omega
   subst hi2;rw [List.getElem?_append_right (Nat.le_refl _),Nat.sub_self] at h1;rw [List.getElem?_append_left (by rw [List.length_append]; show _ < _ + 1; omega),List.getElem?_append_right (by omega),show ss.length - ms0.length=0 by omega] at h2;cases Option.some.inj h1;cases Option.some.inj h2;rw [hsl,List.take_left];exact hs.map keep
 ·by_cases hi:i < ds.length
  ·rw [List.getElem?_append_left hi] at h1;rw [List.getElem?_append_left (by rw [List.length_append]; show _ < _ + 1; omega)] at h2 h3;exact h.go i q y y' h1 h2 h3
  ·have hi2:i=ds.length:=by have:=(List.getElem?_eq_some_iff.mp h1).1; rw [List.length_append] at this; simp at this; omega
   subst hi2;rw [List.getElem?_append_right (Nat.le_refl _),Nat.sub_self] at h1;rw [List.getElem?_append_left (by rw [List.length_append]; show _ < _ + 1; omega),List.getElem?_append_right (by omega),show ds.length - ms0.length=0 by omega] at h2;rw [List.getElem?_append_right (by rw [List.length_append]; show _ + 1≤_; omega),show ds.length + 1 - (ms0 ++ [x]).length=0 by rw [List.length_append]; show _ - (_ + 1)=0; omega] at h3;cases Option.some.inj h1;cases Option.some.inj h2;cases Option.some.inj h3;exact hg
 ·rw [List.getElem?_append_left (by rw [List.length_append]; show 0 < _ + 1; omega)];exact h.m0
 ·exact (c1.mono (Y:=[G.ld,G.lm,lt,ll,se]) (fun x hx=>by simp at hx ⊢; simp [hx])).trans (e1.mono (fun x hx=>by simp at hx ⊢; rcases hx with h | h | h | h <;> simp [h]))
theorem KS.less {ds0:List (Addr×List V)} {d:Addr×List V} {ms0:List (Addr×Mo)} {m:Addr×Mo} {ls' ts' ss0:List Addr} {s:Addr} {H1:Hp} (h:KS T G H (ds0 ++ [d]) (ms0 ++ [m]) lt ll se ts ls (ss0 ++ [s]) z0) (e:Yj [G.ld,G.lm,lt,ll] H H1) (k1:KT T G H1 ds0 ms0 lt ll ts' ls') :
  KS T G (upd H1 se (.lst (ss0.map V.ref))) ds0 ms0 lt ll se ts' ls' ss0 z0∧Yj [G.ld,G.lm,lt,ll,se] H (upd H1 se (.lst (ss0.map V.ref)))∧H1 se=some (.lst (ss0.map V.ref ++ [.ref s]))∧(∀ x,ms0[ds0.length]?=some x→S7 (G.zs.map (·.2)) G.gs G.c H1 s ds0 x.2):=by
 have keep:∀ {a:Addr} {xs:List V},H a=some (.tup xs)→H1 a=some (.tup xs):=fun q=>e.tup h.K.lists q
 have hs1:=h.hs;rw [List.map_append] at hs1;have hs2:=e _ _ h.ne4 hs1;have c:Yj [se] H1 (upd H1 se (.lst (ss0.map V.ref))):=(Yj.of (Jf.refl _)).up (by simp);have x:∀ x∈[se],∃ vs,H1 x=some (.lst vs):=fun x hx=>by rw [List.mem_singleton.mp hx]; exact ⟨_,hs2⟩
 have hsl:=h.sl;rw [List.length_append,List.length_append] at hsl;have hsl:ss0.length=ds0.length:=by simpa using hsl
 have hlen:=k1.len;refine ⟨⟨k1.frame c x (fun y hy=>by rw [List.mem_singleton.mp hy]; exact h.ns) (fun y hy hz=>?_),Jh,hsl,fun i a y h1 h2=>?_,fun i q y y' h1 h2 h3=>h.go i q y y' (JbX h1) (JbX h2) (JbX h3),?_,h.ns,h.n1,h.n2,h.n3,h.n4⟩,?_,hs2,fun y hy=>?_⟩
 ·rw [List.mem_singleton.mp hz] at hy;exact h.ne4 hy
 ·have hi:=(List.getElem?_eq_some_iff.mp h1).1;have:=h.st i a y (JbX h1) (JbX h2);rw [List.take_append_of_le_length (by omega)] at this;exact (this.map keep).map fun q=>c.tup x q
 ·have:=h.m0;rw [List.getElem?_append_left (by omega)] at this;exact this
 ·exact (e.mono (Y:=[G.ld,G.lm,lt,ll,se]) (fun x hx=>by simp at hx ⊢; rcases hx with h | h | h | h <;> simp [h])).trans (c.mono (fun x hx=>by simp at hx ⊢; simp [hx]))
 ·have:=h.st ds0.length s y (by rw [List.getElem?_append_right (by omega),show ds0.length - ss0.length=0 by omega]; rfl) (JbX hy);rw [List.take_left] at this;exact this.map keep
end
section
variable {P:Program} {w:World} {K:PySem.W.Frag} {mg:Str→Option Value} {base:Heap}
theorem Jly {zs:List (Str×Str)} {gs:List Str} {p:Str} {m:Nat} {n c:Int} {r:Bool}:Jbx c (ZS zs gs p m n r)=[.str p,.int (m:Int),.int n,.int (c - n),.str (hs r),.non,.str ""]:=by
 unfold Jbx;rw [Jby.2.1,Jby.2.2]; rfl
theorem JlJ {ps:List Str} {zs:List (Str×Str)} {gs:List Str} {c:Int} {T0:Nat} {v:V} (ok:Jds ps zs gs c T0 x) (ho:x.ph≠.over) (hv:ZZ zs c x v) (B:Jdt ps zs gs):∃ y w,x.hand=.str y∧x.word=.str w∧YQ y∧JpI w v:=by
 unfold Mo.hand Mo.word;unfold ZZ at hv;cases hp:x.ph with
 | over=>exact absurd hp ho
 | bid =>
  rw [hp] at hv;obtain ⟨y,rfl,_⟩:=hv;exact ⟨_,_,rfl,rfl,Zp _,.inl ⟨rfl,y,rfl⟩⟩
 | ans b =>
  rw [hp] at hv;obtain ⟨y,rfl,_⟩:=hv;exact ⟨_,_,rfl,rfl,Zp _,.inr (.inl ⟨rfl,y,rfl⟩)⟩
 | step h =>
  rw [hp] at hv;obtain ⟨y,rfl,hy⟩:=hv;exact ⟨_,_,rfl,rfl,Zp _,.inr (.inr ⟨rfl,y,rfl,Zc (B.p3 y (Jew B hy))⟩)⟩
def Jrf (T:Txt K mg):Sp:=fun vs H Q _=>∃ (G:Gm) (ds:List (Addr×List V)) (ms:List (Addr×Mo)) (a:Addr) (x:Mo),vs=[.ref G.g]∧J0 T G H ds (ms ++ [(a,x)])∧∀ (s:Addr) (H':Hp),Jf H H'→S7 (G.zs.map (·.2)) G.gs G.c H' s ds x→Q (.ref s) H'
theorem JeD (T:Txt K mg):JM P w K mg base Yy 11 T.Jnq T.JkR ["_law_game"] (Jrf T):=by
 refine T.JdM.F.ok Jn8 (fun vs H Q E h=>?_) (fun cdv A outer s H vs Q E hr h=>?_)
 ·obtain ⟨_,_,_,_,_,rfl,_⟩:=h;rfl
 ·obtain ⟨G,ds,ms,a,x,rfl,A0,q⟩:=h;refine ⟨_,(Xh (XS (Xd 1 Jn8.nd (XA (Xc (Xp (Xa 0) T.JR T.ZU.m (Je7 T) T.ZU.b .nil Jp) (Xc (Xp (Xa 0) T.JR T.JaB.m (Jf5 T) T.JaB.b .nil Jp) (Xc (Xp (Xa 0) T.JR T.JaN.m (Jha T) T.JaN.b .nil Jp) (Xc (Xp (Xa 0) T.JR T.JaO.m (Jhb T) T.JaO.b .nil Jp) (Xc (Xp (Xa 0) T.JR T.Z3.m (Je8 T) T.Z3.b .nil Jp) (Xv 0))))))))) (Xn (Xq (Xi (@JtB _) (Xa 1) (XA (Xc (Xp (Xa 0) T.JR T.Jcc.m (JkJ T) T.Jcc.b .nil Jp) (Xc (Xp (Xa 0) T.JR T.Ja8.m (Jhx T) T.Ja8.b .nil Jp) (Xv 0)))))))),?_⟩;change let Bq1:=_; Jl _ Bq1 _ _ _;intro Bq1;obtain ⟨dg,hg⟩:=A0.gi;let Mq:St→Hp→Prop:=fun σ1 H5=>∃ (f t1 t4:Addr) (v2:V),Jf H H5∧H5 f=some (.tup [.ref t1,v2,x.heard,.ref t4,YT x.p (x.m:Int) (G.zs.map (·.2)) G.gs])∧H5 t1=some (.tup [.str x.p,.int (x.m:Int),.int x.n,.int (G.c - x.n),.str (hs x.r)])∧Dv H5 x v2∧H5 t4=some (.tup (ds.map fun d=>.ref d.1))∧σ1=[some (.ref G.g),some (.ref f)]
  refine ⟨Mq,?_,?_⟩
  ·refine ⟨_,rfl,G.g,dg,_,rfl,A0.sm _ _ hg,rfl,G,ds,ms,a,x,rfl,A0,fun t1 H1 e1 h1=>?_⟩;have A1:=A0.same e1;refine ⟨_,rfl,G.g,dg,_,rfl,A1.sm _ _ hg,rfl,G,ds,ms,a,x,rfl,A1,fun ho=>?_,fun ho t2 H2 e2 h2=>?_⟩
   ·refine ⟨_,rfl,G.g,dg,_,rfl,A1.sm _ _ hg,rfl,G,ds,ms,a,x,rfl,A1,?_⟩;refine ⟨_,rfl,G.g,dg,_,rfl,A1.sm _ _ hg,rfl,G,ds,ms ++ [(a,x)],rfl,A1,fun t4 H3 e3 h4=>?_⟩;have A3:=A1.same e3;refine ⟨_,rfl,G.g,dg,_,rfl,A3.sm _ _ hg,rfl,G,ds,ms,a,x,rfl,A3,fun H4 e4=>⟨by show 5≤sizeLine; decide,fun f nf=>?_⟩⟩;have s5:=Jf.upd (o:=.tup [.ref t1,.non,x.heard,.ref t4,YT x.p (x.m:Int) (G.zs.map (·.2)) G.gs]) nf;have e35:=e4.trans s5;exact ⟨f,t1,t4,.non,(e1.trans e3).trans e35,Jh,(e3.trans e35) _ _ h1,.inl ⟨ho,rfl⟩,e35 _ _ h4,rfl⟩
   ·have A2:=A1.same e2;refine ⟨_,rfl,G.g,dg,_,rfl,A2.sm _ _ hg,rfl,G,ds,ms,a,x,rfl,A2,?_⟩;refine ⟨_,rfl,G.g,dg,_,rfl,A2.sm _ _ hg,rfl,G,ds,ms ++ [(a,x)],rfl,A2,fun t4 H3 e3 h4=>?_⟩;have A3:=A2.same e3;refine ⟨_,rfl,G.g,dg,_,rfl,A3.sm _ _ hg,rfl,G,ds,ms,a,x,rfl,A3,fun H4 e4=>⟨by show 5≤sizeLine; decide,fun f nf=>?_⟩⟩;have s5:=Jf.upd (o:=.tup [.ref t1,.ref t2,x.heard,.ref t4,YT x.p (x.m:Int) (G.zs.map (·.2)) G.gs]) nf;have e35:=e4.trans s5;exact ⟨f,t1,t4,.ref t2,((e1.trans e2).trans e3).trans e35,Jh,((e2.trans e3).trans e35) _ _ h1,.inr ⟨ho,t2,rfl,(e3.trans e35) _ _ h2⟩,e35 _ _ h4,rfl⟩
  rintro σ1 H5 ⟨f,t1,t4,v2,e5,hf,h1,h2,h4,rfl⟩;have A5:=A0.same e5;have dmap:∀ {Hx:Hp},Jf H5 Hx→Dv Hx x v2:=fun {Hx} e=>by
   rcases h2 with h | ⟨h,t,h',q⟩
   ·exact .inl h
   ·exact .inr ⟨h,t,h',e _ _ q⟩
  refine ⟨_,rfl,_,rfl,G.g,dg,_,rfl,A5.sm _ _ hg,rfl,G,ds,ms,a,x,rfl,A5,fun H6 e6=>?_⟩;have A6:=A5.same e6;refine ⟨_,rfl,G.g,dg,_,rfl,A6.sm _ _ hg,rfl,G,ds,ms,a,x,rfl,A6,fun hn H7 e7=>⟨by show 2≤sizeLine; decide,fun g2 n2=>?_⟩,fun hn t7 H7 e7 h7=>⟨by show 2≤sizeLine; decide,fun g2 n2=>?_⟩⟩
  ·have s8:=(e6.trans e7).trans (Jf.upd (o:=.tup [.str (hs (JeK (G.zs.map (·.2)) G.gs G.c x)),.non]) n2);refine ⟨f,g2,_,_,rfl,rfl,JH.of (s8 _ _ hf),JH.of Jh,by simp,by show 7≤sizeLine; decide,(fun z=>by simp at z),fun _ s ns=>?_⟩;have s9:=s8.trans (Jf.upd (o:=.tup ([.ref t1,v2,x.heard,.ref t4,YT x.p (x.m:Int) (G.zs.map (·.2)) G.gs] ++ [.str (hs (JeK (G.zs.map (·.2)) G.gs G.c x)),.non])) ns);exact q s _ (e5.trans s9) ⟨t1,t4,v2,.non,Jh,s9 _ _ h1,dmap s9,s9 _ _ h4,.inl ⟨hn,rfl⟩⟩
  ·have s8:=e7.trans (Jf.upd (o:=.tup [.str (hs (JeK (G.zs.map (·.2)) G.gs G.c x)),.ref t7]) n2);have s68:=e6.trans s8;refine ⟨f,g2,_,_,rfl,rfl,JH.of (s68 _ _ hf),JH.of Jh,by simp,by show 7≤sizeLine; decide,(fun z=>by simp at z),fun _ s ns=>?_⟩;have s9:=Jf.upd (o:=.tup ([.ref t1,v2,x.heard,.ref t4,YT x.p (x.m:Int) (G.zs.map (·.2)) G.gs] ++ [.str (hs (JeK (G.zs.map (·.2)) G.gs G.c x)),.ref t7])) ns;have s69:=s68.trans s9;exact q s _ (e5.trans s69) ⟨t1,t4,v2,.ref t7,Jh,s69 _ _ h1,dmap s69,s69 _ _ h4,.inr ⟨hn,t7,rfl,((Jf.upd n2).trans s9) _ _ h7⟩⟩
def Jvh (K:PySem.W.Frag):Sp:=fun vs H Q _=>∃ (s1 s2:Addr) (ds1 ds2:List (Addr×List V)) (x:Mo) (zs:List (Str×Str)) (gs:List Str) (c:Int),vs=[.ref s1,.ref s2]∧S7 zs gs c H s1 ds1 x∧S7 zs gs c H s2 ds2 x∧ds1.map (·.2)=ds2.map (·.2)∧(∀ d∈ds1,H d.1=some (.tup d.2)∧d.2.length≤1000∧d.2.all Zo=true)∧(∀ d∈ds2,H d.1=some (.tup d.2))∧ds1.length≤1000∧Q (.bl true) H
theorem Jpb (T:Txt K mg):JM P w K mg base Yy 5 T.Jsi T.Jpm ["_law_found", "_law_due_here"] (Jvh K):=by
 refine T.JnQ.F.ok Jvj (fun vs H Q E h=>?_) (fun cdv A outer s H vs Q E hr h=>?_)
 ·obtain ⟨_,_,_,_,_,_,_,_,rfl,_⟩:=h;rfl
 ·obtain ⟨s1,s2,ds1,ds2,x,zs,gs,c,rfl,h1,h2,hd,f1,f2,hl,q⟩:=h;refine ⟨_,(Xh (Xl (X3 (XH (XN (XQ (Xb T.Jb5 (Jcx T) Jp (Xc (Xf (XZ 0) (Xa 0) (Xj 0)) (Xc (Xf (XZ 0) (Xa 1) (Xj 0)) (Xv 0)))) (by intro _; rfl))) (XV (XN (XQ (Xb T.Jb5 (Jcx T) Jp (Xc (Xf (XZ 0) (Xa 0) (Xj 0)) (Xc (Xf (XZ 0) (Xa 1) (Xj 0)) (Xv 0)))) (by intro _; rfl)))))) (Xn (Xq (XR 0))) (XO 0)) (Xh (Xl (X3 (XH (XN (XQ (Xb T.JcE (Jc9 T) Jp (Xc (Xf (XZ 0) (Xa 0) (Xj 0)) (Xc (Xf (XZ 0) (Xa 1) (Xj 0)) (Xv 0)))) (by intro _; rfl))) (XV (XN (XQ (Xb T.Jiu (Jm3 T) Jp (Xc (Xf (XZ 0) (Xa 0) (Xj 0)) (Xc (Xf (XZ 0) (Xa 1) (Xj 0)) (Xv 0)))) (by intro _; rfl)))))) (Xn (Xq (XR 0))) (XO 0)) (Xh (Xl (X3 (XH (XN (XQ (Xb T.JcE (Jc9 T) Jp (Xc (Xf (XZ 0) (Xa 0) (Xj 0)) (Xc (Xf (XZ 0) (Xa 1) (Xj 0)) (Xv 0)))) (by intro _; rfl))) (XV (XN (XQ (Xb T.JcE (Jc9 T) Jp (Xc (Xf (XZ 0) (Xa 0) (Xj 0)) (Xc (Xf (XZ 0) (Xa 1) (Xj 0)) (Xv 0)))) (by intro _; rfl)))))) (Xn (Xq (XR 0))) (XO 0)) (Xn (Xq (Xb T.Jb5 (Jcx T) Jp (Xc (Xf (XZ 0) (Xa 0) (Xj 0)) (Xc (Xf (XZ 0) (Xa 1) (Xj 0)) (Xv 0))))))))),?_⟩
  try dsimp only [cxK,Jcr]
  change let Bq1:=_; let Bq2:=Jl _ Bq1; let Bq3:=Jl _ Bq2; Jl _ Bq3 _ _ _;intro Bq1 Bq2 Bq3;obtain ⟨t1,t4,v2,v7,a1,a2,a3,a4,a5⟩:=h1;obtain ⟨u1,u4,w2,w7,b1,b2,b3,b4,b5⟩:=h2;have fd:=Ji0 (x:=x);refine ⟨_,rfl,s1,_,_,.ref t1,rfl,rfl,JH.of a1,rfl,_,rfl,s2,_,_,.ref u1,rfl,rfl,JH.of b1,rfl,.ref t1,.ref u1,rfl,⟨_,rfl,Yk ?_⟩,.inr ⟨t1,u1,_,rfl,rfl,JH.of a2,.inr (JH.of b2),by show 5≤1000; decide,rfl⟩⟩;refine ⟨_,rfl,s1,_,_,v2,rfl,rfl,JH.of a1,rfl,_,rfl,s2,_,_,w2,rfl,rfl,JH.of b1,rfl,v2,w2,rfl,⟨_,rfl,Yk ?_⟩,?_⟩
  rotate_left
  ·rcases a3 with ⟨ho,rfl⟩ | ⟨ho,t,rfl,ht⟩
   ·rcases b3 with ⟨_,rfl⟩ | ⟨z,_⟩
    ·exact .inl ⟨rfl,rfl⟩
    ·exact absurd ho z
   ·rcases b3 with ⟨z,_⟩ | ⟨_,u,rfl,hu⟩
    ·exact absurd z ho
    ·exact .inr ⟨t,u,_,rfl,rfl,JH.of ht,.inr (JH.of hu),by show 2≤1000; decide,by show (Zo x.hand && (Zo x.word && true))=true; rw [fd.1,fd.2.1]; rfl⟩
  have ll:ds1.length=ds2.length:=by have:=congrArg List.length hd; rwa [List.length_map,List.length_map] at this
  refine ⟨_,rfl,s1,_,_,x.heard,rfl,rfl,JH.of a1,rfl,_,rfl,s2,_,_,x.heard,rfl,rfl,JH.of b1,rfl,_,rfl,fd.2.2.1,_,rfl,Yk ?_⟩;refine ⟨_,rfl,s1,_,_,.ref t4,rfl,rfl,JH.of a1,rfl,_,rfl,s2,_,_,.ref u4,rfl,rfl,JH.of b1,rfl,t4,u4,ds1,ds2.map (·.1),rfl,a4,.inr (JH.of (by rw [b4,List.map_map]; rfl)),⟨by rw [List.length_map]; omega,fun i a d h1 h2=>?_⟩,hl,fun d hd=>⟨JH.of (f1 d hd).1,(f1 d hd).2⟩,?_⟩
  ·rw [List.getElem?_map] at h1;obtain ⟨d2,hd2,rfl⟩:=Option.map_eq_some_iff.mp h1;have e1:(ds1.map (·.2))[i]?=some d.2:=by rw [List.getElem?_map,h2]; rfl
   have e2:(ds2.map (·.2))[i]?=some d2.2:=by rw [List.getElem?_map,hd2]; rfl
   rw [hd,e2] at e1;rw [← Option.some.inj e1];exact JH.of (f2 d2 (List.mem_of_getElem? hd2))
  refine ⟨_,rfl,Yk ?_⟩;refine ⟨_,rfl,s1,_,_,YT x.p (x.m:Int) zs gs,rfl,rfl,JH.of a1,rfl,_,rfl,s2,_,_,YT x.p (x.m:Int) zs gs,rfl,rfl,JH.of b1,rfl,_,rfl,Jsl,_,rfl,Yk ?_⟩;refine ⟨_,rfl,s1,_,_,.str (hs (JeK zs gs c x)),rfl,rfl,JH.of a1,rfl,_,rfl,s2,_,_,.str (hs (JeK zs gs c x)),rfl,rfl,JH.of b1,rfl,_,rfl,rfl,_,rfl,Yk ?_⟩;refine ⟨_,rfl,s1,_,_,v7,rfl,rfl,JH.of a1,rfl,_,rfl,s2,_,_,w7,rfl,rfl,JH.of b1,rfl,v7,w7,rfl,q,?_⟩;rcases a5 with ⟨ho,rfl⟩ | ⟨ho,t,rfl,ht⟩
  ·rcases b5 with ⟨_,rfl⟩ | ⟨z,_⟩
   ·exact .inl ⟨rfl,rfl⟩
   ·exact absurd ho z
  ·rcases b5 with ⟨z,_⟩ | ⟨_,u,rfl,hu⟩
   ·exact absurd z ho
   ·exact .inr ⟨t,u,_,rfl,rfl,JH.of ht,.inr (JH.of hu),by show 2≤1000; decide,by show (Zo x.word && (Zo (Jao zs gs c x) && true))=true; rw [fd.2.1,JlH]; rfl⟩
end
section
variable {P:Program} {w:World} {K:PySem.W.Frag} {mg:Str→Option Value} {base:Heap}
def Jrt (T:Txt K mg):Sp:=fun vs H Q _=>∃ (G:Gm) (ds:List (Addr×List V)) (ms:List (Addr×Mo)) (t lt ll se lp:Addr) (ts ls ss:List Addr) (z0:Addr×Mo) (xs:List Int) (ps:List Str) (zs:List (V×(Str×Str))) (gs:List Str),vs=[.ref G.g,.ref t,.ref lt,.ref ll,.ref se,.ref lp]∧KS T G H ds ms lt ll se ts ls ss z0∧GG K G.S t ps zs gs G.ps G.zs G.gs∧H lp=some (.lst (xs.map V.int))∧lp∉[G.ld,G.lm,lt,ll,se]∧ds.length + xs.length≤900∧∀ (ds':List (Addr×List V)) (ms':List (Addr×Mo)) (ts' ls' ss':List Addr) (H':Hp),Yj [G.ld,G.lm,lt,ll,se] H H'→KS T G H' ds' ms' lt ll se ts' ls' ss' z0→ds'.length≤ds.length + xs.length→Q (.bl true) H'
theorem Jm1 (T:Txt K mg):JM P w K mg base Yy 12 T.Jla T.Jjb ["_law_game", "_law_ground_here", "_law_times", "_law_log", "_law_seen", "_law_picks"] (Jrt T):=by
 refine T.Jis.F.ok JeQ (fun vs H Q E h=>?_) (fun cdv A outer s H vs Q E hr h=>?_)
 ·obtain ⟨_,_,_,_,_,_,_,_,_,_,_,_,_,_,_,_,rfl,_⟩:=h;rfl
 ·obtain ⟨G,ds0,ms0,t,lt,ll,se,lp,ts0,ls0,ss0,z0,xs,ps,zs,gs,rfl,k0,gg,hlp,nlp,hle,q⟩:=h;have szl:sizeLine=16777216:=sizeLine_eq;refine ⟨_,(Xh (Xy PassesOwn.never (@JbG _ _ _ _ (Xa 5)) (Xk 6 JeQ.nd) (Xh (Xd 7 JeQ.nd (Xf (Xac 0) (Xa 2) (XT (@JaV _) (Xj 0)))) (Xh (XS (Xd 8 JeQ.nd (Xb T.Jki (Jm2 T) Jp (Xc (Xa 1) (Xc (Xa 7) (Xv 0)))))) (Xn (XS (Xl (XM (X9 (Xa 8)) (by first | exact YA _ (by decide) (by decide) | rfl)) (Xh (Xr (Xs PySem.F.plainAttrs_list PySem.F.slot_list_append PySem.F.type_list_append (@YH _) (Xa 4) (Xc (Xb T.JdM (JeD T) Jp (Xc (Xa 0) (Xv 0))) (Xv 0)))) (Xh (Xd 9 JeQ.nd (Xb T.JnK (JtC T) Jp (Xc (Xa 1) (Xc (Xa 7) (Xc (Xa 6) (Xv 0)))))) (Xh (Xr (Xb T.Jkj (Joi T) Za (Xc (Xa 0) (Xc (Xf (XZ 0) (Xa 8) (Xj 0)) (Xc (Xf (XZ 0) (Xa 8) (Xj 0)) (Xc (Xa 9) (Xv 0))))))) (Xh (Xr (Xs PySem.F.plainAttrs_list PySem.F.slot_list_append PySem.F.type_list_append (@YH _) (Xa 2) (Xc (Xb T.JnM (JtE T) Jp (Xc (Xa 7) (Xc (Xf (XZ 0) (Xa 8) (Xj 0)) (Xc (Xa 9) (Xv 0))))) (Xv 0)))) (Xh (Xr (Xs PySem.F.plainAttrs_list PySem.F.slot_list_append PySem.F.type_list_append (@YH _) (Xa 3) (Xc (XA (Xc (Xf (XZ 0) (Xa 8) (Xj 0)) (Xc (Xf (XZ 0) (Xa 8) (Xj 0)) (Xc (Xa 9) (Xv 0))))) (Xv 0)))) (Xn (Xl (XN (XQ (Xb T.Jiq (JmX T) Jp (Xc (Xa 0) (Xc (Xa 1) (Xc (Xf (Xac 0) (Xa 2) (XT (@JaV _) (Xj 0))) (Xc (Xw (@Jak _) T.JbJ PyProof.Rows.boot_tuple (Xc (Xa 3) (Xv 0))) (Xv 0)))))) (by intro _; rfl))) (Xn (Xq (XR 0))) (XO 0)))))))) (XO 0)))))) (by intro _; rfl)) (Xn (Xq (XR 0)))),?_⟩
  try dsimp only [cxK,Jcr]
  change let Bq1:=_; let Bq2:=_; let Bq3:=Jl _ Bq2; let Bq4:=Jl _ Bq3; let Bq5:=Jl _ Bq4; let Bq6:=Jl _ Bq5; let Bq7:=(JiL (JeN _ (Jl _ Bq6) _)); let Bq8:=Jl _ Bq7; let Bq9:=(Jl _ Bq8); Jl (Jc4 _ _ Bq9) Bq1 _ _ _;intro Bq1 Bq2 Bq3 Bq4 Bq5 Bq6 Bq7 Bq8 Bq9;let Pq:Nat→St→Hp→Prop:=fun i σ H1=>∃ (ds:List (Addr×List V)) (ms:List (Addr×Mo)) (ts ls ss:List Addr) (v6 v7 v8 v9:Option V),Yj [G.ld,G.lm,lt,ll,se] H H1∧KS T G H1 ds ms lt ll se ts ls ss z0∧ds.length≤ds0.length + i∧σ=[some (.ref G.g),some (.ref t),some (.ref lt),some (.ref ll),some (.ref se),some (.ref lp),v6,v7,v8,v9]
  refine ⟨_,rfl,lp,rfl,⟨_,JA.of hlp⟩,Jfe (xs:=xs.map V.int) Pq ⟨ds0,ms0,ts0,ls0,ss0,_,_,_,_,Yj.of (Jf.refl _),k0,by omega,rfl⟩ (fun i σ H1 _ h=>by obtain ⟨_,_,_,_,_,_,_,_,_,h,_⟩:=h; exact JA.of (h _ _ nlp hlp)) ?_ ?_⟩
  ·rintro i xv σ H1 hx ⟨ds,ms,ts,ls,ss,v6,v7,v8,v9,c1,k1,hdl,rfl⟩;rw [List.getElem?_map] at hx;obtain ⟨ce,hce,rfl⟩:=Option.map_eq_some_iff.mp hx;have hi:i < xs.length:=(List.getElem?_eq_some_iff.mp hce).1;obtain ⟨ms0,a,x,ts0,tn,rfl,rfl,tsl,htn⟩:=k1.K.last;have ok:Jds G.ps (G.zs.map (·.2)) G.gs G.c G.T x:=k1.K.A.mo (a,x) (List.mem_append_right _ (List.mem_singleton.mpr rfl));have hml:=k1.K.len;rw [List.length_append] at hml;have hml:ms0.length=ds.length:=by simpa using hml
   have ht0:=k1.K.ht;rw [List.map_append] at ht0;refine ⟨_,rfl,_,rfl,lt,_,_,.ref tn,rfl,rfl,JA.of ht0,ZV,?_⟩;let Mq:St→Hp→Prop:=fun σ1 H2=>∃ dv:V,Jf H1 H2∧((x.ph=.over∧dv=.non)∨(x.ph≠.over∧∃ tt,dv=.ref tt∧H2 tt=some (.tup [x.hand,x.word])))∧σ1=[some (.ref G.g),some (.ref t),some (.ref lt),some (.ref ll),some (.ref se),some (.ref lp),some (.int ce),some (.ref tn),some dv,v9]
   refine ⟨Mq,?_,?_⟩
   ·exact ⟨_,rfl,_,rfl,t,tn,x,ps,zs,gs,G.ps,G.zs,G.gs,G.c,G.T,rfl,htn,gg.same k1.K.A.sm,ok,fun ho H2 e2=>⟨.non,e2,.inl ⟨ho,rfl⟩,rfl⟩,fun ho tt H2 e2 htt=>⟨.ref tt,e2,.inr ⟨ho,tt,rfl,htt⟩,rfl⟩⟩
   rintro σ1 H2 ⟨dv,e2,hdv,rfl⟩;have k2:=k1.same e2;refine ⟨_,?_,fun _ _ z=>z⟩;rcases hdv with ⟨ho,rfl⟩ | ⟨ho,tt,rfl,htt⟩
   ·exact ⟨_,rfl,_,rfl,Yk ⟨ds,_,_,ls,ss,_,_,_,_,c1.trans (Yj.of e2),k2,by omega,rfl⟩⟩
   ·refine ⟨_,rfl,_,rfl,YG ⟨_,rfl,.inl ⟨rfl,_,JA.of k2.hs⟩,_,rfl,G,ds,ms0,a,x,rfl,k2.K.A,fun sn H3 e3 h7=>?_⟩⟩;have k3:=k2.same e3;have htt3:=e3 _ _ htt;have htn3:=(e2.trans e3) _ _ htn;have hsl:=k3.sl;refine ⟨se,_,.ref sn,rfl,rfl,k3.hs,by rw [List.length_map]; omega,?_⟩;obtain ⟨k4,c4,t4⟩:=k3.see (.lst (ss.map V.ref ++ [.ref sn]));have htt4:=t4 htt3;have htn4:=t4 htn3;have h74:=h7;generalize hH4:upd H3 se (.lst (ss.map V.ref ++ [.ref sn]))=H4 at k4 c4 htt4 htn4;refine ⟨_,rfl,_,rfl,_,rfl,t,tn,x,ce,ps,zs,gs,G.ps,G.zs,G.gs,G.c,G.T,rfl,htn4,gg.same k4.A.sm,ok,ho,fun v H5 e5 hv=>?_⟩;have k5:=k4.same e5;obtain ⟨y1,w1,hh,hw,ty,wo⟩:=JlJ ok ho hv gg.B;rw [hh,hw] at htt4;have htt5:=e5 _ _ htt4;refine ⟨_,rfl,_,rfl,tt,_,_,.str y1,rfl,rfl,JH.of htt5,rfl,_,rfl,tt,_,_,.str w1,rfl,rfl,JH.of htt5,rfl,_,rfl,?_⟩;refine ⟨G,ds,ms0,a,x,y1,w1,v,rfl,k5.A,by omega,by omega,ty,wo,fun z=>absurd ⟨hh,hw⟩ z,fun _ _ z=>absurd hv z,fun _ _ _ d a' H6 c6 A6=>?_⟩;have htt6:=c6.tup k5.A.lists htt5;have htn6:=c6.tup k5.A.lists (e5 _ _ htn4);have nlt:lt∉[G.ld,G.lm]:=by simp; exact ⟨fun z=>k5.n2 z.symm,fun z=>k5.n3 z.symm⟩
    have nll:ll∉[G.ld,G.lm]:=by simp; exact ⟨fun z=>k5.n4 z.symm,fun z=>k5.n5 z.symm⟩
    have ht6:=c6 _ _ nlt k5.ht;have hl6:=c6 _ _ nll k5.hl;refine ⟨_,rfl,.inl ⟨rfl,_,JA.of ht6⟩,_,rfl,_,rfl,tt,_,_,.str w1,rfl,rfl,JH.of htt6,rfl,_,rfl,tn,x,w1,v,G.zs.map (·.2),G.gs,G.c,rfl,htn6,hw,hv,(fun h hp=>fun z=>absurd (ok.e.mpr (.inr (.inl z))) (by rw [hp]; exact fun z=>nomatch z)),fun tn' H7 e7 htn7=>?_⟩;refine ⟨lt,_,.ref tn',rfl,rfl,e7 _ _ ht6,by rw [List.length_map,List.length_append]; show _ + 1 < _; omega,?_⟩;have c8:Yj [lt] H7 (upd H7 lt (.lst ((ts0 ++ [tn]).map V.ref ++ [.ref tn']))):=(Yj.of (Jf.refl _)).up (by simp);have x8:∀ x∈[lt],∃ vs,H7 x=some (.lst vs):=fun x hx=>by rw [List.mem_singleton.mp hx]; exact ⟨_,e7 _ _ ht6⟩
    have htt8:=c8.tup x8 (e7 _ _ htt6);have hl8:=c8 _ _ (by simp; exact fun z=>k5.n1 z.symm) (e7 _ _ hl6);refine ⟨_,rfl,.inl ⟨rfl,_,JA.of hl8⟩,_,rfl,tt,_,_,.str y1,rfl,rfl,JH.of htt8,rfl,_,rfl,tt,_,_,.str w1,rfl,rfl,JH.of htt8,rfl,_,rfl,by show 3≤sizeLine; decide,fun td ntd=>?_⟩;have s9:=Jf.upd (o:=.tup [.str y1,.str w1,v]) ntd;have hll:=k5.L.1;refine ⟨ll,_,.ref td,rfl,rfl,s9 _ _ hl8,by rw [List.length_map]; omega,?_⟩;obtain ⟨k10,c10⟩:=k5.more (tn':=tn') c6 A6 e7 htn7 s9 Jh hv.flat (by rw [← hh]; exact Ji0.1);have c410:=(Yj.of e5).trans c10;rw [← hH4] at c410;obtain ⟨k11,c11⟩:=k3.more h7 c410 k10 ⟨y1,w1,v,rfl,hh,hw,ho,hv,rfl⟩;generalize upd (upd (upd H7 lt (.lst ((ts0 ++ [tn]).map V.ref ++ [.ref tn']))) td (.tup [.str y1,.str w1,v])) ll (.lst (ls.map V.ref ++ [.ref td]))=H10 at k11 c11 k10 c10 c410;have cc:=(c1.trans (Yj.of (e2.trans e3))).trans c11;obtain ⟨ms9,a9,x9,ts9,tn9,em,et,tsl9,htn9⟩:=k11.K.last;have ht11:=k11.K.ht;rw [et,List.map_append] at ht11;refine ⟨_,rfl,_,rfl,_,rfl,_,rfl,lt,_,_,.ref tn9,rfl,rfl,JA.of ht11,ZV,_,rfl,ll,_,rfl,.inl ⟨JA.of k11.K.hl,fun tl ntl=>?_⟩⟩;have s12:=Jf.upd (o:=.tup ((ls ++ [td]).map V.ref)) ntl;have A11:=k11.K.A;rw [em] at A11;exact ⟨G,t,tn9,tl,a9,x9,_,ms9,ls ++ [td],ps,zs,gs,rfl,A11.same s12,s12 _ _ htn9,(gg.same A11.sm).same s12,.inr (JH.of Jh),k11.K.L.same s12,by rw [List.length_append]; show _ + 1≤_; omega,k11.K.df,fun H13 e13=>⟨_,rfl,Yk ⟨_,_,_,_,_,_,_,_,_,cc.trans (Yj.of (s12.trans e13)),k11.same (s12.trans e13),by rw [List.length_append]; show _ + 1≤_; omega,rfl⟩⟩⟩
  ·rintro σ H1 ⟨ds,ms,ts,ls,ss,v6,v7,v8,v9,c1,k1,hdl,rfl⟩;rw [List.length_map] at hdl;exact q ds ms ts ls ss H1 c1 k1 hdl
def Jtk (T:Txt K mg):Sp:=fun vs H Q _=>∃ (G:Gm) (ds:List (Addr×List V)) (ms:List (Addr×Mo)) (lt ll se:Addr) (ts ls ss:List Addr) (z0:Addr×Mo) (n:Nat),vs=[.ref G.g,.ref lt,.ref ll,.ref se,.int (n:Int)]∧KS T G H ds ms lt ll se ts ls ss z0∧n≤ds.length∧ds.length≤900∧∀ (ds':List (Addr×List V)) (ms':List (Addr×Mo)) (ts' ls' ss':List Addr) (H':Hp),Yj [G.ld,G.lm,lt,ll,se] H H'→KS T G H' ds' ms' lt ll se ts' ls' ss' z0→ds'.length + n=ds.length→Q (.bl true) H'
theorem Joj (T:Txt K mg):JM P w K mg base Yy 12 T.Jnz T.Jk0 ["_law_game", "_law_times", "_law_log", "_law_seen", "_law_many"] (Jtk T):=by
 refine T.Jkk.F.ok Joa (fun vs H Q E h=>?_) (fun cdv A outer s H vs Q E hr h=>?_)
 ·obtain ⟨_,_,_,_,_,_,_,_,_,_,_,rfl,_⟩:=h;rfl
 ·obtain ⟨G,ds0,ms0,lt,ll,se,ts0,ls0,ss0,z0,n,rfl,k0,hn,hle,q⟩:=h;have szl:sizeLine=16777216:=sizeLine_eq;refine ⟨_,(Xh (Xy PassesOwn.never (XJ T.ZD (Xc (Xa 4) (Xv 0))) (Xk 5 Joa.nd) (Xh (Xr (XU PySem.F.plainAttrs_list PySem.F.slot_list_pop PySem.F.type_list_pop (@JhF _) (Xa 1))) (Xn (Xl (X3 (XH (XN (XQ (Xb T.Jb5 (Jcx T) Jp (Xc (Xb T.Jmf (Jqg T) Jp (Xc (Xa 0) (Xv 0))) (Xc (XU PySem.F.plainAttrs_list PySem.F.slot_list_pop PySem.F.type_list_pop (@JhF _) (Xa 2)) (Xv 0)))) (by intro _; rfl))) (XV (XN (XQ (Xb T.JnQ (Jpb T) Jp (Xc (Xb T.JdM (JeD T) Jp (Xc (Xa 0) (Xv 0))) (Xc (XU PySem.F.plainAttrs_list PySem.F.slot_list_pop PySem.F.type_list_pop (@JhF _) (Xa 3)) (Xv 0)))) (by intro _; rfl)))))) (Xn (Xq (XR 0))) (XO 0)))) (by intro _; rfl)) (Xn (Xq (XR 0)))),?_⟩;change let Bq1:=_; let Bq2:=_; let Bq3:=(Jl _ Bq2); Jl (Jc4 _ _ Bq3) Bq1 _ _ _;intro Bq1 Bq2 Bq3;refine ⟨_,rfl,(n:Int),rfl,by omega,by omega,?_⟩;rw [Int.toNat_natCast];let Pq:Nat→St→Hp→Prop:=fun i σ H1=>∃ (ds:List (Addr×List V)) (ms:List (Addr×Mo)) (ts ls ss:List Addr) (v5:Option V),Yj [G.ld,G.lm,lt,ll,se] H H1∧KS T G H1 ds ms lt ll se ts ls ss z0∧ds.length + i=ds0.length∧σ=[some (.ref G.g),some (.ref lt),some (.ref ll),some (.ref se),some (.int (n:Int)),v5]
  refine Zs (n:=n) Pq ⟨ds0,ms0,ts0,ls0,ss0,_,Yj.of (Jf.refl _),k0,rfl,rfl⟩ ?_ ?_
  ·rintro i σ H1 hi ⟨ds,ms,ts,ls,ss,v5,c1,k1,hdl,rfl⟩;have hds:ds≠[]:=fun z=>by rw [z] at hdl; simp at hdl; omega
   have l1:=k1.K.L.1;have l2:=k1.sl;have l3:=k1.K.len;have l4:=k1.K.tl;have dl:0 < ds.length:=List.length_pos_iff.mpr hds;obtain ⟨dsx,d,rfl⟩:∃ ds0 d,ds=ds0 ++ [d]:=⟨_,_,(List.dropLast_concat_getLast hds).symm⟩
   obtain ⟨lsx,td,rfl⟩:∃ ls0 td,ls=ls0 ++ [td]:=⟨_,_,(List.dropLast_concat_getLast (List.length_pos_iff.mp (by omega))).symm⟩
   obtain ⟨ssx,s,rfl⟩:∃ ss0 s,ss=ss0 ++ [s]:=⟨_,_,(List.dropLast_concat_getLast (List.length_pos_iff.mp (by omega))).symm⟩
   obtain ⟨msx,m,rfl⟩:∃ ms0 m,ms=ms0 ++ [m]:=⟨_,_,(List.dropLast_concat_getLast (List.length_pos_iff.mp (by omega))).symm⟩
   obtain ⟨tsx,tn,rfl⟩:∃ ts0 tn,ts=ts0 ++ [tn]:=⟨_,_,(List.dropLast_concat_getLast (List.length_pos_iff.mp (by omega))).symm⟩
   rw [List.length_append] at hdl;have hdl:dsx.length + 1 + i=ds0.length:=hdl;have ht1:=k1.K.ht;rw [List.map_append] at ht1;refine ⟨_,rfl,.inl ⟨rfl,_,JA.of ht1⟩,lt,_,.ref tn,rfl,rfl,ht1,by simp,?_⟩;rw [List.map_singleton,List.dropLast_concat];have c3:Yj [lt] H1 (upd H1 lt (.lst (tsx.map V.ref))):=(Yj.of (Jf.refl _)).up (by simp);have A3:=k1.K.A.frame c3 (fun x hx=>by rw [List.mem_singleton.mp hx]; exact ⟨_,k1.K.ht⟩) (fun x hx=>by rw [List.mem_singleton.mp hx]; exact k1.K.nt) (fun z=>k1.K.n2 (List.mem_singleton.mp z)) (fun z=>k1.K.n3 (List.mem_singleton.mp z));refine ⟨_,rfl,G,dsx ++ [d],msx ++ [m],rfl,A3,(fun h=>absurd h (by simp)),fun ds' d' ms' m' hd' hm' H4 c4 A4=>?_,fun _=>by simp⟩;obtain ⟨q1,q2⟩:=List.append_inj' hd' rfl;obtain ⟨q3,q4⟩:=List.append_inj' hm' rfl;subst q1;subst q3;cases List.singleton_inj.mp q2;obtain ⟨k5,c5,hd4,htd4,hl4⟩:=k1.K.less c4 A4;refine ⟨_,rfl,.inl ⟨rfl,_,JA.of hl4⟩,ll,_,.ref td,rfl,rfl,hl4,by simp,?_⟩;rw [List.dropLast_concat];have c6:Yj [ll] H4 (upd H4 ll (.lst (lsx.map V.ref))):=(Yj.of (Jf.refl _)).up (by simp);have x6:∀ x∈[ll],∃ vs,H4 x=some (.lst vs):=fun x hx=>by rw [List.mem_singleton.mp hx]; exact ⟨_,hl4⟩
   have hdf:=k1.K.df d (by simp);refine ⟨.ref d.1,.ref td,rfl,⟨_,rfl,Yk ?_⟩,.inr ⟨d.1,td,d.2,rfl,rfl,JH.of (c6.tup x6 hd4),.inr (JH.of (c6.tup x6 htd4)),hdf.1,hdf.2⟩⟩;generalize upd H4 ll (.lst (lsx.map V.ref))=H5 at k5 c5;obtain ⟨ms9,a9,x9,ts9,tn9,em,et,tsl9,htn9⟩:=k5.last;have A5:=k5.A;rw [em] at A5;refine ⟨_,rfl,G,dsx,ms9,a9,x9,rfl,A5,fun s6 H6 e6 h6=>?_⟩;obtain ⟨k7,c7,hs7,h7⟩:=k1.less (c5.trans (Yj.of e6)) (k5.same e6);refine ⟨_,rfl,.inl ⟨rfl,_,JA.of hs7⟩,se,_,.ref s,rfl,rfl,hs7,by simp,?_⟩;rw [List.dropLast_concat];have c8:Yj [se] H6 (upd H6 se (.lst (ssx.map V.ref))):=(Yj.of (Jf.refl _)).up (by simp);have x8:∀ x∈[se],∃ vs,H6 x=some (.lst vs):=fun x hx=>by rw [List.mem_singleton.mp hx]; exact ⟨_,hs7⟩
   have l5:=k5.len;have hx9:msx[dsx.length]?=some (a9,x9):=by
    rw [em,List.getElem?_append_right (by rw [em,List.length_append] at l5; simp at l5; omega),show dsx.length - ms9.length=0 by rw [em,List.length_append] at l5; simp at l5; omega];rfl
   refine ⟨s6,s,dsx,dsx,x9,_,_,_,rfl,h6.map fun q=>c8.tup x8 q,(h7 _ hx9).map fun q=>c8.tup x8 q,rfl,fun y hy=>⟨k7.K.A.dt y hy,k7.K.df y hy⟩,fun y hy=>k7.K.A.dt y hy,by omega,⟨_,rfl,Yk ⟨dsx,_,_,_,_,_,c1.trans c7,k7,by omega,rfl⟩⟩⟩
  ·rintro σ H1 ⟨ds,ms,ts,ls,ss,v5,c1,k1,hdl,rfl⟩;exact q ds ms ts ls ss H1 c1 k1 hdl
end
section
variable {P:Program} {w:World} {K:PySem.W.Frag} {mg:Str→Option Value} {base:Heap}
structure SW (K:PySem.W.Frag) (H0:Hp) (pl:Addr) (ps:List Str) (H:Hp) (zs:List (V×(Str×Str))):Prop where
 sm:Jf H0 H
 at_:H pl=some (.lst (zs.map (·.1)))
 ip:ZC K H zs
 nd:(zs.map (·.2)).Nodup
 rg:∀ z∈zs,z.2.1∈ps∧z.2.2∈ps
theorem SW.add {K:PySem.W.Frag} {H0:Hp} {pl:Addr} {ps:List Str} {H H':Hp} {zs:List (V×(Str×Str))} (h:SW K H0 pl ps H zs) (n0:H0 pl=none) (e:Jf H H') {t:Addr} {a b:Str} (ht:H' t=some (.tup [.str a,.str b]))
  (hn:(a,b)∉zs.map (·.2)) (hr:a∈ps∧b∈ps):SW K H0 pl ps (upd H' pl (.lst (zs.map (·.1) ++ [.ref t]))) (zs ++ [(.ref t,(a,b))]):=by
 have hp':=e _ _ h.at_;refine ⟨fun b' u q=>?_,by rw [Jh,List.map_append]; rfl,fun z hz=>?_,?_,fun z hz=>?_⟩
 ·rw [JD (JC q n0)]; exact e _ _ (h.sm _ _ q)
 ·rcases List.mem_append.mp hz with q | q
  ·exact JfJ (Zn h.ip e) hp' z q
  ·exact JfJ (zs:=[(.ref t,(a,b))]) (fun z' hz'=>by rw [List.mem_singleton.mp hz']; exact ⟨t,rfl,JH.of ht⟩) hp' z q
 ·rw [List.map_append,List.nodup_append];refine ⟨h.nd,by simp,fun x hx y hy q=>?_⟩;have hy':y=(a,b):=by simpa using hy
  rw [q,hy'] at hx;exact hn hx
 ·rcases List.mem_append.mp hz with q | q
  ·exact h.rg z q
  ·rw [List.mem_singleton.mp q]; exact hr
theorem Jso {ps:List Str} (h:1≤ps.length):ZB (ps.map V.str) (some (-1)) none=[V.str (nm ps ((ps.length:Int) - 1))]:=by
 unfold ZB;have a1:HT.YB (ps.map V.str).length 0 (some (-1))=ps.length - 1:=by
  show (if (-1:Int) < 0 then ((-1:Int) + ((ps.map V.str).length:Int)).toNat else min (-1:Int).toNat (ps.map V.str).length)=_;rw [if_pos (by decide),List.length_map]; omega
 have hl:ps.length - 1 < (ps.map V.str).length:=by rw [List.length_map]; omega
 rw [a1,HT.JmL,List.drop_eq_getElem_cons hl,List.length_map,show ps.length - (ps.length - 1)=1 by omega];show [(ps.map V.str)[ps.length - 1]]=_;unfold nm;rw [List.getElem_map,List.getD_eq_getElem?_getD,show ((ps.length:Int) - 1).toNat=ps.length - 1 by omega,List.getElem?_eq_getElem (by omega)];rfl
def Jta (K:PySem.W.Frag):Sp:=fun vs H Q _=>∃ (a:Addr) (ns:List Int) (k:Int),vs=[.ref a,.int k]∧JA K H a (ns.map V.int)∧0≤k∧∀ t ps zs gs H',Jf H H'→Ground K H' t ps zs gs→2≤ps.length→Q (.ref t) H'
theorem JtF (T:Txt K mg):JM P w K mg base Yy 3 T.Jnu T.JkV ["_law_script", "_law_at_here"] (Jta K):=by
 refine T.JnN.F.ok Jc5 (fun vs H Q E h=>?_) (fun cdv A outer s H1 vs Q E hr h=>?_)
 ·obtain ⟨_,_,_,rfl,_⟩:=h;rfl
 ·obtain ⟨a,ns,k,rfl,hS,h0,q⟩:=h;have hu:=JgT hr;have szl:sizeLine=16777216:=sizeLine_eq;refine ⟨_,(Xh (XS (Xd 2 Jc5.nd (Xb T.Jir (JmZ T) Jp (Xc (Xb T.Z0 (ZH T) Jp (Xc (Xa 0) (Xc (Xi (X8 0) (Xa 1) (Xj 0)) (Xv 0)))) (Xc (Xi (X8 0) (Xj 0) (Xi (X7 0) (Xi (X8 0) (Xb T.Z0 (ZH T) Jp (Xc (Xa 0) (Xc (Xi (X8 0) (Xa 1) (Xj 0)) (Xv 0)))) (Xj 0)) (Xj 0))) (Xv 0)))))) (Xh (Xd 3 Jc5.nd (XX (Xv 0))) (Xh (Xy PassesOwn.never (XJ T.ZD (Xc (Xi (@YR _) (Xe (@JZ _) T.Y5 PySem.boot_len (Xc (Xa 2) (Xv 0))) (Xj 0)) (Xv 0))) (Xk 4 Jc5.nd) (Xh (Xr (Xs PySem.F.plainAttrs_list PySem.F.slot_list_append PySem.F.type_list_append (@YH _) (Xa 3) (Xc (XA (Xc (Xf (Xac 0) (Xa 2) (Xa 4)) (Xc (Xf (Xac 0) (Xa 2) (Xi (X8 0) (Xa 4) (Xj 0))) (Xv 0)))) (Xv 0)))) (Xn (Xr (Xs PySem.F.plainAttrs_list PySem.F.slot_list_append PySem.F.type_list_append (@YH _) (Xa 3) (Xc (XA (Xc (Xf (Xac 0) (Xa 2) (Xa 4)) (Xc (Xf (Xac 0) (Xa 2) (Xe (@JcD _ rfl) T.JfL PyProof.Rows.boot_max (Xc (Xj 0) (Xc (Xi (@YR _) (Xa 4) (Xj 0)) (Xv 0))))) (Xv 0)))) (Xv 0)))))) (by intro _; rfl)) (Xh (Xd 5 Jc5.nd (Xb T.Jg6 (Jhw T) Jp (Xc (Xb T.Z0 (ZH T) Jp (Xc (Xa 0) (Xc (Xi (X8 0) (Xa 1) (Xj 0)) (Xv 0)))) (Xc (Xj 0) (Xc (Xe (@JZ _) T.Y5 PySem.boot_len (Xc (Xa 2) (Xv 0))) (Xv 0)))))) (Xh (Xy PassesOwn.never (XJ T.ZD (Xc (Xi (X7 0) (Xb T.Z0 (ZH T) Jp (Xc (Xa 0) (Xc (Xa 1) (Xv 0)))) (Xj 0)) (Xv 0))) (Xk 4 Jc5.nd) (Xh (Xd 6 Jc5.nd (XA (Xc (Xf (Xac 0) (Xa 2) (Xf (Xac 0) (Xa 5) (Xi (@Jau _) (Xj 0) (Xa 4)))) (Xc (Xf (Xac 0) (Xa 2) (Xf (Xac 0) (Xa 5) (Xi (X8 0) (Xi (@Jau _) (Xj 0) (Xa 4)) (Xj 0)))) (Xv 0))))) (Xn (XS (Xl (Xo (@Jg8 _ hu) (Xa 6) (Xa 3) (by with_unfolding_all rfl)) (Xn (Xr (Xs PySem.F.plainAttrs_list PySem.F.slot_list_append PySem.F.type_list_append (@YH _) (Xa 3) (Xc (Xa 6) (Xv 0))))) (XO 0))))) (by intro _; rfl)) (Xn (Xq (XA (Xc (Xa 2) (Xc (Xa 3) (Xc (Xaa (@Jey _) (Xa 2) (@JbF _ _ _ (XT (@JaV _) (Xj 0))) (@Jgq _)) (Xv 0)))))))))))),?_⟩
  try dsimp only [cxK,Jcr]
  change let Bq1:=_; let Bq2:=_; let Bq3:=(Jl _ Bq2); let Bq4:=Jl (Jc4 _ _ Bq3) Bq1; let Bq5:=Jl _ Bq4; let Bq6:=_; let Bq7:=(Jl _ Bq6); let Bq8:=Jl (Jc4 _ _ Bq7) Bq5; let Bq9:=Jl _ Bq8; Jl _ Bq9 _ _ _;intro Bq1 Bq2 Bq3 Bq4 Bq5 Bq6 Bq7 Bq8 Bq9;let Mq:St→Hp→Prop:=fun σ1 H4=>∃ (pn:Addr) (ps:List Str),Jf H1 H4∧H4 pn=some (.lst (ps.map V.str))∧(6≤ps.length∧ps.length≤9)∧(∀ s∈ps,ZY s=true)∧ps.Nodup∧σ1=[some (.ref a),some (.int k),some (.ref pn),none,none,none,none]
  refine ⟨Mq,?_,?_⟩
  ·have hb:=Jaz (x:=Y1 ns (k + 1) + 1) (n:=4) (by decide);obtain ⟨n,hn⟩:∃ n:Nat,6 + (Y1 ns (k + 1) + 1) % 4=(n:Int):=⟨_,(Int.toNat_of_nonneg (by omega)).symm⟩
   exact ⟨_,rfl,_,rfl,_,_,rfl,rfl,a,ns,_,rfl,hS,by omega,_,rfl,_,rfl,_,_,rfl,rfl,a,ns,_,rfl,hS,by omega,_,_,rfl,rfl,_,_,rfl,rfl,(by show (0:Int) < 4; decide),_,_,rfl,rfl,_,n,(by rw [← hn]; rfl),by omega,by omega,fun pn ps H4 h1 e4 h2 h3 h4 h5=>⟨pn,ps,e4,h2,⟨by omega,by omega⟩,h4,h5,rfl⟩⟩
  rintro σ1 H4 ⟨pn,ps,e4,hpn,hpl,hpg,hpd,rfl⟩;have mem:∀ {x:Int},0≤x→x < ps.length→nm ps x∈ps:=fun h0 h1=>JhB h0 h1
  refine ⟨by show 0≤sizeLine; decide,fun pl npl=>?_⟩;have W0:SW K H4 pl ps (upd H4 pl (.lst [])) []:=⟨Jf.upd npl,Jh,(fun z hz=>nomatch hz),List.nodup_nil,(fun z hz=>nomatch hz)⟩
  generalize upd H4 pl (.lst [])=H5 at W0;have W0e:=W0.sm;refine ⟨_,rfl,pn,_,rfl,.inl (JA.of (W0.sm _ _ hpn)),_,_,rfl,rfl,((ps.map V.str).length:Int) - 1,rfl,by rw [List.length_map]; omega,by rw [List.length_map]; omega,?_⟩;rw [List.length_map,show ((ps.length:Int) - 1).toNat=ps.length - 1 by omega];refine Zs (n:=ps.length - 1) (fun i σ H6=>∃ zs v4,SW K H4 pl ps H6 zs∧zs.length=2 * i∧(∀ z∈zs,∃ j:Int,0≤j∧j < (i:Int)∧z.2.1=nm ps j)∧σ=[some (.ref a),some (.int k),some (.ref pn),some (.ref pl),v4,none,none]) ⟨[],none,W0,rfl,(fun z hz=>nomatch hz),rfl⟩ ?_ ?_
  ·rintro i σ H6 hi ⟨zs,v4,W,hl,hz,rfl⟩;have i0:0≤0 + (i:Int):=by omega
   have i1:0 + (i:Int) < ps.length:=by omega
   have hpn6:=W.sm _ _ hpn;refine ⟨_,rfl,.inl ⟨rfl,_,JA.of W.at_⟩,_,rfl,_,rfl,pn,_,_,_,rfl,rfl,JA.of hpn6,Jdx i0 i1,_,rfl,_,rfl,_,_,rfl,rfl,pn,_,_,_,rfl,rfl,JA.of hpn6,Jdx (by omega) (show 0 + (i:Int) + 1 < ps.length by omega),by show 2≤sizeLine; omega,fun t1 n1=>⟨pl,_,_,rfl,rfl,(Jf.upd n1) _ _ W.at_,by rw [List.length_map]; omega,?_⟩⟩;have W1:=W.add npl (Jf.upd n1) (t:=t1) (a:=nm ps (0 + (i:Int))) (b:=nm ps (0 + (i:Int) + 1)) Jh (fun q=>by
    obtain ⟨z,h1,h2⟩:=List.mem_map.mp q;obtain ⟨j,j0,j1,hj⟩:=hz z h1;rw [h2] at hj;have:=Jgv hpd i0 i1 j0 (by omega) hj;omega) ⟨mem i0 i1,mem (by omega) (by omega)⟩
   refine ⟨_,rfl,.inl ⟨rfl,_,JA.of W1.at_⟩,_,rfl,_,rfl,pn,_,_,_,rfl,rfl,JA.of (W1.sm _ _ hpn),Jdx i0 i1,_,rfl,_,rfl,_,_,rfl,rfl,_,_,rfl,pn,_,_,_,rfl,rfl,JA.of (W1.sm _ _ hpn),Jdx (x:=if 0 + (i:Int) - 1 > 0 then 0 + (i:Int) - 1 else 0) (by split <;> omega) (by split <;> omega),by show 2≤sizeLine; omega,fun t2 n2=>⟨pl,_,_,rfl,rfl,(Jf.upd n2) _ _ W1.at_,by rw [List.length_map,List.length_append]; show _ + 1 < _; omega,?_⟩⟩;have W2:=W1.add npl (Jf.upd n2) (t:=t2) (a:=nm ps (0 + (i:Int))) (b:=nm ps (if 0 + (i:Int) - 1 > 0 then 0 + (i:Int) - 1 else 0)) Jh (fun q=>by
    rw [List.map_append,List.mem_append] at q;rcases q with q | q
    ·obtain ⟨z,h1,h2⟩:=List.mem_map.mp q;obtain ⟨j,j0,j1,hj⟩:=hz z h1;rw [h2] at hj;have:=Jgv hpd i0 i1 j0 (by omega) hj;omega
    ·have e:=congrArg Prod.snd (List.mem_singleton.mp q);have e:nm ps (if 0 + (i:Int) - 1 > 0 then 0 + (i:Int) - 1 else 0)=nm ps (0 + (i:Int) + 1):=e;have:=Jgv hpd (x:=if 0 + (i:Int) - 1 > 0 then 0 + (i:Int) - 1 else 0) (by split <;> omega) (by split <;> omega) (show 0≤0 + (i:Int) + 1 by omega) (by omega) e;split at this <;> omega) ⟨mem i0 i1,mem (by split <;> omega) (by split <;> omega)⟩
   refine ⟨_,_,W2,by simp [hl]; omega,fun z hz2=>?_,rfl⟩;rcases List.mem_append.mp hz2 with q | q
   ·rcases List.mem_append.mp q with q | q
    ·obtain ⟨j,j0,j1,hj⟩:=hz z q;exact ⟨j,j0,by omega,hj⟩
    ·rw [List.mem_singleton.mp q]; exact ⟨0 + (i:Int),i0,by omega,rfl⟩
   ·rw [List.mem_singleton.mp q]; exact ⟨0 + (i:Int),i0,by omega,rfl⟩
  ·rintro σ H6 ⟨zs,v4,W,hl,_,rfl⟩;refine ⟨_,rfl,_,rfl,_,_,rfl,rfl,a,ns,_,rfl,(e4.trans W.sm).seq hS,by omega,_,rfl,pn,_,rfl,.inl (JA.of (W.sm _ _ hpn)),_,4,_,rfl,by decide,by rw [List.length_map]; omega,by rw [List.length_map]; omega,fun pe xs H7 npe e7 hpe hxl hxb=>?_⟩;have hb:=Jaz (x:=Y1 ns k) (n:=3) (by decide);refine ⟨_,rfl,_,rfl,a,ns,k,rfl,((e4.trans W.sm).trans e7).seq hS,h0,_,_,rfl,rfl,(by show (0:Int) < 3; decide),Y1 ns k % 3,rfl,by omega,by omega,?_⟩;have W7:SW K H4 pl ps H7 zs:=⟨W.sm.trans e7,e7 _ _ W.at_,Zn W.ip e7,W.nd,W.rg⟩
   have npe4:∀ {H8:Hp},Jf H6 H8→H8 pl≠none:=fun e h=>by rw [e _ _ W.at_] at h; cases h
   have nep:pe≠pl:=fun z=>by rw [z,W.at_] at npe; cases npe
   obtain ⟨m,hm⟩:∃ m:Nat,(Y1 ns k % 3).toNat=m:=⟨_,rfl⟩
   rw [hm];refine Zs (n:=m) (fun i σ H8=>∃ zs v4 v6,SW K H4 pl ps H8 zs∧H8 pe=some (.lst (xs.map V.int))∧zs.length≤2 * (ps.length - 1) + i∧σ=[some (.ref a),some (.int k),some (.ref pn),some (.ref pl),v4,some (.ref pe),v6]) ⟨zs,_,none,W7,hpe,by omega,rfl⟩ ?_ ?_
   ·rintro i σ H8 hi ⟨zs,v4,v6,W,hpe8,hl,rfl⟩;rw [List.length_map] at hxb;obtain ⟨y1,a1,m1⟩:=JcB (xs:=xs) (e:=2 * (0 + (i:Int))) (by omega) (by omega);obtain ⟨y2,a2,m2⟩:=JcB (xs:=xs) (e:=2 * (0 + (i:Int)) + 1) (by omega) (by omega);have b1:=hxb _ m1;have b2:=hxb _ m2;have hpn8:=W.sm _ _ hpn;refine ⟨_,rfl,_,rfl,_,rfl,_,_,rfl,rfl,.inl ⟨by decide,by decide⟩,pe,_,_,.int y1,rfl,rfl,JA.of hpe8,a1,pn,_,_,_,rfl,rfl,JA.of hpn8,Jdx b1.1 b1.2,_,rfl,_,rfl,_,rfl,_,_,rfl,rfl,.inl ⟨by decide,by decide⟩,_,_,rfl,rfl,pe,_,_,.int y2,rfl,rfl,JA.of hpe8,a2,pn,_,_,_,rfl,rfl,JA.of hpn8,Jdx b2.1 b2.2,by show 2≤sizeLine; omega,fun t1 n1=>?_⟩;have s1:=Jf.upd (o:=.tup [.str (nm ps y1),.str (nm ps y2)]) n1;refine ⟨fun σ1 H9=>∃ zs v4 v6,SW K H4 pl ps H9 zs∧H9 pe=some (.lst (xs.map V.int))∧zs.length≤2 * (ps.length - 1) + (i + 1)∧σ1=[some (.ref a),some (.int k),some (.ref pn),some (.ref pl),v4,some (.ref pe),v6],?_,fun _ _ z=>z⟩;have tu:=JjJ (Zn W.ip s1);refine ⟨_,rfl,_,rfl,t1,pl,_,JiV (nm ps y1,nm ps y2),_,rfl,rfl,JH.of Jh,JA.of (s1 _ _ W.at_),tu,_,rfl,YW (fun hc=>?_) (fun hc=>?_)⟩
    ·rw [if_pos rfl,Bool.not_eq_true',decide_eq_false_iff_not] at hc;have W2:=W.add npl s1 (t:=t1) (a:=nm ps y1) (b:=nm ps y2) Jh (fun q=>hc (List.mem_map.mpr ⟨_,q,rfl⟩)) ⟨mem b1.1 b1.2,mem b2.1 b2.2⟩;exact ⟨_,rfl,.inl ⟨rfl,_,JA.of (s1 _ _ W.at_)⟩,_,rfl,pl,_,_,rfl,rfl,s1 _ _ W.at_,by rw [List.length_map]; omega,_,_,_,W2,by rw [JD nep]; exact s1 _ _ hpe8,by simp; omega,rfl⟩
    ·exact ⟨zs,_,_,⟨W.sm.trans s1,s1 _ _ W.at_,Zn W.ip s1,W.nd,W.rg⟩,s1 _ _ hpe8,by omega,rfl⟩
   ·rintro σ H8 ⟨zs,v4,v6,W,hpe8,hl,rfl⟩;refine ⟨_,rfl,_,rfl,_,rfl,_,rfl,_,rfl,pn,_,rfl,JA.of (W.sm _ _ hpn),fun pg ng=>?_⟩;refine ⟨by show 3≤sizeLine; omega,fun t nt=>?_⟩;have s9:=(Jf.upd (o:=.lst (ZB (ps.map V.str) (some (-1)) none)) ng).trans (Jf.upd (o:=.tup [.ref pn,.ref pl,.ref pg]) nt);have G9:Ground K (upd (upd H8 pg (.lst (ZB (ps.map V.str) (some (-1)) none))) t (.tup [.ref pn,.ref pl,.ref pg])) t ps zs [nm ps ((ps.length:Int) - 1)]:=by
     refine ⟨⟨by omega,by omega,hpg,hpd,by rw [List.length_map]; omega,fun z hz=>?_,W.nd,fun g hg=>?_,by simp⟩,pn,pl,pg,Jh,s9 _ _ (W.sm _ _ hpn),s9 _ _ W.at_,Zn W.ip s9,?_⟩
     ·obtain ⟨y,hy,rfl⟩:=List.mem_map.mp hz;exact W.rg y hy
     ·rw [List.mem_singleton.mp hg]; exact mem (by omega) (by omega)
     ·refine (Jf.upd nt) _ _ ?_;rw [Jh,Jso (by omega)]; rfl
    exact q t ps zs [nm ps ((ps.length:Int) - 1)] _ ((e4.trans W.sm).trans s9) G9 (by omega)
end
section
variable {P:Program} {w:World} {K:PySem.W.Frag} {mg:Str→Option Value} {base:Heap}
def Op (ps:List Str) (H:Hp) (tn:Addr) (p:Str) (m:Nat) (n c:Int) (r:Bool):Prop:=p∈ps∧m≤30∧(0≤n∧n≤c)∧c≤20∧H tn=some (.tup [.str p,.int (m:Int),.int n,.int (c - n),.str (hs r),.non,.str ""])
theorem JuG (T:Txt K mg):JM P w K mg base Yy 14 T.Jpr T.Jnl ["_law_script"] (JoQ K):=by
 refine T.JsX.F.ok ZJ (fun vs H Q E h=>?_) (fun cdv A outer s H vs Q E hr h=>?_)
 ·obtain ⟨_,_,rfl,_⟩:=h;rfl
 ·obtain ⟨a,ns,rfl,hS,hl,q⟩:=h;have szl:sizeLine=16777216:=sizeLine_eq;refine ⟨_,(Xh (Xd 1 ZJ.nd (Xb T.Jjr (Jqh T) Jp (Xc (Xa 0) (Xc (Xj 0) (Xv 0))))) (Xh (Xd 2 ZJ.nd (Xb T.Jh9 (Jpa T) Jp (Xc (Xa 0) (Xc (Xa 1) (Xc (Xj 0) (Xv 0)))))) (Xh (Xd 3 ZJ.nd (Xb T.Z0 (ZH T) Jp (Xc (Xa 0) (Xc (Xj 0) (Xv 0))))) (Xh (XS (Xd 4 ZJ.nd (Xi (X7 0) (Xi (X8 0) (Xi (@YJ _) (Xa 3) (Xj 0)) (Xj 0)) (Xj 0)))) (Xh (XS (Xl (Xo (Xab 0) (Xi (X7 0) (Xa 3) (Xj 0)) (Xj 0) (JJ _)) (Xh (Xd 1 ZJ.nd (Xb T.JnN (JtF T) Jp (Xc (Xa 0) (Xc (Xj 0) (Xv 0))))) (Xh (Xd 4 ZJ.nd (Xi (@YR _) (Xj 0) (Xi (X7 0) (Xi (@YJ _) (Xa 3) (Xj 0)) (Xj 0)))) (Xh (Xd 5 ZJ.nd (Xf (Xac 0) (Xf (XZ 0) (Xa 1) (Xj 0)) (Xi (X7 0) (Xb T.Z0 (ZH T) Jp (Xc (Xa 0) (Xc (Xj 0) (Xv 0)))) (Xi (@YR _) (Xe (@JZ _) T.Y5 PySem.boot_len (Xc (Xf (XZ 0) (Xa 1) (Xj 0)) (Xv 0))) (Xj 0))))) (Xn (Xd 2 ZJ.nd (XA (Xc (Xa 5) (Xc (Xi (@YR _) (Xj 0) (Xi (X7 0) (Xb T.Z0 (ZH T) Jp (Xc (Xa 0) (Xc (Xj 0) (Xv 0)))) (Xj 0))) (Xc (Xi (X7 0) (Xf (XZ 0) (Xa 2) (Xj 0)) (Xj 0)) (Xc (Xi (X7 0) (Xf (XZ 0) (Xa 2) (Xj 0)) (Xj 0)) (Xc (Xf (XZ 0) (Xa 2) (Xj 0)) (Xc (XW 0) (Xc (Xx 0) (Xv 0)))))))))))))) (XO 0))) (Xh (XS (Xd 6 ZJ.nd (Xu T.Jm7 (Jma T) T.JoB T.JfF.b .nil Jp (Xc (Xw (@Jfy _) T.JjP PyProof.Rows.boot_list (Xc (Xf (XZ 0) (Xa 1) (Xj 0)) (Xv 0))) (Xc (Xw (@Jfy _) T.JjP PyProof.Rows.boot_list (Xc (Xf (XZ 0) (Xa 1) (Xj 0)) (Xv 0))) (Xc (Xw (@Jfy _) T.JjP PyProof.Rows.boot_list (Xc (Xf (XZ 0) (Xa 1) (Xj 0)) (Xv 0))) (Xv 0))))))) (Xh (XS (Xd 7 ZJ.nd (Xu T.JkM (Jhy T) T.JnB T.JdD.b .nil Za (Xc (Xa 6) (Xc (Xf (XZ 0) (Xa 2) (Xj 0)) (Xc (Xf (XZ 0) (Xa 2) (Xj 0)) (Xc (Xf (XZ 0) (Xa 2) (Xj 0)) (Xc (Xf (XZ 0) (Xa 2) (Xj 0)) (Xc (Xf (XZ 0) (Xa 2) (Xj 0)) (Xv 0)))))))))) (Xh (Xd 8 ZJ.nd (Xb T.Jg6 (Jhw T) Jp (Xc (Xb T.Z0 (ZH T) Jp (Xc (Xa 0) (Xc (Xj 0) (Xv 0)))) (Xc (Xj 0) (Xc (Xj 0) (Xv 0)))))) (Xh (Xd 9 ZJ.nd (XX (Xc (Xa 2) (Xv 0)))) (Xh (Xd 10 ZJ.nd (XX (Xv 0))) (Xh (Xd 11 ZJ.nd (XX (Xv 0))) (Xh (Xl (XN (XQ (Xb T.Jis (Jm1 T) Jp (Xc (Xa 7) (Xc (Xa 1) (Xc (Xa 9) (Xc (Xa 10) (Xc (Xa 11) (Xc (Xaa (@Jey _) (Xa 8) (@Jgq _) (@JbF _ _ _ (Xa 4))) (Xv 0)))))))) (by intro _; rfl))) (Xn (Xq (XR 0))) (XO 0)) (Xh (Xl (XN (XQ (Xb T.Jkk (Joj T) Jp (Xc (Xa 7) (Xc (Xa 9) (Xc (Xa 10) (Xc (Xa 11) (Xc (Xi (X7 0) (Xi (X8 0) (Xb T.Z0 (ZH T) Jp (Xc (Xa 0) (Xc (Xj 0) (Xv 0)))) (Xj 0)) (Xi (X8 0) (Xe (@JZ _) T.Y5 PySem.boot_len (Xc (Xa 10) (Xv 0))) (Xj 0))) (Xv 0))))))) (by intro _; rfl))) (Xn (Xq (XR 0))) (XO 0)) (Xh (Xl (XN (XQ (Xb T.Jis (Jm1 T) Jp (Xc (Xa 7) (Xc (Xa 1) (Xc (Xa 9) (Xc (Xa 10) (Xc (Xa 11) (Xc (Xaa (@Jey _) (Xa 8) (@JbF _ _ _ (Xj 0)) (@JbF _ _ _ (Xi (X8 0) (Xj 0) (Xi (X7 0) (Xi (X8 0) (Xb T.Z0 (ZH T) Jp (Xc (Xa 0) (Xc (Xj 0) (Xv 0)))) (Xj 0)) (Xj 0))))) (Xv 0)))))))) (by intro _; rfl))) (Xn (Xq (XR 0))) (XO 0)) (Xh (XS (Xd 12 ZJ.nd (Xu T.JkM (Jhy T) T.JnB T.JdD.b .nil Za (Xc (Xa 6) (Xc (Xf (XZ 0) (Xa 2) (Xj 0)) (Xc (Xf (XZ 0) (Xa 2) (Xj 0)) (Xc (Xf (XZ 0) (Xa 2) (Xj 0)) (Xc (Xf (XZ 0) (Xa 2) (Xj 0)) (Xc (Xf (XZ 0) (Xa 2) (Xj 0)) (Xv 0)))))))))) (Xh (Xy PassesOwn.never (@JbG _ _ _ _ (Xa 10)) (Xk 13 ZJ.nd) (Xn (Xr (Xb T.Jkj (Joi T) Za (Xc (Xa 12) (Xc (Xf (XZ 0) (Xa 13) (Xj 0)) (Xc (Xf (XZ 0) (Xa 13) (Xj 0)) (Xc (Xf (XZ 0) (Xa 13) (Xj 0)) (Xv 0)))))))) (by intro _; rfl)) (Xh (Xl (X3 (XH (XN (XQ (Xb T.JnQ (Jpb T) Jp (Xc (Xb T.JdM (JeD T) Jp (Xc (Xa 7) (Xv 0))) (Xc (Xb T.JdM (JeD T) Jp (Xc (Xa 12) (Xv 0))) (Xv 0)))) (by intro _; rfl))) (XV (XN (XQ (Xb T.Jkk (Joj T) Jp (Xc (Xa 7) (Xc (Xa 9) (Xc (Xa 10) (Xc (Xa 11) (Xc (Xe (@JZ _) T.Y5 PySem.boot_len (Xc (Xa 10) (Xv 0))) (Xv 0))))))) (by intro _; rfl)))))) (Xn (Xq (XR 0))) (XO 0)) (Xh (XS (Xd 14 ZJ.nd (Xb T.JdM (JeD T) Jp (Xc (Xa 7) (Xv 0))))) (Xh (Xl (XN (XQ (Xb T.Jb5 (Jcx T) Jp (Xc (Xb T.Jmf (Jqg T) Jp (Xc (Xa 7) (Xv 0))) (Xc (XA (Xc (Xx 0) (Xc (Xx 0) (Xv 0)))) (Xv 0)))) (by intro _; rfl))) (Xn (Xq (XR 0))) (XO 0)) (Xn (Xq (@JjI _ _ _ _ _ _ _ (Xb T.JnQ (Jpb T) Jp (Xc (Xb T.JdM (JeD T) Jp (Xc (Xa 7) (Xv 0))) (Xc (Xa 14) (Xv 0)))) (@JjG _ _ _ _ _ (Xb T.Jiq (JmX T) Jp (Xc (Xa 7) (Xc (Xa 1) (Xc (Xa 2) (Xc (XA (Xv 0)) (Xv 0))))))))))))))))))))))))))))),?_⟩
  try dsimp only [cxK,Jcr]
  change let Bq1:=_; let Bq2:=Jl _ Bq1; let Bq3:=Jl _ Bq2; let Bq4:=Jl _ Bq3; let Bq5:=Jl _ Bq4; let Bq6:=Jl _ Bq5; let Bq7:=Jl _ Bq6; let Bq8:=Jl _ Bq7; let Bq9:=Jl _ Bq8; let Bq10:=Jl _ Bq9; let Bq11:=Jl _ Bq10; let Bq12:=Jl _ Bq11; let Bq13:=Jl _ Bq12; let Bq14:=Jl _ Bq13; let Bq15:=Jl _ Bq14; let Bq16:=_; let Bq17:=Jl _ Bq16; let Bq18:=Jl _ Bq17; let Bq19:=Jl (JiL (JeN _ (Jl _ Bq18) _)) Bq15; let Bq20:=Jl _ Bq19; let Bq21:=Jl _ Bq20; let Bq22:=Jl _ Bq21; Jl _ Bq22 _ _ _;intro Bq1 Bq2 Bq3 Bq4 Bq5 Bq6 Bq7 Bq8 Bq9 Bq10 Bq11 Bq12 Bq13 Bq14 Bq15 Bq16 Bq17 Bq18 Bq19 Bq20 Bq21 Bq22;refine ⟨_,rfl,a,ns,0,rfl,hS,by decide,fun t0 ps0 zs0 gs0 H1 e1 G0=>?_⟩;refine ⟨_,rfl,_,rfl,a,t0,ns,5,ps0,zs0,gs0,rfl,e1.seq hS,by decide,G0,fun tn0 p0 m0 n0 c0 r0 H2 e2 hpm0 hm0 hn0 hc0 htn0=>?_⟩;have s02:=e1.trans e2;refine ⟨_,rfl,a,ns,10,rfl,s02.seq hS,by decide,?_⟩;generalize Y1 ns 10=ce;let Mq:St→Hp→Prop:=fun σ1 H3=>∃ mv:Int,H3=H2∧(0≤mv∧mv≤90)∧σ1=[some (.ref a),some (.ref t0),some (.ref tn0),some (.int ce),some (.int mv),none,none,none,none,none,none,none,none,none,none]
  refine ⟨Mq,?_,?_⟩
  ·have hb:=Jaz (x:=ce / 5 + 9) (n:=15) (by decide);exact ⟨_,rfl,_,_,rfl,rfl,⟨by decide,by decide⟩,_,_,rfl,rfl,_,_,rfl,rfl,(by show (0:Int) < 15; decide),_,rfl,⟨hb.1,by omega⟩,rfl⟩
  rintro σ1 H3 ⟨mv0,rfl,hmv0,rfl⟩;let Mq:St→Hp→Prop:=fun σ1 H4=>∃ (t tn:Addr) (ps:List Str) (zs:List (V×(Str×Str))) (gs:List Str) (p:Str) (m:Nat) (n c:Int) (r:Bool) (mv:Int) (v5:Option V),Jf H3 H4∧Ground K H4 t ps zs gs∧Op ps H4 tn p m n c r∧(0≤mv∧mv≤90)∧σ1=[some (.ref a),some (.ref t),some (.ref tn),some (.int ce),some (.int mv),v5,none,none,none,none,none,none,none,none,none]
  refine ⟨Mq,?_,?_⟩
  ·refine ⟨_,rfl,_,_,rfl,rfl,(by show (0:Int) < 5; decide),rfl,_,rfl,YW (fun _=>?_) (fun _=>?_)⟩
   ·refine ⟨_,rfl,a,ns,0,rfl,s02.seq hS,by decide,fun t ps zs gs H4 e4 G hp2=>?_⟩;have hb:=Jaz (x:=ce / 5) (n:=50) (by decide);refine ⟨_,rfl,_,_,rfl,rfl,⟨by decide,by decide⟩,_,_,rfl,rfl,(by show (0:Int) < 50; decide),_,_,rfl,rfl,?_⟩;obtain ⟨pn,pl,pg,g1,g2,_⟩:=G.at_;have s04:=s02.trans e4;have hpl:((ps.map V.str).length:Int)=(ps.length:Int):=by rw [List.length_map]
    obtain ⟨p,hp,hpm⟩:∃ p,atI (ps.map V.str) (Y1 ns 5 % (((ps.map V.str).length:Int) - 1))=some (.str p)∧p∈ps:=by
     have hb5:=Jaz (x:=Y1 ns 5) (n:=((ps.map V.str).length:Int) - 1) (by omega);have hj:(Y1 ns 5 % (((ps.map V.str).length:Int) - 1)).toNat < ps.length:=by omega
     refine ⟨ps[(Y1 ns 5 % (((ps.map V.str).length:Int) - 1)).toNat],?_,List.getElem_mem hj⟩;have:=Zt (xs:=ps.map V.str) (j:=(Y1 ns 5 % (((ps.map V.str).length:Int) - 1)).toNat) (v:=.str ps[(Y1 ns 5 % (((ps.map V.str).length:Int) - 1)).toNat]) (by rw [List.getElem?_map,List.getElem?_eq_getElem hj]; rfl);rwa [Int.toNat_of_nonneg hb5.1] at this
    refine ⟨_,rfl,t,_,_,.ref pn,rfl,rfl,JH.of g1,rfl,_,rfl,a,ns,5,rfl,s04.seq hS,by decide,_,rfl,t,_,_,.ref pn,rfl,rfl,JH.of g1,rfl,pn,_,rfl,.inl (JA.of g2),_,_,rfl,rfl,_,_,rfl,rfl,(by show (0:Int) < ((ps.map V.str).length:Int) - 1; omega),pn,_,_,.str p,rfl,rfl,JA.of g2,hp,?_⟩;have hb7:=Jaz (x:=Y1 ns 7) (n:=5) (by decide);have hbn:=Jaz (x:=n0) (n:=5) (by decide);have hbs:=Jaz (x:=c0 - n0) (n:=5) (by decide);have ht4:=e4 _ _ htn0;refine ⟨_,rfl,_,rfl,a,ns,7,rfl,s04.seq hS,by decide,_,_,rfl,rfl,(by show (0:Int) < 5; decide),_,_,rfl,rfl,_,rfl,tn0,_,_,.int n0,rfl,rfl,JH.of ht4,rfl,_,_,rfl,rfl,(by show (0:Int) < 5; decide),_,rfl,tn0,_,_,.int (c0 - n0),rfl,rfl,JH.of ht4,rfl,_,_,rfl,rfl,(by show (0:Int) < 5; decide),_,rfl,tn0,_,_,.str (hs r0),rfl,rfl,JH.of ht4,rfl,by show 7≤sizeLine; decide,fun tn ntn=>?_⟩;refine ⟨t,tn,ps,zs,gs,p,(30 - Y1 ns 7 % 5).toNat,n0 % 5,n0 % 5 + (c0 - n0) % 5,r0,90 - ce / 5 % 50,_,e4.trans (Jf.upd ntn),G.same (Jf.upd ntn),⟨hpm,by omega,⟨hbn.1,by omega⟩,by omega,?_⟩,⟨by omega,by omega⟩,rfl⟩;rw [Jh,show ((30 - Y1 ns 7 % 5).toNat:Int)=30 - Y1 ns 7 % 5 by omega,show n0 % 5 + (c0 - n0) % 5 - n0 % 5=(c0 - n0) % 5 by omega]
   ·exact ⟨t0,tn0,ps0,zs0,gs0,p0,m0,n0,c0,r0,mv0,_,Jf.refl _,G0.same e2,⟨hpm0,hm0,hn0,hc0,htn0⟩,hmv0,rfl⟩
  rintro σ1 H4 ⟨t,tn,ps,zs,gs,p,m,n,c,r,mv,v5,e4,G,⟨hpm,hm,hn,hc,htn⟩,hmv,rfl⟩;have s04:=s02.trans e4
  try clear G0 htn0 e2 e1 s02 hpm0 hm0 hn0 hc0 hmv0 e4
  let Mq:St→Hp→Prop:=fun σ1 H5=>∃ (b:Addr) (ps':List Str) (zs':List (V×(Str×Str))) (gs':List Str),Jf H4 H5∧Bd K T.JU H5 b ps' zs' gs'∧(ps'.Perm ps∧zs'.Perm zs∧gs'.Perm gs)∧(zs'.map (·.2)).Pairwise ple∧σ1=[some (.ref a),some (.ref t),some (.ref tn),some (.int ce),some (.int mv),v5,some (.ref b),none,none,none,none,none,none,none,none]
  refine ⟨Mq,?_,?_⟩
  ·skip
   obtain ⟨pn,pl,pg,g1,g2,g3,g4,g5⟩:=(G).at_;refine ⟨_,rfl,t,_,_,.ref pn,rfl,rfl,JH.of g1,rfl,pn,_,rfl,.inl (JA.of g2),fun l1 n1=>?_⟩;have f2:=Jf.upd (o:=.lst (ps.map V.str)) n1;refine ⟨_,rfl,t,_,_,.ref pl,rfl,rfl,JH.of (f2 _ _ g1),rfl,pl,_,rfl,.inl (JA.of (f2 _ _ g3)),fun l2 n2=>?_⟩;have f3:=f2.trans (Jf.upd (o:=.lst (zs.map (·.1))) n2);refine ⟨_,rfl,t,_,_,.ref pg,rfl,rfl,JH.of (f3 _ _ g1),rfl,pg,_,rfl,.inl (JA.of (f3 _ _ g5)),fun l3 n3=>?_⟩;have f4:=f3.trans (Jf.upd (o:=.lst (gs.map V.str)) n3);refine fun b dx nx ndx hne=>Jph f4 (((Jf.upd n2).trans (Jf.upd n3)) _ _ Jh) ((Jf.upd n3) _ _ Jh) Jh (Zn g4 f4) (G).good nx ndx fun ps' zs' gs' H2 e2 B pp ps3 zp zs3 gp gs3=>⟨rfl,?_⟩
   try clear hne f4 f3 f2 g1 g2 g3 g4 g5 n1 n2 n3 nx ndx pn pl pg l1 l2 l3 dx
   exact ⟨b,ps',zs',gs',e2,B,⟨pp,zp,gp⟩,zs3,rfl⟩
  rintro σ1 H5 ⟨b,ps',zs',gs',e5,B,⟨pp,zp,gp⟩,zs3,rfl⟩;have gg5:GG K H5 t ps zs gs ps' zs' gs':=⟨G.same e5,pp,zp,gp,zs3,B.G⟩
  have s05:=s04.trans e5;have htn5:=e5 _ _ htn;have hp':p∈ps':=pp.mem_iff.mpr hpm;let Mq:St→Hp→Prop:=fun σ1 H6=>∃ (g:Addr) (S:Hp) (k ld lm a0:Addr),Jf H5 S∧J0 T ⟨S,g,b,k,ld,lm,ps',zs',gs',c,m⟩ H6 [] ([] ++ [(a0,ZS (zs'.map (·.2)) gs' p m n r)])∧σ1=[some (.ref a),some (.ref t),some (.ref tn),some (.int ce),some (.int mv),v5,some (.ref b),some (.ref g),none,none,none,none,none,none,none]
  refine ⟨Mq,?_,?_⟩
  ·skip
   refine ⟨_,rfl,_,rfl,tn,_,_,.str p,rfl,rfl,JH.of htn5,rfl,_,rfl,tn,_,_,.int (m:Int),rfl,rfl,JH.of htn5,rfl,_,rfl,tn,_,_,.int n,rfl,rfl,JH.of htn5,rfl,_,rfl,tn,_,_,.int (c - n),rfl,rfl,JH.of htn5,rfl,_,rfl,tn,_,_,.str (hs r),rfl,rfl,JH.of htn5,rfl,fun g dx nx ndx hne=>JlA B (Zc ((B).G.p3 _ hp')) (Zp r) nx ndx (fun H' _=>Jlr T ⟨hp',⟨by omega,by omega⟩,⟨by omega,by omega,by omega⟩,Zk r⟩) fun _ _ _ r' hr' S k ld lm a0 H6 e6 A6=>⟨rfl,?_⟩⟩;obtain rfl:=Zf hr';rw [show n + (c - n)=c by omega,Int.toNat_natCast] at A6
   try clear hne nx ndx dx hr'
   exact ⟨g,S,k,ld,lm,a0,e6,A6,rfl⟩
  rintro σ1 H6 ⟨g,S,k,ld,lm,a0,e6,A6,rfl⟩;have e56:=e6.trans A6.sm;generalize hmo:ZS (zs'.map (·.2)) gs' p m n r=mo at A6;have htn6:H6 tn=some (.tup (Jbx c mo)):=by rw [← hmo,Jly]; exact e56 _ _ htn5
  refine ⟨_,rfl,a,ns,13,rfl,(s05.trans e56).seq hS,by decide,_,104,252,rfl,by decide,by decide,by decide,fun lp xs H7 nlp e7 hlp hxl hxb=>?_⟩;have A7:=A6.same e7;refine ⟨_,rfl,by show 1≤sizeLine; decide,fun lt nlt=>?_⟩;have s8:=Jf.upd (o:=.lst [.ref tn]) nlt;have hlt:upd H7 lt (.lst [.ref tn]) lt=some (.lst [.ref tn]):=Jh;generalize upd H7 lt (.lst [.ref tn])=H8 at s8 hlt;refine ⟨by show 0≤sizeLine; decide,fun ll nll=>?_⟩;have s9:=Jf.upd (o:=.lst []) nll;have hll:upd H8 ll (.lst []) ll=some (.lst []):=Jh;generalize upd H8 ll (.lst [])=H9 at s9 hll;refine ⟨by show 0≤sizeLine; decide,fun se nse=>?_⟩;have s10:=Jf.upd (o:=.lst []) nse;have hse:upd H9 se (.lst []) se=some (.lst []):=Jh;generalize upd H9 se (.lst [])=H10 at s10 hse;have e810:=s9.trans s10;have e710:=s8.trans e810;have A10:=A7.same e710;have hlt10:=e810 _ _ hlt;have hll10:=s10 _ _ hll;have hlp10:=e710 _ _ hlp;have htn10:=(e7.trans e710) _ _ htn6;have e510:=(e56.trans e7).trans e710;have hXs:∀ x∈[ld,lm,lt,ll,se],(∃ vs:List V,H10 x=some (.lst vs)∧JsV H10 vs∧vs.length≤1)∧H5 x=none:=fun x hx=>by
   simp only [List.mem_cons,List.not_mem_nil,or_false] at hx;rcases hx with rfl | rfl | rfl | rfl | rfl
   ·exact ⟨⟨_,A10.hd,.inl rfl,Nat.zero_le _⟩,e6.free A6.nd⟩
   ·obtain ⟨dm,hm⟩:=A10.mt (a0,_) (List.mem_append_right _ (List.mem_singleton.mpr rfl));exact ⟨⟨_,A10.hm,.inr ⟨a0,_,[],rfl,hm,fun _ z=>nomatch z⟩,Nat.le_refl _⟩,e6.free A6.nm⟩
   ·exact ⟨⟨_,hlt10,.inr ⟨tn,_,[],rfl,htn10,fun _ z=>nomatch z⟩,Nat.le_refl _⟩,(e56.trans e7).free nlt⟩
   ·exact ⟨⟨_,hll10,.inl rfl,Nat.zero_le _⟩,((e56.trans e7).trans s8).free nll⟩
   ·exact ⟨⟨_,hse,.inl rfl,Nat.zero_le _⟩,(((e56.trans e7).trans s8).trans s9).free nse⟩
  have xok:XOk [ld,lm,lt,ll,se] H10:=fun x hx=>let ⟨⟨vs,h1,h2,_⟩,_⟩:=hXs x hx; ⟨vs,h1,h2⟩
  have A0:=A10.re xok (by simp) (by simp);have n1:ld≠lt:=JC A7.hd nlt;have n2:lm≠lt:=JC A7.hm nlt;have n3:ld≠ll:=JC (s8 _ _ A7.hd) nll;have n4:lm≠ll:=JC (s8 _ _ A7.hm) nll;have n5:lt≠ll:=JC hlt nll;have n6:ld≠se:=JC ((s8.trans s9) _ _ A7.hd) nse;have n7:lm≠se:=JC ((s8.trans s9) _ _ A7.hm) nse;have n8:lt≠se:=JC (s9 _ _ hlt) nse;have n9:ll≠se:=JC hll nse;have k0:KS T ⟨Jeg [ld,lm,lt,ll,se] H10,g,b,k,ld,lm,ps',zs',gs',c,m⟩ H10 [] ([] ++ [(a0,mo)]) lt ll se [tn] [] [] (a0,mo):=by
   refine ⟨⟨A0,rfl,hlt10,rfl,fun i a x h1 h2=>?_,hll10,⟨rfl,fun i a d h=>by simp at h⟩,(fun d hd=>nomatch hd),JeI (by simp),JeI (by simp),n5,n1,n2,n3,n4⟩,hse,rfl,fun i s x h=>by simp at h,fun i d x x' h=>by simp at h,rfl,JeI (by simp),n6,n7,n8,n9⟩
   match i,h1,h2 with
   | 0,h1,h2=>cases Option.some.inj h1; cases Option.some.inj h2; exact htn10
   | i + 1,h1,h2=>simp at h1
  have old:∀ {H':Hp},Jf H' H5→Jf H' (Jeg [ld,lm,lt,ll,se] H10):=fun e=>Jsq (e.trans e510) fun x hx=>e.free (hXs x hx).2
  have ggS:=gg5.same (old (Jf.refl _));have BS:=B.same (old (Jf.refl _));have sHS:=old s05;have htnS:=old (Jf.refl _) _ _ htn5;have hlpS:Jeg [ld,lm,lt,ll,se] H10 lp=some (.lst (xs.map V.int)):=by
   rw [Jfx]
   ·exact hlp10
   ·intro z;obtain ⟨⟨vs,h1,_,h3⟩,_⟩:=hXs lp z;rw [hlp10] at h1;cases Option.some.inj h1;rw [List.length_map] at h3;omega
  generalize Jeg [ld,lm,lt,ll,se] H10=SS at k0 ggS BS sHS htnS hlpS
  try clear old A0 xok hXs e510 htn10 hlp10 hll10 hlt10 A10 e710 e810 hse hll hlt s10 s9 s8 A7 hlp e7 htn6 A6 e56 e6 nlp
  obtain ⟨ys,ey,_⟩:=Jg2 (xs:=xs) (lo:=none) (hi:=some mv);have ysl:ys.length≤104:=by
   have z:=congrArg List.length ey;have z2:=JdB (xs.map V.int) none (some mv);rw [List.length_map] at z z2;omega
  refine ⟨_,rfl,_,rfl,_,rfl,_,rfl,_,rfl,_,rfl,_,rfl,_,rfl,lp,_,rfl,JA.of (k0.K.A.sm _ _ hlpS),fun l1 nl1=>?_⟩;have s11:=Jf.upd (o:=.lst (ZB (xs.map V.int) none (some mv))) nl1;have hl1:upd H10 l1 (.lst (ZB (xs.map V.int) none (some mv))) l1=some (.lst (ys.map V.int)):=by rw [Jh,ey]
  refine ⟨⟨SS,g,b,k,ld,lm,ps',zs',gs',c,m⟩,[],_,t,lt,ll,se,l1,[tn],[],[],_,ys,ps,zs,gs,rfl,k0.same s11,ggS,hl1,(fun z=>by obtain ⟨vs,h⟩:=k0.lists l1 z; rw [nl1] at h; cases h),by simp; omega,fun ds1 ms1 ts1 ls1 ss1 H12 c12 k1 l12=>⟨_,rfl,Yk ?_⟩⟩;have l12:ds1.length≤104:=by simp at l12; omega
  try clear k0 s11 hl1 c12 ey ysl ys
  have hlen:=k1.K.L.1;obtain ⟨j1,hj1,hj1b⟩:∃ j:Nat,(Y1 ns 11 + 4) % (((ls1.map V.ref).length:Int) + 1)=(j:Int)∧j≤ds1.length:=by
   have hb:=Jaz (x:=Y1 ns 11 + 4) (n:=((ls1.map V.ref).length:Int) + 1) (by omega);rw [List.length_map] at hb ⊢;exact ⟨_,(Int.toNat_of_nonneg hb.1).symm,by omega⟩
  refine ⟨_,rfl,_,rfl,_,rfl,_,rfl,_,rfl,a,ns,11,rfl,(sHS.trans k1.K.A.sm).seq hS,by decide,_,_,rfl,rfl,_,rfl,ll,_,rfl,.inl (JA.of k1.K.hl),_,_,rfl,rfl,_,_,rfl,rfl,(by show (0:Int) < ((ls1.map V.ref).length:Int) + 1; omega),⟨SS,g,b,k,ld,lm,ps',zs',gs',c,m⟩,ds1,ms1,lt,ll,se,ts1,ls1,ss1,_,j1,(by rw [← hj1]; rfl),k1,hj1b,by omega,fun ds2 ms2 ts2 ls2 ss2 H13 c13 k2 l13=>⟨_,rfl,Yk ?_⟩⟩;have l13:ds2.length≤104:=by omega
  try clear k1 c13 hj1 hj1b hlen l12
  obtain ⟨ys,ey,_⟩:=Jg2 (xs:=xs) (lo:=some 90) (hi:=some (90 + (Y1 ns 12 + 6) % 15));have ysl:ys.length≤104:=by
   have z:=congrArg List.length ey;have z2:=JdB (xs.map V.int) (some 90) (some (90 + (Y1 ns 12 + 6) % 15));rw [List.length_map] at z z2;omega
  refine ⟨_,rfl,_,rfl,_,rfl,_,rfl,_,rfl,_,rfl,_,rfl,_,rfl,a,ns,12,rfl,(sHS.trans k2.K.A.sm).seq hS,by decide,_,_,rfl,rfl,_,_,rfl,rfl,(by show (0:Int) < 15; decide),_,_,rfl,rfl,_,rfl,lp,_,rfl,JA.of (k2.K.A.sm _ _ hlpS),fun l2 nl2=>?_⟩;have s14:=Jf.upd (o:=.lst (ZB (xs.map V.int) (some 90) (some (90 + (Y1 ns 12 + 6) % 15)))) nl2;have hl2:upd H13 l2 (.lst (ZB (xs.map V.int) (some 90) (some (90 + (Y1 ns 12 + 6) % 15)))) l2=some (.lst (ys.map V.int)):=by rw [Jh,ey]
  refine ⟨⟨SS,g,b,k,ld,lm,ps',zs',gs',c,m⟩,ds2,ms2,t,lt,ll,se,l2,ts2,ls2,ss2,_,ys,ps,zs,gs,rfl,k2.same s14,ggS,hl2,(fun z=>by obtain ⟨vs,h⟩:=k2.lists l2 z; rw [nl2] at h; cases h),by omega,fun ds ms ts ls ss H15 c15 k3 l15=>⟨_,rfl,Yk ?_⟩⟩;have l15:ds.length≤208:=by omega
  try clear k2 s14 hl2 c15 ey ysl ys l13
  have htn15:=k3.K.A.sm _ _ htnS;let Mq:St→Hp→Prop:=fun σ1 H16=>∃ (gf:Addr) (Sf:Hp) (kf ldf lmf af:Addr),Jf H15 Sf∧J0 T ⟨Sf,gf,b,kf,ldf,lmf,ps',zs',gs',c,m⟩ H16 [] ([] ++ [(af,mo)])∧σ1=[some (.ref a),some (.ref t),some (.ref tn),some (.int ce),some (.int mv),v5,some (.ref b),some (.ref g),some (.ref lp),some (.ref lt),some (.ref ll),some (.ref se),some (.ref gf),none,none]
  refine ⟨Mq,?_,?_⟩
  ·have B15:=BS.same k3.K.A.sm;refine ⟨_,rfl,_,rfl,tn,_,_,.str p,rfl,rfl,JH.of htn15,rfl,_,rfl,tn,_,_,.int (m:Int),rfl,rfl,JH.of htn15,rfl,_,rfl,tn,_,_,.int n,rfl,rfl,JH.of htn15,rfl,_,rfl,tn,_,_,.int (c - n),rfl,rfl,JH.of htn15,rfl,_,rfl,tn,_,_,.str (hs r),rfl,rfl,JH.of htn15,rfl,fun gf dx nx ndx hne=>JlA B15 (Zc ((B15).G.p3 _ hp')) (Zp r) nx ndx (fun H' _=>Jlr T ⟨hp',⟨by omega,by omega⟩,⟨by omega,by omega,by omega⟩,Zk r⟩) fun _ _ _ r' hr' Sf kf ldf lmf af H16 e16 A16=>⟨rfl,?_⟩⟩;obtain rfl:=Zf hr';rw [show n + (c - n)=c by omega,Int.toNat_natCast] at A16
   try clear hne nx ndx dx hr'
   rw [hmo] at A16;exact ⟨gf,Sf,kf,ldf,lmf,af,e16,A16,rfl⟩
  rintro σ1 H16 ⟨gf,Sf,kf,ldf,lmf,af,e16,A16,rfl⟩;have k16:=k3.same (e16.trans A16.sm);have fX:∀ x∈[ldf,lmf],SS x=none:=fun x hx=>by
   simp only [List.mem_cons,List.not_mem_nil,or_false] at hx;rcases hx with rfl | rfl
   ·exact k3.K.A.sm.free (e16.free A16.nd)
   ·exact k3.K.A.sm.free (e16.free A16.nm)
  have nX:∀ x∈[ld,lm,lt,ll,se],x∉[ldf,lmf]:=fun x hx hy=>by
   obtain ⟨vs,h⟩:=k3.lists x hx;have h:=e16 _ _ h;simp only [List.mem_cons,List.not_mem_nil,or_false] at hy;rcases hy with rfl | rfl
   ·have z:=h.symm.trans A16.nd; cases z
   ·have z:=h.symm.trans A16.nm; cases z
  have hlen:=k3.K.L.1;have hmlen:=k3.K.len;let Pq:Nat→St→Hp→Prop:=fun j σ H17=>∃ (dsF:List (Addr×List V)) (msF:List (Addr×Mo)) (aF:Addr) (xF:Mo) (v13:Option V),KS T ⟨SS,g,b,k,ld,lm,ps',zs',gs',c,m⟩ H17 ds ms lt ll se ts ls ss (a0,mo)∧J0 T ⟨Sf,gf,b,kf,ldf,lmf,ps',zs',gs',c,m⟩ H17 dsF (msF ++ [(aF,xF)])∧dsF.map (·.2)=(ds.take j).map (·.2)∧msF.length=j∧dsF.length=j∧(∀ z,ms[j]?=some z→z.2=xF)∧σ=[some (.ref a),some (.ref t),some (.ref tn),some (.int ce),some (.int mv),v5,some (.ref b),some (.ref g),some (.ref lp),some (.ref lt),some (.ref ll),some (.ref se),some (.ref gf),v13,none]
  refine ⟨_,rfl,ll,rfl,⟨_,JA.of k16.K.hl⟩,Jfe (xs:=ls.map V.ref) Pq ⟨[],[],af,mo,_,k16,A16,rfl,rfl,rfl,(fun z hz=>by rw [k3.m0] at hz; cases Option.some.inj hz; rfl),rfl⟩ (fun j σ H17 _ h=>by obtain ⟨_,_,_,_,_,h,_⟩:=h; exact JA.of h.K.hl) ?_ ?_⟩
  ·rintro j xv σ H17 hx ⟨dsF,msF,aF,xF,v13,k17,A17,hdm,hml,hdl,hxF,rfl⟩;rw [List.getElem?_map] at hx;obtain ⟨td,htd,rfl⟩:=Option.map_eq_some_iff.mp hx;have hj:j < ls.length:=(List.getElem?_eq_some_iff.mp htd).1;obtain ⟨d,hd⟩:∃ d,ds[j]?=some d:=⟨_,List.getElem?_eq_getElem (by omega)⟩
   obtain ⟨x1,hx1⟩:∃ x,ms[j]?=some x:=⟨_,List.getElem?_eq_getElem (by omega)⟩
   obtain ⟨x2,hx2⟩:∃ x,ms[j + 1]?=some x:=⟨_,List.getElem?_eq_getElem (by omega)⟩
   obtain ⟨y,w1,v,hdv,hh,hw,ho,hv,hxn⟩:=k17.go j d x1 x2 hd hx1 hx2;have hxe:=hxF x1 hx1;rw [hxe] at hh hw ho hv hxn;have htd17:H17 td=some (.tup [.str y,.str w1,v]):=by rw [← hdv]; exact k17.K.L.2 j td d htd hd
   have ok:Jds ps' (zs'.map (·.2)) gs' c m xF:=A17.mo (aF,xF) (List.mem_append_right _ (List.mem_singleton.mpr rfl));obtain ⟨y',w',hh',hw',ty,wo⟩:=JlJ ok ho hv ggS.B;rw [hh] at hh';rw [hw] at hw';cases hh';cases hw';refine ⟨_,rfl,_,rfl,td,_,_,.str y,rfl,rfl,JH.of htd17,rfl,_,rfl,td,_,_,.str w1,rfl,rfl,JH.of htd17,rfl,_,rfl,td,_,_,v,rfl,rfl,JH.of htd17,rfl,⟨Sf,gf,b,kf,ldf,lmf,ps',zs',gs',c,m⟩,dsF,msF,aF,xF,y,w1,v,rfl,A17,by omega,by omega,ty,wo,fun z=>absurd ⟨hh,hw⟩ z,fun _ _ z=>absurd hv z,fun _ _ _ d' a' H18 c18 A18=>?_⟩;refine ⟨dsF ++ [(d',[.str y,.str w1,v])],msF ++ [(aF,xF)],a',_,_,k17.frame c18 A17.lists fX nX,A18,?_,by rw [List.length_append,hml]; rfl,by rw [List.length_append,hdl]; rfl,fun z hz=>?_,rfl⟩
   ·rw [List.take_succ,hd,List.map_append,List.map_append,hdm,← hdv]; rfl
   ·rw [hx2] at hz;cases Option.some.inj hz;exact hxn
  ·rintro σ H17 ⟨dsF,msF,aF,xF,v13,k17,A17,hdm,hml,hdl,hxF,rfl⟩;rw [List.length_map] at hdm hml hdl hxF;obtain ⟨ms9,a9,x9,ts9,tn9,em,et,tsl9,htn9⟩:=k17.K.last;have A9:=k17.K.A;rw [em] at A9;have m9:ms9.length=ds.length:=by rw [em,List.length_append] at hmlen; simpa using hmlen
   have hx9:x9=xF:=hxF (a9,x9) (by rw [em,List.getElem?_append_right (by omega),show ls.length - ms9.length=0 by omega]; rfl);subst hx9;have hdm:ds.map (·.2)=dsF.map (·.2):=by rw [hdm,hlen,List.take_length]
   refine ⟨_,rfl,⟨SS,g,b,k,ld,lm,ps',zs',gs',c,m⟩,ds,ms9,a9,x9,rfl,A9,fun f1 H18 e18 h1=>?_⟩;have A18:=A17.same e18;refine ⟨_,rfl,⟨Sf,gf,b,kf,ldf,lmf,ps',zs',gs',c,m⟩,dsF,msF,aF,x9,rfl,A18,fun f2 H19 e19 h2=>?_⟩;have k19:=k17.same (e18.trans e19);have A19:=A18.same e19;refine ⟨f1,f2,ds,dsF,x9,_,_,_,rfl,h1.map fun q=>e19 _ _ q,h2,hdm,fun d hd=>⟨k19.K.A.dt d hd,k19.K.df d hd⟩,fun d hd=>A19.dt d hd,by omega,⟨_,rfl,Yk ?_⟩⟩;refine ⟨_,rfl,_,rfl,_,rfl,_,rfl,_,rfl,ll,_,rfl,.inl (JA.of k19.K.hl),⟨SS,g,b,k,ld,lm,ps',zs',gs',c,m⟩,ds,ms,lt,ll,se,ts,ls,ss,_,(ls.map V.ref).length,rfl,k19,by rw [List.length_map]; omega,by omega,fun ds4 ms4 ts4 ls4 ss4 H20 c20 k20 l20=>⟨_,rfl,Yk ?_⟩⟩;rw [List.length_map] at l20;obtain rfl:ds4=[]:=List.eq_nil_of_length_eq_zero (by omega);have hm4:=k20.K.len;obtain ⟨z4,rfl⟩:∃ z,ms4=[] ++ [z]:=by
    match ms4,hm4 with
    | [z],_=>exact ⟨z,rfl⟩
   obtain rfl:(a0,mo)=z4:=(Option.some.inj k20.m0).symm;refine ⟨fun σ1 H21=>∃ (f3:Addr),Jf H20 H21∧S7 (zs'.map (·.2)) gs' c H21 f3 [] mo∧σ1=[some (.ref a),some (.ref t),some (.ref tn),some (.int ce),some (.int mv),v5,some (.ref b),some (.ref g),some (.ref lp),some (.ref lt),some (.ref ll),some (.ref se),some (.ref gf),v13,some (.ref f3)],⟨_,rfl,⟨SS,g,b,k,ld,lm,ps',zs',gs',c,m⟩,[],[],a0,mo,rfl,k20.K.A,fun f3 H21 e21 h3=>⟨f3,e21,h3,rfl⟩⟩,?_⟩;rintro σ1 H21 ⟨f3,e21,h3,rfl⟩;have A21:=k20.K.A.same e21;refine ⟨_,rfl,⟨SS,g,b,k,ld,lm,ps',zs',gs',c,m⟩,[],_,rfl,A21,fun _ p5 H22 e22 hp5=>?_,(fun ds0 d ms0 m h=>absurd h (by simp)),fun h=>absurd rfl h⟩;refine ⟨by show 2≤sizeLine; decide,fun t6 n6=>?_⟩;have s23:=Jf.upd (o:=.tup [.str "refused",.str "NothingDone"]) n6;refine ⟨.ref p5,.ref t6,rfl,⟨_,rfl,Yk ?_⟩,.inr ⟨p5,t6,_,rfl,rfl,JH.of (s23 _ _ hp5),.inr (JH.of Jh),by show 2≤1000; decide,rfl⟩⟩;have e2123:=e22.trans s23;generalize upd H22 t6 (.tup [.str "refused",.str "NothingDone"])=H23 at e2123 s23;have A23:=A21.same e2123;refine ⟨_,rfl,⟨SS,g,b,k,ld,lm,ps',zs',gs',c,m⟩,[],[],a0,mo,rfl,A23,fun f4 H24 e24 h4=>?_⟩;have e2124:=e2123.trans e24;refine ⟨_,rfl,f4,f3,[],[],mo,_,_,_,rfl,h4,h3.map fun q=>e2124 _ _ q,rfl,(fun d hd=>nomatch hd),(fun d hd=>nomatch hd),Nat.zero_le _,⟨_,rfl,YG ?_⟩⟩;have A24:=A23.same e24;refine ⟨_,rfl,_,rfl,_,rfl,by show 0≤sizeLine; decide,fun tl ntl=>?_⟩;have s25:=Jf.upd (o:=.tup []) ntl;have A25:=A24.same s25;exact ⟨⟨SS,g,b,k,ld,lm,ps',zs',gs',c,m⟩,t,tn,tl,a0,mo,[],[],[],ps,zs,gs,rfl,A25,(by rw [← hmo,Jly]; exact A25.sm _ _ htnS),ggS.same A25.sm,.inr (JH.of Jh),⟨rfl,fun i a d h=>by simp at h⟩,Nat.zero_le _,(fun d hd=>nomatch hd),fun H26 e26=>q H26⟩
end
theorem Zy {α:Type} {P:List α→Prop} (h:∀ a0,P [a0]):∀ us:List α,us.length=1→P us
 | [a0],_=>h a0
theorem ZI {α:Type} {P:List α→Prop} (h:∀ a0 a1,P [a0,a1]):∀ us:List α,us.length=2→P us
 | [a0,a1],_=>h a0 a1
theorem Jaf {α:Type} {P:List α→Prop} (h:∀ a0 a1 a2,P [a0,a1,a2]):∀ us:List α,us.length=3→P us
 | [a0,a1,a2],_=>h a0 a1 a2
theorem Jii {α:Type} {P:List α→Prop} (h:∀ a0 a1 a2 a3,P [a0,a1,a2,a3]):∀ us:List α,us.length=4→P us
 | [a0,a1,a2,a3],_=>h a0 a1 a2 a3
theorem JfM {α:Type} {P:List α→Prop} (h:∀ a0 a1 a2 a3 a4,P [a0,a1,a2,a3,a4]):∀ us:List α,us.length=5→P us
 | [a0,a1,a2,a3,a4],_=>h a0 a1 a2 a3 a4
theorem JjS {α:Type} {P:List α→Prop} (h:∀ a0 a1 a2 a3 a4 a5,P [a0,a1,a2,a3,a4,a5]):∀ us:List α,us.length=6→P us
 | [a0,a1,a2,a3,a4,a5],_=>h a0 a1 a2 a3 a4 a5
theorem Jvu {α:Type} {P:List α→Prop} (h:∀ a0 a1 a2 a3 a4 a5 a6,P [a0,a1,a2,a3,a4,a5,a6]):∀ us:List α,us.length=7→P us
 | [a0,a1,a2,a3,a4,a5,a6],_=>h a0 a1 a2 a3 a4 a5 a6
theorem Jvt {α:Type} {P:List α→Prop} (h:∀ a0 a1 a2 a3 a4 a5 a6 a7 a8,P [a0,a1,a2,a3,a4,a5,a6,a7,a8]):∀ us:List α,us.length=9→P us
 | [a0,a1,a2,a3,a4,a5,a6,a7,a8],_=>h a0 a1 a2 a3 a4 a5 a6 a7 a8
def JpF (K:PySem.W.Frag):Prop:=(JrG K,JrF K,JrD K,JrE K,JrB K,JrC K)=Jmd
theorem Jc {α:Type} {a b:α} (h:some a=some b):a=b:=Option.some.inj h
theorem JuW {w:World} {K:PySem.W.Frag} {h:Heap} {mg:Str→Option Value} {fa:Addr} {P:Program} (hS:JpF K) (X:K.In h) (G:h.Ns mainGlobals mg) (hfa:mg "law" = some (.ref fa)) :
  ∃ fd:FuncData,(∀ (s:Shared) (v:Value),BindsTo s fd ⟨[v],[]⟩ [("_law_script",v)])∧∀ base:Heap,K.In base→base.Ns mainGlobals mg→JM P w K mg base Yy 14 fa fd ["_law_script"] (JoQ K):=by
 have hB:JrG K=isB:=congrArg (fun x=>x.1) hS;have hF:JrF K=isF:=congrArg (fun x=>x.2.1) hS;have hN:JrD K=isN:=congrArg (fun x=>x.2.2.1) hS;have hK:JrE K=isK:=congrArg (fun x=>x.2.2.2.1) hS;have hV:JrB K=isV:=congrArg (fun x=>x.2.2.2.2.1) hS;have hT:JrC K=isT:=congrArg (fun x=>x.2.2.2.2.2) hS;obtain ⟨Jbo,JcR,JcJ⟩:=mgV X G (Jc (at_ hV 0));obtain ⟨Jbn,JaJ,JaG⟩:=mgV X G (Jc (at_ hV 1));obtain ⟨Jbq,JaK,JaH⟩:=mgV X G (Jc (at_ hV 2));obtain ⟨JaW,Jb9,Jb6⟩:=mgV X G (Jc (at_ hV 3));obtain ⟨Jbp,JcS,JcK⟩:=mgV X G (Jc (at_ hV 4));have e:=hfa.symm.trans (PySem.W.mg_of X G (Ju (Option.some.inj (at_ hB 114))));cases e;let T:Txt K mg:={
  Jop:=Ji K "_wall"
  Jno:=JQ K (Ji K "_wall")
  Jt2:=⟨Jk (Jc (at_ hF 0)),(Jk (Jc (at_ hF 0))).binds (ps:=["k"]) (fun _ _ _ _ _ _=>Zy fun _=>rfl),PySem.W.mg_of X G (Ju (Jc (at_ hB 0)))⟩
  Jgb:=Ji K "good_name"
  Jff:=JQ K (Ji K "good_name")
  Jgi:=⟨Jk (Jc (at_ hF 1)),(Jk (Jc (at_ hF 1))).binds (ps:=["text"]) (fun _ _ _ _ _ _=>Zy fun _=>rfl),PySem.W.mg_of X G (Ju (Jc (at_ hB 1)))⟩
  Jfp:=Ji K "check_hand"
  Jd1:=JQ K (Ji K "check_hand")
  JaM:=⟨Jk (Jc (at_ hF 2)),(Jk (Jc (at_ hF 2))).binds (ps:=["hand"]) (fun _ _ _ _ _ _=>Zy fun _=>rfl),PySem.W.mg_of X G (Ju (Jc (at_ hB 2)))⟩
  Jk6:=Ji K "other"
  Ji7:=JQ K (Ji K "other")
  JeJ:=⟨Jk (Jc (at_ hF 3)),(Jk (Jc (at_ hF 3))).binds (ps:=["hand"]) (fun _ _ _ _ _ _=>Zy fun _=>rfl),PySem.W.mg_of X G (Ju (Jc (at_ hB 3)))⟩
  Jd7:=Ji K "check_up_to"
  Jde:=JQ K (Ji K "check_up_to")
  ZE:=⟨Jk (Jc (at_ hF 4)),(Jk (Jc (at_ hF 4))).binds (ps:=["number", "most"]) (fun _ _ _ _ _ _=>ZI fun _ _=>rfl),PySem.W.mg_of X G (Ju (Jc (at_ hB 4)))⟩
  Jea:=Ji K "check_coins"
  Jdh:=JQ K (Ji K "check_coins")
  Jcb:=⟨Jk (Jc (at_ hF 5)),(Jk (Jc (at_ hF 5))).binds (ps:=["north", "south"]) (fun _ _ _ _ _ _=>ZI fun _ _=>rfl),PySem.W.mg_of X G (Ju (Jc (at_ hB 5)))⟩
  Jgc:=Ji K "check_bid"
  Jfg:=JQ K (Ji K "check_bid")
  Ja7:=⟨Jk (Jc (at_ hF 6)),(Jk (Jc (at_ hF 6))).binds (ps:=["named", "coins"]) (fun _ _ _ _ _ _=>ZI fun _ _=>rfl),PySem.W.mg_of X G (Ju (Jc (at_ hB 6)))⟩
  Jco:=Ji K "check_standing"
  JbS:=JQ K (Ji K "check_standing")
  Jcs:=⟨Jk (Jc (at_ hF 7)),(Jk (Jc (at_ hF 7))).binds (ps:=["board", "place", "turns", "north", "south", "ribbon"]) (fun _ _ _ _ _ _=>JjS fun _ _ _ _ _ _=>rfl),PySem.W.mg_of X G (Ju (Jc (at_ hB 7)))⟩
  Jlb:=Ji K "ended"
  Jjc:=JQ K (Ji K "ended")
  JcF:=⟨Jk (Jc (at_ hF 8)),(Jk (Jc (at_ hF 8))).binds (ps:=["board", "place", "turns"]) (fun _ _ _ _ _ _=>Jaf fun _ _ _=>rfl),PySem.W.mg_of X G (Ju (Jc (at_ hB 8)))⟩
  JgY:=Ji K "coins_of"
  Jf7:=JQ K (Ji K "coins_of")
  JaT:=⟨Jk (Jc (at_ hF 9)),(Jk (Jc (at_ hF 9))).binds (ps:=["hand", "north", "south"]) (fun _ _ _ _ _ _=>Jaf fun _ _ _=>rfl),PySem.W.mg_of X G (Ju (Jc (at_ hB 9)))⟩
  Jpq:=Ji K "pay"
  Jnk:=JQ K (Ji K "pay")
  Jkh:=⟨Jk (Jc (at_ hF 10)),(Jk (Jc (at_ hF 10))).binds (ps:=["hand", "price", "north", "south", "ribbon"]) (fun _ _ _ _ _ _=>JfM fun _ _ _ _ _=>rfl),PySem.W.mg_of X G (Ju (Jc (at_ hB 10)))⟩
  Jjf:=Ji K "settle"
  JhT:=JQ K (Ji K "settle")
  Jg5:=⟨Jk (Jc (at_ hF 11)),(Jk (Jc (at_ hF 11))).binds (ps:=["north", "south", "ribbon", "bid", "answer"]) (fun _ _ _ _ _ _=>JfM fun _ _ _ _ _=>rfl),PySem.W.mg_of X G (Ju (Jc (at_ hB 11)))⟩
  Jfn:=Ji K "turn_begin"
  JdZ:=JQ K (Ji K "turn_begin")
  Jc1:=⟨Jk (Jc (at_ hF 25)),(Jk (Jc (at_ hF 25))).binds (ps:=["board", "place", "turns", "north", "south", "ribbon"]) (fun _ _ _ _ _ _=>JjS fun _ _ _ _ _ _=>rfl),PySem.W.mg_of X G (Ju (Jc (at_ hB 38)))⟩
  JhV:=Ji K "told_by"
  JgW:=JQ K (Ji K "told_by")
  Jh8:=⟨Jk (Jc (at_ hF 26)),(Jk (Jc (at_ hF 26))).binds (ps:=["book", "now"]) (fun _ _ _ _ _ _=>ZI fun _ _=>rfl),PySem.W.mg_of X G (Ju (Jc (at_ hB 39)))⟩
  JbV:=Ji K "check_each_once"
  JbB:=JQ K (Ji K "check_each_once")
  ZX:=⟨Jk (Jc (at_ hF 41)),(Jk (Jc (at_ hF 41))).binds (ps:=["things"]) (fun _ _ _ _ _ _=>Zy fun _=>rfl),PySem.W.mg_of X G (Ju (Jc (at_ hB 68)))⟩
  Jeb:=Ji K "check_among"
  Jdi:=JQ K (Ji K "check_among")
  Jal:=⟨Jk (Jc (at_ hF 42)),(Jk (Jc (at_ hF 42))).binds (ps:=["place", "places"]) (fun _ _ _ _ _ _=>ZI fun _ _=>rfl),PySem.W.mg_of X G (Ju (Jc (at_ hB 69)))⟩
  Jdo:=Ji K "check_places"
  JcT:=JQ K (Ji K "check_places")
  Jdu:=⟨Jk (Jc (at_ hF 43)),(Jk (Jc (at_ hF 43))).binds (ps:=["places"]) (fun _ _ _ _ _ _=>Zy fun _=>rfl),PySem.W.mg_of X G (Ju (Jc (at_ hB 70)))⟩
  Jd8:=Ji K "check_lanes"
  Jdf:=JQ K (Ji K "check_lanes")
  Jej:=⟨Jk (Jc (at_ hF 44)),(Jk (Jc (at_ hF 44))).binds (ps:=["lanes", "places"]) (fun _ _ _ _ _ _=>ZI fun _ _=>rfl),PySem.W.mg_of X G (Ju (Jc (at_ hB 71)))⟩
  Jd9:=Ji K "check_goals"
  Jdg:=JQ K (Ji K "check_goals")
  Jek:=⟨Jk (Jc (at_ hF 45)),(Jk (Jc (at_ hF 45))).binds (ps:=["goals", "places"]) (fun _ _ _ _ _ _=>ZI fun _ _=>rfl),PySem.W.mg_of X G (Ju (Jc (at_ hB 72)))⟩
  Jsh:=Ji K "_law_at"
  Jpl:=JQ K (Ji K "_law_at")
  Z0:=⟨Jk (Jc (at_ hF 50)),(Jk (Jc (at_ hF 50))).binds (ps:=["_law_script", "_law_k"]) (fun _ _ _ _ _ _=>ZI fun _ _=>rfl),PySem.W.mg_of X G (Ju (Jc (at_ hB 81)))⟩
  Jpp:=Ji K "_law_row"
  Jnj:=JQ K (Ji K "_law_row")
  Jg6:=⟨Jk (Jc (at_ hF 51)),(Jk (Jc (at_ hF 51))).binds (ps:=["_law_cell", "_law_many", "_law_base"]) (fun _ _ _ _ _ _=>Jaf fun _ _ _=>rfl),PySem.W.mg_of X G (Ju (Jc (at_ hB 82)))⟩
  Jk1:=Ji K "_law_whole"
  Ji2:=JQ K (Ji K "_law_whole")
  Jlh:=⟨Jk (Jc (at_ hF 52)),(Jk (Jc (at_ hF 52))).binds (ps:=["_law_found"]) (fun _ _ _ _ _ _=>Zy fun _=>rfl),PySem.W.mg_of X G (Ju (Jc (at_ hB 83)))⟩
  Jk7:=Ji K "_law_names"
  Ji8:=JQ K (Ji K "_law_names")
  Jir:=⟨Jk (Jc (at_ hF 53)),(Jk (Jc (at_ hF 53))).binds (ps:=["_law_cell", "_law_many"]) (fun _ _ _ _ _ _=>ZI fun _ _=>rfl),PySem.W.mg_of X G (Ju (Jc (at_ hB 84)))⟩
  Jk5:=Ji K "_law_pairs"
  Ji6:=JQ K (Ji K "_law_pairs")
  Jlk:=⟨Jk (Jc (at_ hF 54)),(Jk (Jc (at_ hF 54))).binds (ps:=["_law_cell", "_law_draw", "_law_size"]) (fun _ _ _ _ _ _=>Jaf fun _ _ _=>rfl),PySem.W.mg_of X G (Ju (Jc (at_ hB 85)))⟩
  Jk9:=Ji K "_law_goals"
  Jja:=JQ K (Ji K "_law_goals")
  Jll:=⟨Jk (Jc (at_ hF 55)),(Jk (Jc (at_ hF 55))).binds (ps:=["_law_cell", "_law_kind", "_law_size"]) (fun _ _ _ _ _ _=>Jaf fun _ _ _=>rfl),PySem.W.mg_of X G (Ju (Jc (at_ hB 86)))⟩
  Jjg:=Ji K "_law_ground"
  JhU:=JQ K (Ji K "_law_ground")
  Jjr:=⟨Jk (Jc (at_ hF 56)),(Jk (Jc (at_ hF 56))).binds (ps:=["_law_script", "_law_at_here"]) (fun _ _ _ _ _ _=>ZI fun _ _=>rfl),PySem.W.mg_of X G (Ju (Jc (at_ hB 87)))⟩
  Jk3:=Ji K "_law_total"
  Ji4:=JQ K (Ji K "_law_total")
  Jlj:=⟨Jk (Jc (at_ hF 57)),(Jk (Jc (at_ hF 57))).binds (ps:=["_law_cell"]) (fun _ _ _ _ _ _=>Zy fun _=>rfl),PySem.W.mg_of X G (Ju (Jc (at_ hB 88)))⟩
  Jnv:=Ji K "_law_left"
  JkW:=JQ K (Ji K "_law_left")
  JnO:=⟨Jk (Jc (at_ hF 58)),(Jk (Jc (at_ hF 58))).binds (ps:=["_law_cell"]) (fun _ _ _ _ _ _=>Zy fun _=>rfl),PySem.W.mg_of X G (Ju (Jc (at_ hB 89)))⟩
  Jnp:=Ji K "_law_ways"
  JkQ:=JQ K (Ji K "_law_ways")
  Jkg:=⟨Jk (Jc (at_ hF 59)),(Jk (Jc (at_ hF 59))).binds (ps:=["_law_ground_here", "_law_place"]) (fun _ _ _ _ _ _=>ZI fun _ _=>rfl),PySem.W.mg_of X G (Ju (Jc (at_ hB 90)))⟩
  Jps:=Ji K "_law_foe"
  Jnm:=JQ K (Ji K "_law_foe")
  Jit:=⟨Jk (Jc (at_ hF 60)),(Jk (Jc (at_ hF 60))).binds (ps:=["_law_hand_here"]) (fun _ _ _ _ _ _=>Zy fun _=>rfl),PySem.W.mg_of X G (Ju (Jc (at_ hB 91)))⟩
  Jnw:=Ji K "_law_hand"
  JkX:=JQ K (Ji K "_law_hand")
  JnP:=⟨Jk (Jc (at_ hF 61)),(Jk (Jc (at_ hF 61))).binds (ps:=["_law_cell"]) (fun _ _ _ _ _ _=>Zy fun _=>rfl),PySem.W.mg_of X G (Ju (Jc (at_ hB 92)))⟩
  Jpn:=Ji K "_law_won"
  Jnh:=JQ K (Ji K "_law_won")
  Jkf:=⟨Jk (Jc (at_ hF 62)),(Jk (Jc (at_ hF 62))).binds (ps:=["_law_ground_here", "_law_place", "_law_left_here"]) (fun _ _ _ _ _ _=>Jaf fun _ _ _=>rfl),PySem.W.mg_of X G (Ju (Jc (at_ hB 93)))⟩
  Jje:=Ji K "_law_turned"
  JhS:=JQ K (Ji K "_law_turned")
  Jjq:=⟨Jk (Jc (at_ hF 63)),(Jk (Jc (at_ hF 63))).binds (ps:=["_law_north", "_law_south", "_law_ribbon", "_law_bid", "_law_reply"]) (fun _ _ _ _ _ _=>JfM fun _ _ _ _ _=>rfl),PySem.W.mg_of X G (Ju (Jc (at_ hB 94)))⟩
  Jk2:=Ji K "_law_which"
  Ji3:=JQ K (Ji K "_law_which")
  Jli:=⟨Jk (Jc (at_ hF 64)),(Jk (Jc (at_ hF 64))).binds (ps:=["_law_marks"]) (fun _ _ _ _ _ _=>Zy fun _=>rfl),PySem.W.mg_of X G (Ju (Jc (at_ hB 95)))⟩
  Jk8:=Ji K "_law_holds"
  Ji9:=JQ K (Ji K "_law_holds")
  JcE:=⟨Jk (Jc (at_ hF 65)),(Jk (Jc (at_ hF 65))).binds (ps:=["_law_found", "_law_due_here"]) (fun _ _ _ _ _ _=>ZI fun _ _=>rfl),PySem.W.mg_of X G (Ju (Jc (at_ hB 96)))⟩
  Jnx:=Ji K "_law_flat"
  JkY:=JQ K (Ji K "_law_flat")
  Jb5:=⟨Jk (Jc (at_ hF 66)),(Jk (Jc (at_ hF 66))).binds (ps:=["_law_found", "_law_due_here"]) (fun _ _ _ _ _ _=>ZI fun _ _=>rfl),PySem.W.mg_of X G (Ju (Jc (at_ hB 97)))⟩
  Jlc:=Ji K "_law_deeds"
  Jjd:=JQ K (Ji K "_law_deeds")
  Jiu:=⟨Jk (Jc (at_ hF 67)),(Jk (Jc (at_ hF 67))).binds (ps:=["_law_found", "_law_due_here"]) (fun _ _ _ _ _ _=>ZI fun _ _=>rfl),PySem.W.mg_of X G (Ju (Jc (at_ hB 98)))⟩
  Jpt:=Ji K "_law_due"
  Jnn:=JQ K (Ji K "_law_due")
  Jki:=⟨Jk (Jc (at_ hF 68)),(Jk (Jc (at_ hF 68))).binds (ps:=["_law_ground_here", "_law_now"]) (fun _ _ _ _ _ _=>ZI fun _ _=>rfl),PySem.W.mg_of X G (Ju (Jc (at_ hB 99)))⟩
  Jnt:=Ji K "_law_next"
  JkU:=JQ K (Ji K "_law_next")
  JnM:=⟨Jk (Jc (at_ hF 69)),(Jk (Jc (at_ hF 69))).binds (ps:=["_law_now", "_law_word", "_law_what"]) (fun _ _ _ _ _ _=>Jaf fun _ _ _=>rfl),PySem.W.mg_of X G (Ju (Jc (at_ hB 100)))⟩
  JgZ:=Ji K "_law_bid_pick"
  Jf8:=JQ K (Ji K "_law_bid_pick")
  Jg7:=⟨Jk (Jc (at_ hF 70)),(Jk (Jc (at_ hF 70))).binds (ps:=["_law_own", "_law_his", "_law_cell"]) (fun _ _ _ _ _ _=>Jaf fun _ _ _=>rfl),PySem.W.mg_of X G (Ju (Jc (at_ hB 101)))⟩
  Jfo:=Ji K "_law_reply_pick"
  Jd0:=JQ K (Ji K "_law_reply_pick")
  JfE:=⟨Jk (Jc (at_ hF 71)),(Jk (Jc (at_ hF 71))).binds (ps:=["_law_bid", "_law_own", "_law_cell"]) (fun _ _ _ _ _ _=>Jaf fun _ _ _=>rfl),PySem.W.mg_of X G (Ju (Jc (at_ hB 102)))⟩
  Jnr:=Ji K "_law_pick"
  JkS:=JQ K (Ji K "_law_pick")
  JnK:=⟨Jk (Jc (at_ hF 72)),(Jk (Jc (at_ hF 72))).binds (ps:=["_law_ground_here", "_law_now", "_law_cell"]) (fun _ _ _ _ _ _=>Jaf fun _ _ _=>rfl),PySem.W.mg_of X G (Ju (Jc (at_ hB 103)))⟩
  JhW:=Ji K "_law_opening"
  JgX:=JQ K (Ji K "_law_opening")
  Jh9:=⟨Jk (Jc (at_ hF 73)),(Jk (Jc (at_ hF 73))).binds (ps:=["_law_script", "_law_ground_here", "_law_at_here"]) (fun _ _ _ _ _ _=>Jaf fun _ _ _=>rfl),PySem.W.mg_of X G (Ju (Jc (at_ hB 104)))⟩
  Jk4:=Ji K "_law_shows"
  Ji5:=JQ K (Ji K "_law_shows")
  Jiq:=⟨Jk (Jc (at_ hF 74)),(Jk (Jc (at_ hF 74))).binds (ps:=["_law_game", "_law_ground_here", "_law_now", "_law_log"]) (fun _ _ _ _ _ _=>Jii fun _ _ _ _=>rfl),PySem.W.mg_of X G (Ju (Jc (at_ hB 105)))⟩
  Jny:=Ji K "_law_does"
  JkZ:=JQ K (Ji K "_law_does")
  Jkj:=⟨Jk (Jc (at_ hF 75)),(Jk (Jc (at_ hF 75))).binds (ps:=["_law_game", "_law_hand_here", "_law_word", "_law_what"]) (fun _ _ _ _ _ _=>Jii fun _ _ _ _=>rfl),PySem.W.mg_of X G (Ju (Jc (at_ hB 106)))⟩
  Jns:=Ji K "_law_open"
  JkT:=JQ K (Ji K "_law_open")
  JnL:=⟨Jk (Jc (at_ hF 76)),(Jk (Jc (at_ hF 76))).binds (ps:=["_law_ground_here", "_law_cell"]) (fun _ _ _ _ _ _=>ZI fun _ _=>rfl),PySem.W.mg_of X G (Ju (Jc (at_ hB 107)))⟩
  Jnu:=Ji K "_law_long"
  JkV:=JQ K (Ji K "_law_long")
  JnN:=⟨Jk (Jc (at_ hF 77)),(Jk (Jc (at_ hF 77))).binds (ps:=["_law_script", "_law_at_here"]) (fun _ _ _ _ _ _=>ZI fun _ _=>rfl),PySem.W.mg_of X G (Ju (Jc (at_ hB 108)))⟩
  Jpo:=Ji K "_law_try"
  Jni:=JQ K (Ji K "_law_try")
  Jmf:=⟨Jk (Jc (at_ hF 78)),(Jk (Jc (at_ hF 78))).binds (ps:=["_law_game"]) (fun _ _ _ _ _ _=>Zy fun _=>rfl),PySem.W.mg_of X G (Ju (Jc (at_ hB 109)))⟩
  Jnq:=Ji K "_law_told"
  JkR:=JQ K (Ji K "_law_told")
  JdM:=⟨Jk (Jc (at_ hF 79)),(Jk (Jc (at_ hF 79))).binds (ps:=["_law_game"]) (fun _ _ _ _ _ _=>Zy fun _=>rfl),PySem.W.mg_of X G (Ju (Jc (at_ hB 110)))⟩
  Jsi:=Ji K "_law_as"
  Jpm:=JQ K (Ji K "_law_as")
  JnQ:=⟨Jk (Jc (at_ hF 80)),(Jk (Jc (at_ hF 80))).binds (ps:=["_law_found", "_law_due_here"]) (fun _ _ _ _ _ _=>ZI fun _ _=>rfl),PySem.W.mg_of X G (Ju (Jc (at_ hB 111)))⟩
  Jla:=Ji K "_law_forth"
  Jjb:=JQ K (Ji K "_law_forth")
  Jis:=⟨Jk (Jc (at_ hF 81)),(Jk (Jc (at_ hF 81))).binds (ps:=["_law_game", "_law_ground_here", "_law_times", "_law_log", "_law_seen", "_law_picks"]) (fun _ _ _ _ _ _=>JjS fun _ _ _ _ _ _=>rfl),PySem.W.mg_of X G (Ju (Jc (at_ hB 112)))⟩
  Jnz:=Ji K "_law_back"
  Jk0:=JQ K (Ji K "_law_back")
  Jkk:=⟨Jk (Jc (at_ hF 82)),(Jk (Jc (at_ hF 82))).binds (ps:=["_law_game", "_law_times", "_law_log", "_law_seen", "_law_many"]) (fun _ _ _ _ _ _=>JfM fun _ _ _ _ _=>rfl),PySem.W.mg_of X G (Ju (Jc (at_ hB 113)))⟩
  Jpr:=Ji K "law"
  Jnl:=JQ K (Ji K "law")
  JsX:=⟨Jk (Jc (at_ hF 83)),(Jk (Jc (at_ hF 83))).binds (ps:=["_law_script"]) (fun _ _ _ _ _ _=>Zy fun _=>rfl),PySem.W.mg_of X G (Ju (Jc (at_ hB 114)))⟩
  JgF:=Ji K "HANDS"
  JkP:=PySem.W.mg_of X G (Ju (Jc (at_ hB 115)))
  Jia:=fun H=>JuH (xs:=[.inr "north",.inr "south"]) (Jc (at_ hT 0)) H
  Jbo:=Jbo
  JcR:=JcR
  JcJ:=JcJ
  Jbn:=Jbn
  JaJ:=JaJ
  JaG:=JaG
  Jbq:=Jbq
  JaK:=JaK
  JaH:=JaH
  JaW:=JaW
  Jb9:=Jb9
  Jb6:=Jb6
  Jbp:=Jbp
  JcS:=JcS
  JcK:=JcK
  JsN:=PySem.W.mg_none_of X G (Jc (at_ hN 0))
  Y5:=PySem.W.mg_none_of X G (Jc (at_ hN 1))
  ZD:=PySem.W.mg_none_of X G (Jc (at_ hN 2))
  JjO:=PySem.W.mg_none_of X G (Jc (at_ hN 3))
  JfL:=PySem.W.mg_none_of X G (Jc (at_ hN 4))
  JbJ:=PySem.W.mg_none_of X G (Jc (at_ hN 5))
  JsL:=PySem.W.mg_none_of X G (Jc (at_ hN 6))
  Jfb:=PySem.W.mg_none_of X G (Jc (at_ hN 7))
  Ye:=PySem.W.mg_none_of X G (Jc (at_ hN 8))
  JsM:=PySem.W.mg_none_of X G (Jc (at_ hN 9))
  Jqn:=PySem.W.mg_none_of X G (Jc (at_ hN 10))
  Jpd:=PySem.W.mg_none_of X G (Jc (at_ hN 11))
  JhE:=PySem.W.mg_none_of X G (Jc (at_ hN 12))
  JjP:=PySem.W.mg_none_of X G (Jc (at_ hN 13))
  JcQ:=Ji K "BidmoverError"
  JfP:=PySem.W.mg_of X G (Ju (Jc (at_ hB 116)))
  JfN:=Ji K "BadName"
  JlN:=PySem.W.mg_of X G (Ju (Jc (at_ hB 117)))
  Zr:=Ji K "BadHand"
  Jh4:=PySem.W.mg_of X G (Ju (Jc (at_ hB 118)))
  Ym:=Ji K "OutOfRange"
  JcZ:=PySem.W.mg_of X G (Ju (Jc (at_ hB 119)))
  Jik:=Ji K "Twice"
  Joz:=PySem.W.mg_of X G (Ju (Jc (at_ hB 120)))
  Y8:=Ji K "NoPlace"
  Jh3:=PySem.W.mg_of X G (Ju (Jc (at_ hB 121)))
  JaD:=Ji K "BadBid"
  Jjk:=PySem.W.mg_of X G (Ju (Jc (at_ hB 122)))
  Jdd:=Ji K "NoLane"
  Jjj:=PySem.W.mg_of X G (Ju (Jc (at_ hB 123)))
  JaR:=Ji K "NotDue"
  Jji:=PySem.W.mg_of X G (Ju (Jc (at_ hB 124)))
  J1:=Ji K "NothingDone"
  Jeh:=PySem.W.mg_of X G (Ju (Jc (at_ hB 125)))
  JkO:=Ji K "Taken"
  JoA:=PySem.W.mg_of X G (Ju (Jc (at_ hB 126)))
  Jnb:=Ji K "Full"
  JqX:=PySem.W.mg_of X G (Ju (Jc (at_ hB 127)))
  JhN:=Ji K "Missing"
  JlM:=PySem.W.mg_of X G (Ju (Jc (at_ hB 128)))
  JX:=Ji K "Book"
  JqY:=PySem.W.mg_of X G (Ju (Jc (at_ hB 129)))
  J3:=⟨(Jc (at_ hB 133)),(Jc (at_ hB 134)),(Jc (at_ hB 135)),(Jc (at_ hN 14))⟩
  JdA:=JE K "Book" "__init__"
  Jfm:=JQ K (JE K "Book" "__init__")
  Jgj:=⟨Jk (Jc (at_ hF 12)),(Jk (Jc (at_ hF 12))).binds (ps:=["self", "board", "coins", "turns"]) (fun _ _ _ _ _ _=>Jii fun _ _ _ _=>rfl),⟨JW (Jc (at_ hB 12)),(Jc (at_ hB 13)),Yn (Jc (at_ hF 12))⟩⟩
  JbW:=JE K "Book" "needs_with"
  JbC:=JQ K (JE K "Book" "needs_with")
  JaE:=⟨Jk (Jc (at_ hF 13)),(Jk (Jc (at_ hF 13))).binds (ps:=["self", "turns"]) (fun _ _ _ _ _ _=>ZI fun _ _=>rfl),⟨JW (Jc (at_ hB 14)),(Jc (at_ hB 15)),Yn (Jc (at_ hF 13))⟩⟩
  Jdq:=JE K "Book" "need_at"
  JcV:=JQ K (JE K "Book" "need_at")
  JbM:=⟨Jk (Jc (at_ hF 14)),(Jk (Jc (at_ hF 14))).binds (ps:=["self", "place", "turns", "ribbon"]) (fun _ _ _ _ _ _=>Jii fun _ _ _ _=>rfl),⟨JW (Jc (at_ hB 16)),(Jc (at_ hB 17)),Yn (Jc (at_ hF 14))⟩⟩
  ZG:=JE K "Book" "need_where_north_leads"
  ZA:=JQ K (JE K "Book" "need_where_north_leads")
  Yu:=⟨Jk (Jc (at_ hF 15)),(Jk (Jc (at_ hF 15))).binds (ps:=["self", "place", "turns"]) (fun _ _ _ _ _ _=>Jaf fun _ _ _=>rfl),⟨JW (Jc (at_ hB 18)),(Jc (at_ hB 19)),Yn (Jc (at_ hF 15))⟩⟩
  ZF:=JE K "Book" "need_where_south_leads"
  Zz:=JQ K (JE K "Book" "need_where_south_leads")
  Yt:=⟨Jk (Jc (at_ hF 16)),(Jk (Jc (at_ hF 16))).binds (ps:=["self", "place", "turns"]) (fun _ _ _ _ _ _=>Jaf fun _ _ _=>rfl),⟨JW (Jc (at_ hB 20)),(Jc (at_ hB 21)),Yn (Jc (at_ hF 16))⟩⟩
  JbD:=JE K "Book" "check_share"
  Jbc:=JQ K (JE K "Book" "check_share")
  YS:=⟨Jk (Jc (at_ hF 17)),(Jk (Jc (at_ hF 17))).binds (ps:=["self", "place", "turns", "north", "ribbon"]) (fun _ _ _ _ _ _=>JfM fun _ _ _ _ _=>rfl),⟨JW (Jc (at_ hB 22)),(Jc (at_ hB 23)),Yn (Jc (at_ hF 17))⟩⟩
  Jee:=JE K "Book" "winner"
  Jdm:=JQ K (JE K "Book" "winner")
  Jan:=⟨Jk (Jc (at_ hF 18)),(Jk (Jc (at_ hF 18))).binds (ps:=["self", "place", "turns", "north", "ribbon"]) (fun _ _ _ _ _ _=>JfM fun _ _ _ _ _=>rfl),⟨JW (Jc (at_ hB 24)),(Jc (at_ hB 25)),Yn (Jc (at_ hF 18))⟩⟩
  JhX:=JE K "Book" "least"
  Jhf:=JQ K (JE K "Book" "least")
  JnR:=⟨Jk (Jc (at_ hF 19)),(Jk (Jc (at_ hF 19))).binds (ps:=["self", "place", "turns", "ribbon"]) (fun _ _ _ _ _ _=>Jii fun _ _ _ _=>rfl),⟨JW (Jc (at_ hB 26)),(Jc (at_ hB 27)),Yn (Jc (at_ hF 19))⟩⟩
  Jef:=JE K "Book" "bid_of"
  Jdn:=JQ K (JE K "Book" "bid_of")
  Jce:=⟨Jk (Jc (at_ hF 20)),(Jk (Jc (at_ hF 20))).binds (ps:=["self", "place", "turns", "north", "ribbon"]) (fun _ _ _ _ _ _=>JfM fun _ _ _ _ _=>rfl),⟨JW (Jc (at_ hB 28)),(Jc (at_ hB 29)),Yn (Jc (at_ hF 20))⟩⟩
  Jcq:=JE K "Book" "answer_of"
  JbU:=JQ K (JE K "Book" "answer_of")
  JaU:=⟨Jk (Jc (at_ hF 21)),(Jk (Jc (at_ hF 21))).binds (ps:=["self", "place", "turns", "north", "ribbon", "bid"]) (fun _ _ _ _ _ _=>JjS fun _ _ _ _ _ _=>rfl),⟨JW (Jc (at_ hB 30)),(Jc (at_ hB 31)),Yn (Jc (at_ hF 21))⟩⟩
  JbE:=JE K "Book" "answer_wins"
  Jbd:=JQ K (JE K "Book" "answer_wins")
  JaC:=⟨Jk (Jc (at_ hF 22)),(Jk (Jc (at_ hF 22))).binds (ps:=["self", "place", "turns", "settled", "holder"]) (fun _ _ _ _ _ _=>JfM fun _ _ _ _ _=>rfl),⟨JW (Jc (at_ hB 32)),(Jc (at_ hB 33)),Yn (Jc (at_ hF 22))⟩⟩
  Jdp:=JE K "Book" "step_of"
  JcU:=JQ K (JE K "Book" "step_of")
  Z6:=⟨Jk (Jc (at_ hF 23)),(Jk (Jc (at_ hF 23))).binds (ps:=["self", "place", "turns", "north", "ribbon", "hand"]) (fun _ _ _ _ _ _=>JjS fun _ _ _ _ _ _=>rfl),⟨JW (Jc (at_ hB 34)),(Jc (at_ hB 35)),Yn (Jc (at_ hF 23))⟩⟩
  Jok:=⟨(Jc (at_ hB 136)),JW (Jc (at_ hB 12)),(Jc (at_ hB 13)),(Jc (at_ hB 137))⟩
  YV:=(Jc (at_ hN 15))
  Ja2:=(Jc (at_ hN 16))
  JdY:=(Jc (at_ hN 17))
  Jaj:=(Jc (at_ hN 18))
  Yd:=Ji K "Moment"
  Jfz:=PySem.W.mg_of X G (Ju (Jc (at_ hB 130)))
  Jx:=⟨(Jc (at_ hB 138)),(Jc (at_ hB 139)),(Jc (at_ hB 140)),(Jc (at_ hN 19))⟩
  Jca:=JE K "Moment" "__init__"
  Jdj:=JQ K (JE K "Moment" "__init__")
  Jam:=⟨Jk (Jc (at_ hF 24)),(Jk (Jc (at_ hF 24))).binds (ps:=["self", "place", "turns", "north", "south", "ribbon", "hand", "word", "heard"]) (fun _ _ _ _ _ _=>Jvt fun _ _ _ _ _ _ _ _ _=>rfl),⟨JW (Jc (at_ hB 36)),(Jc (at_ hB 37)),Yn (Jc (at_ hF 24))⟩⟩
  JdI:=⟨(Jc (at_ hB 141)),JW (Jc (at_ hB 36)),(Jc (at_ hB 37)),(Jc (at_ hB 142))⟩
  YM:=(Jc (at_ hN 20))
  YL:=(Jc (at_ hN 21))
  YN:=(Jc (at_ hN 22))
  Zx:=(Jc (at_ hN 23))
  YE:=(Jc (at_ hN 24))
  Z5:=(Jc (at_ hN 25))
  YK:=(Jc (at_ hN 26))
  Jay:=(Jc (at_ hN 27))
  J4:=Ji K "Game"
  JnB:=PySem.W.mg_of X G (Ju (Jc (at_ hB 131)))
  JR:=⟨(Jc (at_ hB 143)),(Jc (at_ hB 144)),(Jc (at_ hB 145)),(Jc (at_ hN 28))⟩
  Jdz:=JE K "Game" "__init__"
  Jfk:=JQ K (JE K "Game" "__init__")
  JdD:=⟨Jk (Jc (at_ hF 27)),(Jk (Jc (at_ hF 27))).binds (ps:=["self", "board", "place", "turns", "north", "south", "ribbon"]) (fun _ _ _ _ _ _=>Jvu fun _ _ _ _ _ _ _=>rfl),⟨JW (Jc (at_ hB 40)),(Jc (at_ hB 41)),Yn (Jc (at_ hF 27))⟩⟩
  JcW:=JE K "Game" "standing"
  Jcm:=JQ K (JE K "Game" "standing")
  ZU:=⟨Jk (Jc (at_ hF 28)),(Jk (Jc (at_ hF 28))).binds (ps:=["self"]) (fun _ _ _ _ _ _=>Zy fun _=>rfl),⟨JW (Jc (at_ hB 42)),(Jc (at_ hB 43)),Yn (Jc (at_ hF 28))⟩⟩
  Jg0:=JE K "Game" "due"
  Jf9:=JQ K (JE K "Game" "due")
  JaB:=⟨Jk (Jc (at_ hF 29)),(Jk (Jc (at_ hF 29))).binds (ps:=["self"]) (fun _ _ _ _ _ _=>Zy fun _=>rfl),⟨JW (Jc (at_ hB 44)),(Jc (at_ hB 45)),Yn (Jc (at_ hF 29))⟩⟩
  Jfq:=JE K "Game" "named"
  Jd2:=JQ K (JE K "Game" "named")
  JaN:=⟨Jk (Jc (at_ hF 30)),(Jk (Jc (at_ hF 30))).binds (ps:=["self"]) (fun _ _ _ _ _ _=>Zy fun _=>rfl),⟨JW (Jc (at_ hB 46)),(Jc (at_ hB 47)),Yn (Jc (at_ hF 30))⟩⟩
  Jfs:=JE K "Game" "deeds"
  Jd4:=JQ K (JE K "Game" "deeds")
  JaO:=⟨Jk (Jc (at_ hF 31)),(Jk (Jc (at_ hF 31))).binds (ps:=["self"]) (fun _ _ _ _ _ _=>Zy fun _=>rfl),⟨JW (Jc (at_ hB 48)),(Jc (at_ hB 49)),Yn (Jc (at_ hF 31))⟩⟩
  Jgf:=JE K "Game" "over"
  Jfj:=JQ K (JE K "Game" "over")
  Z3:=⟨Jk (Jc (at_ hF 32)),(Jk (Jc (at_ hF 32))).binds (ps:=["self"]) (fun _ _ _ _ _ _=>Zy fun _=>rfl),⟨JW (Jc (at_ hB 50)),(Jc (at_ hB 51)),Yn (Jc (at_ hF 32))⟩⟩
  Jec:=JE K "Game" "winner"
  Jdk:=JQ K (JE K "Game" "winner")
  Jcc:=⟨Jk (Jc (at_ hF 33)),(Jk (Jc (at_ hF 33))).binds (ps:=["self"]) (fun _ _ _ _ _ _=>Zy fun _=>rfl),⟨JW (Jc (at_ hB 52)),(Jc (at_ hB 53)),Yn (Jc (at_ hF 33))⟩⟩
  Jgd:=JE K "Game" "told"
  Jfh:=JQ K (JE K "Game" "told")
  Ja8:=⟨Jk (Jc (at_ hF 34)),(Jk (Jc (at_ hF 34))).binds (ps:=["self"]) (fun _ _ _ _ _ _=>Zy fun _=>rfl),⟨JW (Jc (at_ hB 54)),(Jc (at_ hB 55)),Yn (Jc (at_ hF 34))⟩⟩
  Jcp:=JE K "Game" "check_due"
  JbT:=JQ K (JE K "Game" "check_due")
  Y9:=⟨Jk (Jc (at_ hF 35)),(Jk (Jc (at_ hF 35))).binds (ps:=["self", "hand", "word"]) (fun _ _ _ _ _ _=>Jaf fun _ _ _=>rfl),⟨JW (Jc (at_ hB 56)),(Jc (at_ hB 57)),Yn (Jc (at_ hF 35))⟩⟩
  Jfr:=JE K "Game" "go_on"
  Jd3:=JQ K (JE K "Game" "go_on")
  ZQ:=⟨Jk (Jc (at_ hF 36)),(Jk (Jc (at_ hF 36))).binds (ps:=["self", "deed", "moment"]) (fun _ _ _ _ _ _=>Jaf fun _ _ _=>rfl),⟨JW (Jc (at_ hB 58)),(Jc (at_ hB 59)),Yn (Jc (at_ hF 36))⟩⟩
  Jg1:=JE K "Game" "bid"
  Jga:=JQ K (JE K "Game" "bid")
  Jeu:=⟨Jk (Jc (at_ hF 37)),(Jk (Jc (at_ hF 37))).binds (ps:=["self", "hand", "coins"]) (fun _ _ _ _ _ _=>Jaf fun _ _ _=>rfl),⟨JW (Jc (at_ hB 60)),(Jc (at_ hB 61)),Yn (Jc (at_ hF 37))⟩⟩
  Jed:=JE K "Game" "answer"
  Jdl:=JQ K (JE K "Game" "answer")
  Jcd:=⟨Jk (Jc (at_ hF 38)),(Jk (Jc (at_ hF 38))).binds (ps:=["self", "hand", "coins"]) (fun _ _ _ _ _ _=>Jaf fun _ _ _=>rfl),⟨JW (Jc (at_ hB 62)),(Jc (at_ hB 63)),Yn (Jc (at_ hF 38))⟩⟩
  Jge:=JE K "Game" "step"
  Jfi:=JQ K (JE K "Game" "step")
  JdC:=⟨Jk (Jc (at_ hF 39)),(Jk (Jc (at_ hF 39))).binds (ps:=["self", "hand", "place"]) (fun _ _ _ _ _ _=>Jaf fun _ _ _=>rfl),⟨JW (Jc (at_ hB 64)),(Jc (at_ hB 65)),Yn (Jc (at_ hF 39))⟩⟩
  Jgg:=JE K "Game" "back"
  Jfl:=JQ K (JE K "Game" "back")
  JdE:=⟨Jk (Jc (at_ hF 40)),(Jk (Jc (at_ hF 40))).binds (ps:=["self"]) (fun _ _ _ _ _ _=>Zy fun _=>rfl),⟨JW (Jc (at_ hB 66)),(Jc (at_ hB 67)),Yn (Jc (at_ hF 40))⟩⟩
  JkM:=⟨(Jc (at_ hB 146)),JW (Jc (at_ hB 40)),(Jc (at_ hB 41)),(Jc (at_ hB 147))⟩
  Ja1:=(Jc (at_ hN 29))
  Jfa:=(Jc (at_ hN 30))
  JaI:=(Jc (at_ hN 31))
  Yq:=(Jc (at_ hN 32))
  JU:=Ji K "Board"
  JoB:=PySem.W.mg_of X G (Ju (Jc (at_ hB 132)))
  YU:=⟨(Jc (at_ hB 148)),(Jc (at_ hB 149)),(Jc (at_ hB 150)),(Jc (at_ hN 33))⟩
  JcY:=JE K "Board" "__init__"
  Jd6:=JQ K (JE K "Board" "__init__")
  JfF:=⟨Jk (Jc (at_ hF 46)),(Jk (Jc (at_ hF 46))).binds (ps:=["self", "places", "lanes", "goals"]) (fun _ _ _ _ _ _=>Jii fun _ _ _ _=>rfl),⟨JW (Jc (at_ hB 73)),(Jc (at_ hB 74)),Yn (Jc (at_ hF 46))⟩⟩
  Jbe:=JE K "Board" "check_place"
  JaS:=JQ K (JE K "Board" "check_place")
  Yg:=⟨Jk (Jc (at_ hF 47)),(Jk (Jc (at_ hF 47))).binds (ps:=["self", "place"]) (fun _ _ _ _ _ _=>ZI fun _ _=>rfl),⟨JW (Jc (at_ hB 75)),(Jc (at_ hB 76)),Yn (Jc (at_ hF 47))⟩⟩
  Jft:=JE K "Board" "ways"
  Jd5:=JQ K (JE K "Board" "ways")
  YY:=⟨Jk (Jc (at_ hF 48)),(Jk (Jc (at_ hF 48))).binds (ps:=["self", "place"]) (fun _ _ _ _ _ _=>ZI fun _ _=>rfl),⟨JW (Jc (at_ hB 77)),(Jc (at_ hB 78)),Yn (Jc (at_ hF 48))⟩⟩
  JcX:=JE K "Board" "is_goal"
  Jcn:=JQ K (JE K "Board" "is_goal")
  Jbm:=⟨Jk (Jc (at_ hF 49)),(Jk (Jc (at_ hF 49))).binds (ps:=["self", "place"]) (fun _ _ _ _ _ _=>ZI fun _ _=>rfl),⟨JW (Jc (at_ hB 79)),(Jc (at_ hB 80)),Yn (Jc (at_ hF 49))⟩⟩
  Jm7:=⟨(Jc (at_ hB 151)),JW (Jc (at_ hB 73)),(Jc (at_ hB 74)),(Jc (at_ hB 152))⟩
  Jbj:=(Jc (at_ hN 34))
  Jdb:=(Jc (at_ hN 35))
  Jdc:=(Jc (at_ hN 36))
  Jkc:=⟨(Jc (at_ hB 153)),(Jc (at_ hN 38)),(Jc (at_ hN 39)),(Jc (at_ hN 40)),(Jc (at_ hN 37)),(Jc (at_ hK 0)),(Jc (at_ hK 1)),(Jc (at_ hK 2)),(Jc (at_ hB 154))⟩
  Jei:=⟨(Jc (at_ hB 155)),(Jc (at_ hN 41)),(Jc (at_ hN 42)),(Jc (at_ hN 43)),(Jc (at_ hN 37)),(Jc (at_ hK 0)),(Jc (at_ hK 3)),(Jc (at_ hK 4)),(Jc (at_ hB 156))⟩
  JlV:=⟨(Jc (at_ hB 157)),(Jc (at_ hN 44)),(Jc (at_ hN 45)),(Jc (at_ hN 46)),(Jc (at_ hN 37)),(Jc (at_ hK 0)),(Jc (at_ hK 5)),(Jc (at_ hK 6)),(Jc (at_ hB 158))⟩
  JlT:=⟨(Jc (at_ hB 159)),(Jc (at_ hN 47)),(Jc (at_ hN 48)),(Jc (at_ hN 49)),(Jc (at_ hN 37)),(Jc (at_ hK 0)),(Jc (at_ hK 7)),(Jc (at_ hK 8)),(Jc (at_ hB 160))⟩
  JlU:=⟨(Jc (at_ hB 161)),(Jc (at_ hN 50)),(Jc (at_ hN 51)),(Jc (at_ hN 52)),(Jc (at_ hN 37)),(Jc (at_ hK 0)),(Jc (at_ hK 9)),(Jc (at_ hK 10)),(Jc (at_ hB 162))⟩
  Yp:=⟨(Jc (at_ hB 163)),(Jc (at_ hN 53)),(Jc (at_ hN 54)),(Jc (at_ hN 55)),(Jc (at_ hN 37)),(Jc (at_ hK 0)),(Jc (at_ hK 11)),(Jc (at_ hK 12)),(Jc (at_ hB 164))⟩
  JgD:=(Jc (at_ hK 13))
  JgA:=(Jc (at_ hK 14))
  Jb2:=(Jc (at_ hK 15))
  Jb3:=(Jc (at_ hK 16))
  Jbk:=(Jc (at_ hK 17))
  JcO:=(Jc (at_ hK 18))
  Jb0:=(Jc (at_ hK 19))
  JcA:=(Jc (at_ hK 20))
  Jcz:=(Jc (at_ hK 21))
  Jcy:=(Jc (at_ hK 22))
  Ja3:=(Jc (at_ hK 23))
  JcP:=(Jc (at_ hK 24))
  Jc3:=(Jc (at_ hK 25))
  Jb1:=(Jc (at_ hK 26))
  Jsx:=⟨(Jc (at_ hB 165)),(Jc (at_ hN 56)),(Jc (at_ hN 57)),(Jc (at_ hN 58)),(Jc (at_ hN 37)),(Jc (at_ hK 0)),(Jc (at_ hK 27)),(Jc (at_ hK 28)),(Jc (at_ hB 166))⟩
  Jkb:=⟨(Jc (at_ hB 167)),(Jc (at_ hN 59)),(Jc (at_ hN 60)),(Jc (at_ hN 61)),(Jc (at_ hN 37)),(Jc (at_ hK 0)),(Jc (at_ hK 29)),(Jc (at_ hK 30)),(Jc (at_ hB 168))⟩
  JpE:=⟨(Jc (at_ hB 169)),(Jc (at_ hN 62)),(Jc (at_ hN 63)),(Jc (at_ hN 64)),(Jc (at_ hN 37)),(Jc (at_ hK 0)),(Jc (at_ hK 31)),(Jc (at_ hK 32)),(Jc (at_ hB 170))⟩ }
 obtain ⟨oc,od,kV,doc,pm,an,cdv,ct,osl,z1,z2,z3,z4⟩:=Jqj (Option.some.inj (at_ hF 83));exact ⟨_,fun s v=>by show BindsTo s (JQ K (Ji K "law")) _ _; rw [z1]; exact .of_eq rfl,fun base _ _=>JuG T⟩
def JuT:DefRec:=⟨"law",JeH JgK,JcC JgK,Jn JgK,JuS JgK⟩
theorem JvP:PySem.W.WalkO qv lo0 (PySem.W.XL qv []) (fun _ h=>∃ K:PySem.W.Frag,K.In h∧JpF K) PySem.Challenge.rw_bidmover_k42_whole_taken_back.row.toRowW JuT [] (fun f vs=>PySem.call f vs) :=
 L2.Jq9 (l:=PySem.Challenge.rw_bidmover_k42_whole_taken_back) (n:=63) (k:=14) (x := "_law_script") (CX:=Yy) (sp:=JoQ) (C:=JpF) rfl (by decide) rfl ⟨rfl,by decide,by decide⟩ (fun _ _ y=>y) (fun w K mg fa h hS X G hfa=>JuW hS X G hfa) (fun _ _ a ns hl _ hS=>⟨a,ns,rfl,hS,hl,fun _=>rfl⟩) fun _ _ _ _ z=>z
end Pf
open PySem PySem.W PyProof.Rows
set_option maxRecDepth 100000 in
set_option maxHeartbeats 0 in
theorem PySem.Challenge.cw_bidmover_k42_whole_taken_back_holds : PySem.Challenge.rw_bidmover_k42_whole_taken_back.Holds := by
 refine holds_law Pf.JrM fun JrM=>?_
 refine holds_open (q:=Pf.qv) (loose:=Pf.lo0) (Xt:=Pf.xt) (XP:=XL Pf.qv []) (Yf:=Pf.see) (Ya:=fun _=>Pf.Jmd) (YP:=fun _ h=>∃ K:Frag,K.In h∧Pf.JpF K) (d:=Pf.JuT) (kwd:=[]) Pf.left (fun w s e=>⟨_,L2.JqF _,e⟩) (fun w h h' y hk=>y.elim fun K z=>⟨K,z.1.keeps hk,z.2⟩) (fun s e=>xl_of s (Bool.and_eq_true_iff.mp e).1) XL.keeps ?h1 ?h2 ?h3 (fun s e=>recFacts_of (Bool.and_eq_true_iff.mp e).2) ?h4 JrM ?h5 ⟨rfl,rfl,rfl,rfl,rfl,by decide +kernel⟩ ?hw Pf.JvP
 case h1=>kernel_rfl
 case h2=>kernel_rfl
 case h3=>kernel_rfl
 case h4=>kernel_rfl
 case h5=>kernel_rfl
 case hw=>w_witness2
