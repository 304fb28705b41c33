import PyProof.Rows.All
import Wide.All
import OpenK.AllK
import Wide.FinOn
import Lean
import PyProof.EqAt
import PyProof.EqKinds
import PyProof.TupleCall
import PySem.Challenge.RW_roundcede_k42_whole_one_pact_more
set_option Elab.async false
set_option linter.all false
set_option maxRecDepth 100000
local macro_rules
 | `(term|∅)=>`(by omega)
local macro_rules
 | `(term|⋯)=>`(by decide)
local macro_rules
 | `(tactic|nofun)=>`(tactic|decide +kernel)
local macro_rules
 | `(tactic|and_intros)=>`(tactic|exact ⟨rfl,rfl,rfl,by decide +kernel,rfl,by decide +kernel,by decide +kernel⟩)
local macro_rules
 | `(term|⟨⟩)=>`(by intro _ _ _ _ h;cases h;subst_vars;rfl)
set_option hygiene false in
local macro_rules
 | `(term|())=>`(fun cdv A outer s H vs Q E hr h=>?_)
abbrev wGX:=@List.length_map
abbrev wGY:=@PySem.wpAny_bind
abbrev wGZ:=@if_neg
abbrev wG0:=@List.getElem?_eq_getElem
abbrev wG1:=@if_pos
abbrev wG2:=@PySem.wpAny_pure
abbrev wG3:=@PySem.Heap.get?_push_of_some
abbrev wG4:=@List.getD_eq_getElem?_getD
abbrev wG5:=@Nat.le_refl
abbrev wG6:=@List.getElem?_map
abbrev wG7:=@List.length_append
abbrev wG8:=@Option.some.inj
abbrev wG9:=@List.map_append
abbrev wHa:=@PySem.Heap.lt_size
abbrev wHb:=@PySem.Heap.get?_push_size
abbrev wHc:=@PyProof.Rows.boot_isinstance
abbrev wHd:=@Nat.not_lt_zero
abbrev wHe:=@Nat.le_trans
abbrev wHf:=@Bool.false_ne_true
abbrev wHg:=@Nat.ne_of_lt
abbrev wHh:=@List.size_toArray
abbrev wHi:=@Nat.lt_of_lt_of_le
abbrev wHj:=@List.getElem?_append_right
abbrev wHk:=@List.length_take
abbrev wHl:=@List.getElem?_append_left
abbrev wHm:=@of_decide_eq_true
abbrev wHn:=@Int.toNat_natCast
abbrev wHo:=@List.take_length
abbrev wHp:=@List.mem_append_right
abbrev wHq:=@PySem.wpAny_mono
abbrev wHr:=@PySem.boot_len
abbrev wHs:=@List.getElem_mem
abbrev wHt:=@Array.length_toList
abbrev wHu:=@PySem.Heap.get?_update_other
abbrev wHv:=@PySem.F.plainAttrs_list
abbrev wHw:=@Bool.and_eq_true
abbrev wHx:=@List.append_nil
abbrev wHy:=@decide_eq_false
abbrev wHz:=@of_decide_eq_false
abbrev wHA:=@List.mem_of_getElem?
abbrev wHB:=@decide_eq_true
abbrev wHC:=@List.take_succ
abbrev wHD:=@List.append_assoc
abbrev wHE:=@List.not_mem_nil
abbrev wHF:=@Nat.lt_of_le_of_lt
abbrev wHG:=@PySem.F.slot_list_append
abbrev wHH:=@Classical.byContradiction
abbrev wHI:=@False.elim
abbrev wHJ:=@PySem.F.type_list_append
abbrev wHK:=@Nat.zero_le
abbrev wHL:=@PySem.wpAny_newObj_type
abbrev wHM:=@List.length_singleton
abbrev wHN:=@List.mem_cons
abbrev wHO:=@Array.getElem?_eq_getElem
abbrev wHP:=@List.length_drop
abbrev wHQ:=@PySem.wpAny_holding
abbrev wHR:=@List.mem_cons_of_mem
abbrev wHS:=@PySem.Heap.get?_update_self
abbrev wHT:=@PySem.Heap.size_push
abbrev wHU:=@Rat.intCast_mul
abbrev wHV:=@List.replicate_succ
abbrev wHW:=@List.map_cons
abbrev wHX:=@List.take_of_length_le
abbrev wHY:=@Nat.lt_succ_self
abbrev wHZ:=@List.length_cons
abbrev wH0:=@List.getElem?_eq_none
abbrev wH1:=@Nat.lt_succ_of_lt
abbrev wH2:=@Int.le_refl
abbrev wH3:=@Int.mul_pos
abbrev wH4:=@List.mem_cons_self
abbrev wH5:=@Array.toList_append
abbrev wH6:=@List.length_replicate
abbrev wH7:=@List.length_filter_le
abbrev wH8:=@Array.getElem?_toList
abbrev wH9:=@Nat.le_of_lt
abbrev wIa:=@Int.mul_comm
abbrev wIb:=@List.flatten_cons
abbrev wIc:=@Int.natAbs_mul
abbrev wId:=@PySem.wpAny_field
abbrev wIe:=@PySem.Heap.get?_none_of_le
abbrev wIf:=@Nat.le_of_eq
abbrev wIg:=@Int.le_of_lt
abbrev wIh:=@List.length_range
def wIi {α:Type _} {l:List α} {i:Nat} {a:α} (h:l[i]?=some a):∃h:i < l.length,l[i]=a:=List.getElem?_eq_some_iff.mp h
def wIj {α:Type _} {a b:α} (h:a∈[b]):a=b:=List.mem_singleton.mp h
def wIk {α β:Type _} {o:Option α} {f:α->β} {b:β} (h:o.map f=some b):∃a,o=some a/\f a=b:=Option.map_eq_some_iff.mp h
def wIl {b:Bool} (h:b≠true):b=false:=Bool.eq_false_iff.mpr h
def wIm {α:Type _} {a:α} {s t:List α} (h:a∈s++t):a∈s∨a∈t:=List.mem_append.mp h
def wIn {α:Type _} {a b:α} {l:List α} (h:a∈b::l):a=b∨a∈l:=List.mem_cons.mp h
namespace Hp
open PySem PySem.W PyProof.Rows
def zOz {α β γ:Type} {o:Option α} {f:α->β} {g:α->γ} {b:β} {c:γ} (h1:o.map f=some b) (h2:o.map g=some c):o.map (λs=>(f s,g s))=some (b,c):=by
 cases o with
 | none=>cases h1
 | some s=>rw[Option.map_some] at h1 h2 ⊢;rw[wG8 h1,wG8 h2]
theorem zM2 {α β γ:Type} {o:Option α} {F:α->β × γ} {G:β × γ} (h1:o.map (λs=>(F s).1)=some G.1) (h2:o.map (λs=>(F s).2)=some G.2):o.map F=some G:=zOz h1 h2
noncomputable def zFI (tb:String->Option Builtin) (p:Program) (w:World) (n₀:Nat) (ann:Option Value):Nat->SharedT->Thread->Option SharedT
 | 0,_,_=>none
 | n+1,s,t=>match through t with
  | true=>some s
  | false=>match Fast.tw6613529449190102663 n₀ ann t with
   | false=>none
   | true=>match Fast.tw10156331382660048174 (Fast.tw11892475500146522536 tb) p w s t with
    | some (s',t')=>zFI tb p w n₀ ann n s' t'
    | none=>none
theorem zFt {tb:String->Option Builtin} {p:Program} {w:World} {n₀:Nat} {ann:Option Value}:∀(n:Nat) (s:SharedT) (t:Thread) (s':SharedT),zFI tb p w n₀ ann n s t=some s'->topRun tb p w n₀ ann n s.abs t=some s'.abs
 | 0,s,t,s',h=>by cases h
 | n+1,s,t,s',h=>by
  unfold zFI at h;rw[topRun.eq_2];cases e1:through t with
  | true=>rw[e1] at h;cases h;rfl
  | false=>
   rw[e1] at h;rw[← Fast.te6613529449190102663] at h;cases e2:stepOk n₀ ann t with
   | false=>rw[e2] at h;cases h
   | true=>
    rw[e2] at h;rw[← Fast.te10156331382660048174,← Fast.te11892475500146522536] at h;cases e3:stepT (denote tb) p w s t with
    | none=>rw[e3] at h;cases h
    | some st=>
     obtain⟨s1,t1⟩:=st;rw[e3] at h;have e4:=stepT_spec e3;show (match step (denote tb) p w s.abs t with | .go s' t'=>topRun tb p w n₀ ann n s' t' | .halt _ _=>none)=_;rw[e4];exact zFt n s1 t1 s' h
def zNr:List Obj->Nat->BT->BT
 | [],_,t=>t
 | o::r,i,t=>zNr r (i+1) (t.ins i o)
noncomputable def T0 (P:Params):BT:=zNr (boot_heap P).objs.toList 0 .nil
def zRe (P:Params):absHeap (T0 P) 11 (boot_heap P).life=boot_heap P:=by kernel_rfl
noncomputable def sT (P:Params) (os:OsState):SharedT:=⟨T0 P,11,(boot_heap P).life,Array.mk [],boot_drawn,boot_toks,os⟩
def zPw (P:Params) (os:OsState):(sT P os).abs=⟨boot_heap P,Array.mk [],boot_drawn,boot_toks,os⟩:=by unfold SharedT.abs sT;rw[zRe]
theorem zLk {p:Program} {N:Nat} (e:opening p=plainProg p.main.scope.names) (hN:Nat.ble 600 N=true) (hf:∀s,fenceModules? p s=some s) {β:Type} {f:Shared->β} {v:β} (w:World)
  (h:∀os:OsState,(zFI Fast.tw14364793385576792824 p w 11 ((boot_heap w.params).nsMap mainGlobals (Str.ofString "__annotations__")) N (sT w.params os) (topStub p)).map (λs=>(staticsOk (importedModules p.main.body) (boot_heap w.params) s.abs.heap && namesBound p s.abs.heap && gensDone s.abs && laidKept (boot_heap w.params) s.abs.heap,f s.abs))=some (true,v)):(openEnds treeTable p w N).map f=some v:=by
 obtain⟨s,hs,hv⟩:=wIk (boot_open e hN hf w);unfold openEnds;rw[hs];obtain⟨hh,gs,d,k,os⟩:=s;simp only[Prod.mk.injEq] at hv;obtain⟨rfl,rfl,rfl,rfl⟩:=hv;obtain⟨s1,h1,h2⟩:=wIk (h os);rw[← Fast.te14364793385576792824] at h1;have h3:=zFt _ _ _ _ h1;rw[zPw] at h3;simp only[Prod.mk.injEq] at h2;obtain⟨h4,h5⟩:=h2;show (topFrom treeTable p w N _).map f=some v;unfold topFrom;have e1:((⟨boot_heap w.params,Array.mk [],boot_drawn,boot_toks,os⟩:Shared).heap.isNs mainGlobals && (⟨boot_heap w.params,Array.mk [],boot_drawn,boot_toks,os⟩:Shared).gens.size == 0)=true:=by kernel_rfl
 rw[e1];show Option.map f ((topRun treeTable p w (boot_heap w.params).objs.size ((boot_heap w.params).nsMap mainGlobals (Str.ofString "__annotations__")) N _ (topStub p)).bind _)=_;rw[show (boot_heap w.params).objs.size=11 from by kernel_rfl,h3];show Option.map f (match _ with | true=>_ | false=>_)=_;rw[h4];exact congrArg some h5
noncomputable abbrev tP:Program:=PySem.Challenge.pw_roundcede_k42_whole_one_pact_more
noncomputable def vw:Program:={ tP with main:={ tP.main with body:=([96]:List Nat).map λi=>tP.main.body.getD i (.Pass ⟨0,0,0,0⟩) } }
noncomputable abbrev ls:List Str:=(["_wall","CedeError","BadName","KnownHouse","UnknownHouse","ToItself","DaysTurned","OutOfRange","TooMuch","ShutIn","Full","NothingDone"]:List Str)++(["Unclear","LAST_DAY","turning_days","holding","stretches","LETTERS","LONGEST_NAME","MOST_COINS","MOST_ROUNDS","check_name","check_range","check_day"]:List Str)++(["check_amount","check_many","place_of","greatest_divisor","lowest","minus","times","less","kept","spread","shut_in","loss_rows"]:List Str)++(["cut_down","strike_out","arrivals","shares","shares_equations","WHOLE","ways_of","ways_on","looks","check_terms","whom_shut","greatest_rest"]:List Str)++(["coins","coins_purse","next_round","walk","MOST_HOUSES","MOST_PACTS","MOST_LOSSES","deed_row","Book","_law_at","_law_draws","_law_names"]:List Str)++(["_law_pact","_law_on","_law_left","_law_closed","_law_due","_law_built","_law_book","_law_word","_law_call","_law_ask","_law_refused","_law_gcd"]:List Str)++(["_law_made","_law_sum","_law_more","_law_struck","_law_whole","_law_fraction","_law_fractions","_law_same","_law_tuples","_law_texts","_law_table","_law_less"]:List Str)++(["_law_day_right"]:List Str)
noncomputable def xt:Shared->Bool:=λs=>xlAt vw [] s && recOk (RowW.records (OpenRow.toRowW (OpenLaw.row PySem.Challenge.rw_roundcede_k42_whole_one_pact_more))) s
def zRc {a b:Bool} (h1:a=true) (h2:b=true):(a && b)=true:=by rw[h1,h2];rfl
def wlr:(OpenLaw.row PySem.Challenge.rw_roundcede_k42_whole_one_pact_more).wellSaid=true:=by kernel_rfl
def wl:OpenLaw.wellSaid PySem.Challenge.rw_roundcede_k42_whole_one_pact_more=true:=by
 unfold OpenLaw.wellSaid
 repeat' (with_reducible refine zRc ?_ ?_)
 exact wlr
 all_goals kernel_rfl
abbrev zRX (w:World):Prop:=(openEnds treeTable tP w 10936).map (openSeen vw ls (importedModules tP.main.body) xt true)=some (openGood vw ls)
def hp0 (w:World):zRX w:=by
 refine zLk rfl rfl (λ_=>rfl) w λos=>?_;rw[PySem.W.Fast.te4187177175401517315]
 kernel_rfl
set_option hygiene false in
local macro_rules
 | `(tactic| o_head $H)=>`(tactic| exact (λ_=>hh) $H)
def zOT (hh:(OpenLaw.row PySem.Challenge.rw_roundcede_k42_whole_one_pact_more).Holds):(OpenLaw.row PySem.Challenge.rw_roundcede_k42_whole_one_pact_more).Holds:=by k_head
noncomputable def p0:Params:={ strHash:=λ_=>0,shareClass:=λ_=>0,mergeTok:=id,idOf:=λ_=>0,idOfShared:=λ_ _=>0,followText:=λ_=>false,idOfImm:=λ_=>0 }
noncomputable def ka:List Addr:=(zOT.heap_1 p0).map (·.1)
def ke:∀P,ka=(zOT.heap_1 P).map (·.1):=λ_=>by kernel_rfl
def zOy {α β γ δ:Type} {o:Option α} {f:α->β->γ} {l:List β} {m:List δ} {g:δ->γ} (n:Nat) (h1:o.map (λs=>(l.take n).map (f s))=some ((m.take n).map g)) (h2:o.map (λs=>(l.drop n).map (f s))=some ((m.drop n).map g)):o.map (λs=>l.map (f s))=some (m.map g):=by
 cases o with
 | none=>cases h1
 | some s=>
  rw[Option.map_some] at h1 h2 ⊢;rw[show l.map (f s)=(l.take n).map (f s)++(l.drop n).map (f s) by rw[← wG9,List.take_append_drop],wG8 h1,wG8 h2,← wG9,List.take_append_drop]
abbrev zQt (w:World):Prop:=(openEnds treeTable tP w 10936).map (λs=>((ka).take 200).map s.heap.get?)=some (((zOT.heap_1 w.params).take 200).map λp=>some p.2)
def zQW (w:World):zQt w:=by
 refine zLk rfl rfl (λ_=>rfl) w λos=>?_
 kernel_rfl
abbrev zQs (w:World):Prop:=(openEnds treeTable tP w 10936).map (λs=>((ka).drop 200).map s.heap.get?)=some (((zOT.heap_1 w.params).drop 200).map λp=>some p.2)
def zQV (w:World):zQs w:=by
 refine zLk rfl rfl (λ_=>rfl) w λos=>?_
 kernel_rfl
def hp3 (w:World):(openEnds treeTable tP w 10936).map (Hook.obs (kHook zOT.heap_1 ka ke))=some (Hook.val (kHook zOT.heap_1 ka ke) w):=zOy 200 (zQW w) (zQV w)
end Hp
set_option Elab.async false
set_option linter.all false
set_option maxRecDepth 100000
namespace L2
open PySem PySem.Spec PyProof.Rows
abbrev Key:=Sum Int Str
def zPZ:Key->Value->Bool
 | .inl k,v=>Value.isInt k v
 | .inr x,v=>Value.isStrOf x v
def zRI (w:World):Key->Int
 | .inl k=>hashInt k
 | .inr x=>hashStr w x
def zAP:∀{k:Key} {v:Value},zPZ k v=true->(∃i t,k=Sum.inl i/\v=Value.int i t)∨(∃x t,k=Sum.inr x/\v=Value.str x t)
 | .inl i,v,h=>by obtain⟨t,e⟩:=Value.isInt_shape (k:=i) (v:=v) h;exact .inl ⟨i,t,rfl,e⟩
 | .inr x,v,h=>by obtain⟨t,e⟩:=Value.isStrOf_shape (x:=x) (v:=v) h;exact .inr ⟨x,t,rfl,e⟩
def zPY (a b:Int):decide ((Sum.inl a:Key)=Sum.inl b)=(a == b):=by
 by_cases e:a=b
 ·subst e;simp
 have h:¬(Sum.inl a:Key)=Sum.inl b:=λq=>e (Sum.inl.inj q);rw[wHy h];exact (beq_eq_false_iff_ne.mpr e).symm
def zPV (a b:Str):decide ((Sum.inr a:Key)=Sum.inr b)=decide (a=b):=by
 by_cases e:a=b
 ·subst e;simp
 have h:¬(Sum.inr a:Key)=Sum.inr b:=λq=>e (Sum.inr.inj q);rw[wHy h,wHy e]
theorem zPX (a:Int) (b:Str):decide ((Sum.inl a:Key)=Sum.inr b)=false:=wHy (λq=>nomatch q)
def zPW (a:Str) (b:Int):decide ((Sum.inr a:Key)=Sum.inl b)=false:=wHy (λq=>nomatch q)
def zIi (prog:Program) (w:World):PySem.KeyKind prog w Key where
 is:=zPZ
 hash:=zRI w
 inj:=λv a b ha hb=>by
  rcases zAP ha with ⟨i,t,rfl,rfl⟩ | ⟨x,t,rfl,rfl⟩
  ·rcases zAP hb with ⟨j,u,rfl,e⟩ | ⟨y,u,rfl,e⟩
   ·injection e with e1 _;rw[e1]
   exact nomatch e
  rcases zAP hb with ⟨j,u,rfl,e⟩ | ⟨y,u,rfl,e⟩
  ·exact nomatch e
  injection e with e1 _;rw[e1]
 byValue:=λk v h=>by rcases zAP h with ⟨i,t,rfl,rfl⟩ | ⟨x,t,rfl,rfl⟩<;>rfl
 pyHash:=λhv h=>by
  rcases zAP hv with ⟨i,t,rfl,rfl⟩ | ⟨x,t,rfl,rfl⟩
  ·exact wpAny_pyHash_int h
  exact wpAny_pyHash_str h
 eqBool:=λhu hv h=>by
  rcases zAP hu with ⟨i,t,rfl,rfl⟩ | ⟨x,t,rfl,rfl⟩
  ·rcases zAP hv with ⟨j,u,rfl,rfl⟩ | ⟨y,u,rfl,rfl⟩
   ·rw[zPY] at h;exact wpAny_eqBool_int h
   rw[zPX] at h;exact SeqAt.EqAt.int_str i t y u _ _ _ _ h
  rcases zAP hv with ⟨j,u,rfl,rfl⟩ | ⟨y,u,rfl,rfl⟩
  ·rw[zPW] at h;exact SeqAt.EqAt.str_int x t j u _ _ _ _ h
  rw[zPV] at h;exact wpAny_eqBool_str h
 «strs»:=λk x t v h=>by
  rcases zAP h with ⟨i,u,rfl,e⟩ | ⟨y,u,rfl,e⟩
  ·exact nomatch e
  injection e with e1 _
  subst e1;cases v<;>rfl
inductive V where
 | non | bl (b:Bool) | int (i:Int) | str (x:Str) | byt (b:Array UInt8) | flt (b:UInt64) | ref (a:Addr) | ty (n:String)
 deriving DecidableEq
def zBl:V->Value->Prop
 | .non,u=>u=Value.none
 | .bl b,u=>u=Value.bool b
 | .int i,u=>∃t,u=Value.int i t
 | .str x,u=>∃t,u=Value.str x t
 | .byt b,u=>∃t,u=Value.bytes b t
 | .flt b,u=>∃t,u=Value.float b t
 | .ref a,u=>u=Value.ref a
 | .ty n,u=>u=Value.type n
abbrev zA7:List V->List Value->Prop:=Paired zBl
def zA7.length {xs:List V} {us:List Value} (r:zA7 xs us):xs.length=us.length:=Paired.length r
theorem zA7.get:∀{xs:List V} {us:List Value} {i:Nat} {x:V},zA7 xs us->xs[i]?=some x->∃u,us[i]?=some u/\zBl x u
 | _,_,_,_,.nil,e=>by simp at e
 | _,_,0,_,.cons r _,e=>by simp at e;subst e;exact⟨_,rfl,r⟩
 | _,_,i+1,x,.cons _ t,e=>by obtain⟨u,h1,h2⟩:=zA7.get (i:=i) (x:=x) t (by simpa using e);exact⟨u,by simpa using h1,h2⟩
theorem zA7.set {x:V} {u:Value} (r:zBl x u):∀{xs:List V} {us:List Value} (i:Nat),zA7 xs us->zA7 (xs.set i x) (us.set i u)
 | _,_,_,.nil=>.nil
 | _,_,0,.cons _ t=>.cons r t
 | _,_,i+1,.cons q t=>.cons q (zA7.set r i t)
theorem zA7.append:∀{xs ys:List V} {us ws:List Value},zA7 xs us->zA7 ys ws->zA7 (xs++ys) (us++ws)
 | _,_,_,_,.nil,s=>s
 | _,_,_,_,.cons r t,s=>.cons r (zA7.append t s)
theorem zA7.take:∀{xs:List V} {us:List Value} (n:Nat),zA7 xs us->zA7 (xs.take n) (us.take n)
 | _,_,0,_=>.nil
 | _,_,_+1,.nil=>.nil
 | _,_,n+1,.cons r t=>.cons r (zA7.take n t)
theorem zA7.drop:∀{xs:List V} {us:List Value} (n:Nat),zA7 xs us->zA7 (xs.drop n) (us.drop n)
 | _,_,0,r=>r
 | _,_,_+1,.nil=>.nil
 | _,_,n+1,.cons _ t=>zA7.drop n t
def zA7.none_of:∀{xs:List V} {us:List Value} {i:Nat},zA7 xs us->xs[i]?=none->us[i]?=none:=λ{xs us i} r e=>by have h1:=r.length;have h2:xs.length<=i:=List.getElem?_eq_none_iff.mp e;exact List.getElem?_eq_none_iff.mpr ∅
def zH1:Option V->Option Value->Prop
 | some v,some u=>zBl v u
 | none,none=>True
 | _,_=>False
def KV {κ:Type}:List (κ × V)->List (κ × Value)->Prop:=Paired λ(p:κ × V) (q:κ × Value)=>p.1=q.1/\zBl p.2 q.2
def kV:Key->V
 | .inl i=>.int i
 | .inr x=>.str x
inductive HO where
 | lst (xs:List V)
 | tup (xs:List V)
 | dK (aG:List (Key × V)) | dT (aG:List (List Key × V))
 | set (S:Int->Bool) (n:Nat)
 | ins (C dx:Addr) (fs:List (Str × V))
 | own (x:Addr)
 | xd (fs:List (Str × V))
 | met (f x:Addr)
 | rng (lo hi:Int)
 | frz (o:Obj) (u:HO)
 | tbl (ps:Array Value)
 | ext (φ:Heap->Prop)
abbrev Hp:=Addr->Option HO
def upd (H:Hp) (a:Addr) (o:HO):Hp:=λb=>if b=a then some o else H b
def zB {H:Hp} {a:Addr} {o:HO}:upd H a o a=some o:=by unfold upd;rw[wG1 rfl]
theorem zO {H:Hp} {a b:Addr} {o:HO} (h:b≠a):upd H a o b=H b:=by unfold upd;rw[wGZ h]
theorem zBx {H:Hp} {a:Addr} {o u:HO}:upd (upd H a o) a u=upd H a u:=by funext b;unfold upd;split<;>rfl
def zBG {H:Hp} {a b:Addr} {o u:HO} (h:H a=some o) (h':H b=some u) (d:o≠u):a≠b:=by intro e;subst e;rw[h] at h';exact d (wG8 h')
def zP {H:Hp} {a b:Addr} {o:HO} (h:H a=some o) (h':H b=none):a≠b:=by intro e;subst e;rw[h] at h';cases h'
section
variable (P:Program) (w:World)
def ObjOk (H:Hp) (h:Heap) (a:Addr):HO->Prop
 | .lst xs=>xs.length<=sizeLine/\∃(its:List Value) (n:Nat),zA7 xs its/\h.get? a=some { cls:=.type "list",data:=.seq its.toArray n }
 | .tup xs=>xs.length<=sizeLine/\∃its:List Value,zA7 xs its/\IsTup h a its.toArray
 | .dK aG=>aG.length<=sizeLine/\(a == sysModules)=false/\∃vs,KV aG vs/\h.DictOf (zIi P w) a vs
 | .dT aG=>aG.length<=sizeLine/\(a == sysModules)=false/\∃xs:List (List Key × Addr × Value),
   Paired (λ(p:List Key × V) (q:List Key × Addr × Value)=>p.1=q.1/\H q.2.1=some (.tup (p.1.map kV))/\zBl p.2 q.2.2) aG xs/\
   ∃o es ep,h.get? a=some o/\o.ExactDict/\o.data=.dict es ep/\es.toList=xs.map (entryOfKey (tupleKind (zIi P w)))/\(xs.map (·.1)).Nodup
 | .set S n=>h.SetOf (intKind P w) a S n
 | .ins C dx fs=>H dx=some (.own a)/\fs.length<=1000/\dx≠a/\h.get? a=some (W.instObj C dx)/\
   ∃mA,h.Ns1 dx mA/\(∀f,zH1 (fs.lookup f) (mA f))/\PySem.Within mA (fs.map (·.1))
 | .own _=>∃o,h.get? a=some o
 | .xd fs=>∃mA,h.Ns1 a mA/\∀f,zH1 (fs.lookup f) (mA f)
 | .rng lo hi=>∃t u v,h.get? a=some { cls:=.type "range",data:=.fields #[.int lo t,.int hi u,.int 1 v] }
 | .frz o u=>h.get? a=some o/\ObjOk H h a u
 | .tbl ps=>h.get? a=some { cls:=.none,data:=.fields ps }
 | .met f x=>h.get? a=some (W.methodObj (.ref f) (.ref x))
 | .ext φ=>φ h/\(∃o,h.get? a=some o)/\∀h1 h2:Heap,φ h1->(∀o,h1.get? a=some o->h2.get? a=some o)->φ h2
def HOk (H:Hp) (h:Heap):Prop:=∀a o,H a=some o->ObjOk P w H h a o
end
section
variable {P:Program} {w:World} {H H':Hp} {h h':Heap} {a:Addr} {o:HO}
def ObjOk.lt (x:ObjOk P w H h a o):a < h.objs.size:=by
 cases o with
 | lst xs=>obtain⟨_,_,_,_,e⟩:=x;exact wHa e
 | tup xs=>obtain⟨_,_,_,p⟩:=x;exact p.lt
 | dK aG=>obtain⟨_,_,_,_,o,_,_,e,_⟩:=x;exact wHa e
 | dT aG=>obtain⟨_,_,_,_,o,_,_,e,_⟩:=x;exact wHa e
 | set S n=>obtain⟨o,_,_,_,e,_⟩:=x;exact wHa e
 | ins C dx fs=>obtain⟨_,_,_,e,_⟩:=x;exact wHa e
 | own y=>obtain⟨_,e⟩:=x;exact wHa e
 | xd fs=>obtain⟨_,⟨_,_,_,e,_⟩,_⟩:=x;exact wHa e
 | rng lo hi=>obtain⟨_,_,_,e⟩:=x;exact wHa e
 | frz ob u=>obtain⟨e,_⟩:=x;exact wHa e
 | tbl ps=>exact wHa (show h.get? a=some _ from x)
 | met f y=>exact wHa (show h.get? a=some _ from x)
 | ext φ=>obtain⟨_,⟨_,e⟩,_⟩:=x;exact wHa e
theorem Paired.mapP {α β:Type} {F G:α->β->Prop}:∀{l₁:List α} {l₂:List β},Paired F l₁ l₂->(∀a b,F a b->G a b)->Paired G l₁ l₂
 | _,_,.nil,_=>.nil
 | _,_,.cons r t,f=>.cons (f _ _ r) (Paired.mapP t f)
def ObjOk.stay (x:ObjOk P w H h a o) (k:∀b u,(b=a∨H b=some (.own a))->h.get? b=some u->h'.get? b=some u)
  (ho:∀b,H b=some (.own a)->H' b=some (.own a)) (ht:∀b xs,H b=some (.tup xs)->H' b=some (.tup xs)):ObjOk P w H' h' a o:=by
 induction o with
 | lst xs=>obtain⟨z,its,n,r,e⟩:=x;exact⟨z,its,n,r,k _ _ (.inl rfl) e⟩
 | tup xs=>obtain⟨z,its,r,ob,e,c⟩:=x;exact⟨z,its,r,ob,k _ _ (.inl rfl) e,c⟩
 | dK aG=>obtain⟨z,y,vs,r,ob,es,ep,e,c⟩:=x;exact⟨z,y,vs,r,ob,es,ep,k _ _ (.inl rfl) e,c⟩
 | dT aG=>
  obtain⟨z,y,xs,r,ob,es,ep,e,c⟩:=x;exact⟨z,y,xs,Paired.mapP r λp q z=>⟨z.1,ht _ _ z.2.1,z.2.2⟩,ob,es,ep,k _ _ (.inl rfl) e,c⟩
 | set S n=>obtain⟨ob,es,ep,t,e,c⟩:=x;exact⟨ob,es,ep,t,k _ _ (.inl rfl) e,c⟩
 | ins C dx fs=>
  obtain⟨d,z,ne,e,mA,⟨od,es,ep,e2,c⟩,r⟩:=x;exact⟨ho _ d,z,ne,k _ _ (.inl rfl) e,mA,⟨od,es,ep,k _ _ (.inr d) e2,c⟩,r⟩
 | own y=>obtain⟨ob,e⟩:=x;exact⟨ob,k _ _ (.inl rfl) e⟩
 | xd fs=>obtain⟨mA,⟨od,es,ep,e,c⟩,r⟩:=x;exact⟨mA,⟨od,es,ep,k _ _ (.inl rfl) e,c⟩,r⟩
 | rng lo hi=>obtain⟨t,u,v,e⟩:=x;exact⟨t,u,v,k _ _ (.inl rfl) e⟩
 | frz ob u ih=>obtain⟨e,q⟩:=x;exact⟨k _ _ (.inl rfl) e,ih q⟩
 | tbl ps=>
  have e:h.get? a=some { cls:=.none,data:=.fields ps }:=x;show h'.get? a=some { cls:=.none,data:=.fields ps };exact k a _ (.inl rfl) e
 | met f y=>
  have e:h.get? a=some (W.methodObj (.ref f) (.ref y)):=x;show h'.get? a=some (W.methodObj (.ref f) (.ref y));exact k a _ (.inl rfl) e
 | ext φ=>obtain⟨p,⟨o,e⟩,st⟩:=x;exact⟨st _ _ p λo q=>k _ _ (.inl rfl) q,⟨o,k _ _ (.inl rfl) e⟩,st⟩
def HOk.lt (x:HOk P w H h) (e:H a=some o):a < h.objs.size:=(x a o e).lt
def HOk.fresh (x:HOk P w H h) (e:h.objs.size<=a):H a=none:=by
 cases q:H a with
 | none=>rfl
 | some u=>exact absurd (wHi (x.lt q) e) (Nat.lt_irrefl _)
def HOk.kept (x:HOk P w H h) (k:∀b u,h.get? b=some u->h'.get? b=some u):HOk P w H h':=λa o e=>
 (x a o e).stay (λb u _ q=>k b u q) (λ_ q=>q) λ_ _ q=>q
def HOk.laid (x:HOk P w H h) (k:∀b u,h.get? b=some u->h'.get? b=some u) (hp:h.objs.size<=a) (new:ObjOk P w (upd H a o) h' a o):HOk P w (upd H a o) h':=λb u e=>by
 have hn:=x.fresh hp;by_cases hb:b=a
 ·subst hb;rw[zB] at e;cases e;exact new
 rw[zO hb] at e;exact (x b u e).stay (λc v _ q=>k c v q) (λc q=>by rw[zO (zP q hn)];exact q) λc xs q=>by rw[zO (zP q hn)];exact q
end
def Rd (H:Hp) (a:Addr) (u:HO):Prop:=H a=some u∨∃o,H a=some (.frz o u)
def Rd.of {H:Hp} {a:Addr} {u:HO} (h:H a=some u):Rd H a u:=.inl h
def Rd.ok {P:Program} {w:World} {H:Hp} {h:Heap} {a:Addr} {u:HO} (r:Rd H a u) (x:HOk P w H h):ObjOk P w H h a u:=by
 rcases r with r | ⟨o,r⟩
 ·exact x a u r
 obtain⟨_,q⟩:=x a _ r;exact q
def Mut:Option HO->Prop
 | some (.lst _)=>True
 | some (.dK _)=>True
 | some (.dT _)=>True
 | some (.set _ _)=>True
 | some (.ins _ _ _)=>True
 | some (.ext _)=>True
 | _=>False
section
variable {P:Program} {w:World} {H:Hp} {h h':Heap} {x e:Addr} {o':HO}
def HOk.write (ok:HOk P w H h) (mu:Mut (H x)) (he:e=x∨H e=some (.own x)) (k:∀b u,b≠e->h.get? b=some u->h'.get? b=some u) (iI:∃u,h'.get? e=some u)
  (new:ObjOk P w (upd H x o') h' x o'):HOk P w (upd H x o') h':=λb u q=>by
 have jn:∀c y,H c=some (.own y)->c≠x:=λc y r z=>by subst z;rw[r] at mu;exact mu
 have nu:∀c xs,H c=some (.tup xs)->c≠x:=λc xs r z=>by subst z;rw[r] at mu;exact mu
 by_cases hb:b=x
 ·subst hb;rw[zB] at q;cases q;exact new
 rw[zO hb] at q;by_cases hbe:b=e
 ·have q':H b=some (.own x):=by
   rcases he with z | z
   ·exact absurd (hbe.trans z) hb
   rw[hbe];exact z
  rw[q] at q';cases q';obtain⟨v,hv⟩:=iI;exact⟨v,by rw[hbe];exact hv⟩
 refine (ok b u q).stay (λc v hc r=>k c v ?_ r) (λc r=>by rw[zO (jn c b r)];exact r) λc xs r=>by rw[zO (nu c xs r)];exact r
 rcases hc with rfl | hc
 ·exact hbe
 rintro rfl;rcases he with z | z
 ·exact jn c b hc z
 rw[hc] at z;cases z;exact hb rfl
end
structure Un (fs ex:List Addr) (H H':Hp) (h h':Heap):Prop where
 keep:∀b o,h.get? b=some o->H b=none->b∉fs->b∉ex->h'.get? b=some o
 slot:∀b o,h.get? b=some o->H b=none->b∈fs->b∉ex->∃sl,h'.get? b=some { o with slots:=sl }
 free:∀b o,h.get? b=some o->H b=none->b∉ex->H' b=none
 there:∀b o,h.get? b=some o->b∉ex->∃o',h'.get? b=some o'
 tups:∀b xs,H b=some (.tup xs)->H' b=some (.tup xs)
 frzs:∀b o u,H b=some (.frz o u)->H' b=some (.frz o u)
 tbls:∀b ps,H b=some (.tbl ps)->∃more,H' b=some (.tbl (ps++more))
section
variable {fs fe ex ex':List Addr} {H H1 H2:Hp} {h h1 h2 h':Heap} {a x e:Addr} {o:HO}
def Un.any (u:Un fs ex H H1 h h1) {b:Addr} {ob:Obj} (q:h.get? b=some ob) (n:H b=none) (hx:b∉ex):∃sl,h1.get? b=some { ob with slots:=sl }:=by
 by_cases hb:b∈fs
 ·exact u.slot b ob q n hb hx
 exact⟨ob.slots,u.keep b ob q n hb hx⟩
def Un.trans (a:Un fs ex H H1 h h1) (b:Un fs ex H1 H2 h1 h2):Un fs ex H H2 h h2 where
 keep:=λc ob q n hc hx=>b.keep c ob (a.keep c ob q n hc hx) (a.free c ob q n hx) hc hx
 slot:=λc ob q n hc hx=>by obtain⟨sl,e1⟩:=a.slot c ob q n hc hx;obtain⟨iZ,e2⟩:=b.slot c _ e1 (a.free c ob q n hx) hc hx;exact⟨iZ,e2⟩
 free:=λc ob q n hx=>by obtain⟨o',e1⟩:=a.there c ob q hx;exact b.free c o' e1 (a.free c ob q n hx) hx
 there:=λc ob q hx=>by obtain⟨o',e1⟩:=a.there c ob q hx;exact b.there c o' e1 hx
 tups:=λc xs q=>b.tups c xs (a.tups c xs q)
 frzs:=λc ob xs q=>b.frzs c ob xs (a.frzs c ob xs q)
 tbls:=λc ps q=>by obtain⟨m1,e1⟩:=a.tbls c ps q;obtain⟨m2,e2⟩:=b.tbls c _ e1;exact⟨m1++m2,by rw[e2,Array.append_assoc]⟩
def Un.kept (k:∀b u,h.get? b=some u->h'.get? b=some u):Un fs ex H H h h':=
 ⟨λb ob q _ _ _=>k b ob q,λb ob q _ _ _=>⟨ob.slots,k b ob q⟩,λ_ _ _ n _=>n,λb ob q _=>⟨ob,k b ob q⟩,λ_ _ q=>q,λ_ _ _ q=>q,λ_ ps q=>⟨#[],by rw[q];simp⟩⟩
def Un.refl:Un fs ex H H h h:=Un.kept λ_ _ q=>q
def Un.laid (k:∀b u,h.get? b=some u->h'.get? b=some u) (hp:h.objs.size<=a) (hn:H a=none):Un fs ex H (upd H a o) h h' where
 keep:=λb u q _ _ _=>k b u q
 slot:=λb u q _ _ _=>⟨u.slots,k b u q⟩
 free:=λb u q n _=>by rw[zO (wHg (wHi (wHa q) hp))];exact n
 there:=λb u q _=>⟨u,k b u q⟩
 tups:=λb xs q=>by rw[zO (zP q hn)];exact q
 frzs:=λb u xs q=>by rw[zO (zP q hn)];exact q
 tbls:=λb ps q=>⟨#[],by rw[zO (zP q hn),q];simp⟩
def Un.write (mu:Mut (H x)) (he:e=x∨H e=some (.own x)) (k:∀b u,b≠e->h.get? b=some u->h'.get? b=some u) (iI:∃u,h'.get? e=some u):Un fs ex H (upd H x o) h h':=by
 have hx:∀b,H b=none->b≠x:=λb n z=>by subst z;rw[n] at mu;exact mu
 have hb:∀b,H b=none->b≠e:=λb n z=>by
  subst z;rcases he with r | r
  ·exact hx b n r
  rw[n] at r;cases r
 have hm:∀b u,H b=some u->¬Mut (some u)->b≠x:=λb u q nm z=>by subst z;rw[q] at mu;exact nm mu
 refine⟨λb u q n _ _=>k b u (hb b n) q,λb u q n _ _=>⟨u.slots,k b u (hb b n) q⟩,λb u q n _=>by rw[zO (hx b n)];exact n,λb u q _=>?_,
  λb xs q=>by rw[zO (hm b _ q λz=>z)];exact q,λb u xs q=>by rw[zO (hm b _ q λz=>z)];exact q,λb ps q=>⟨#[],by rw[zO (hm b _ q λz=>z),q];simp⟩⟩
 by_cases hbe:b=e
 ·subst hbe;exact iI
 exact⟨u,k b u hbe q⟩
def Un.mono (u:Un fs ex H H1 h h1) (hs:∀b∈fs,b∈fe) (hx:∀b∈ex,b∈ex'):Un fe ex' H H1 h h1:=
 ⟨λb ob q n hb he=>u.keep b ob q n (λz=>hb (hs b z)) λz=>he (hx b z),λ_ _ q n _ he=>u.any q n λz=>he (hx _ z),λb ob q n he=>u.free b ob q n λz=>he (hx b z),λb ob q he=>u.there b ob q λz=>he (hx b z),u.tups,u.frzs,u.tbls⟩
end
def trk (h:Heap) (H:Hp):List Addr:=(List.range h.objs.size).filter λa=>(H a).isSome
def zMB (h:Heap) (H:Hp):Heap:=W.hideAll h (trk h H)
def zLb (h:Heap) (H:Hp):(zMB h H).objs.size=h.objs.size:=W.hideAll_size _ _
def zMA {h:Heap} {H:Hp} {b:Addr} {o:Obj} (e:h.get? b=some o) (n:H b=none):(zMB h H).get? b=some o:=
 W.hideAll_get _ e λhm=>by have q:(H b).isSome=true:=(List.mem_filter.mp hm).2;rw[n] at q;simp at q
def zOv {h:Heap} {H:Hp} {b:Addr} {o:Obj} (e:(zMB h H).get? b=some o):h.get? b=some o/\H b=none:=by
 have e':h.get? b=some o:=W.of_hideAll (trk h H) e;refine⟨e',?_⟩;cases q:H b with
 | none=>rfl
 | some x=>
  have hm:b∈trk h H:=List.mem_filter.mpr ⟨List.mem_range.mpr (wHa e'),by simp[q]⟩;have z:(zMB h H).get? b=none:=W.hideAll_none (trk h H) hm;rw[z] at e;cases e
def zOO (g h:Heap) (L:Addr):List (Addr × Obj):=(List.range h.objs.size).filterMap λa=>if a=L∨(g.get? a).isSome=true then none else (h.get? a).map λo=>(a,o)
def rest (g h:Heap) (L d:Addr):List (Addr × Obj):=(zOO g h L).filter λp=>decide (p.1≠d)
structure Mod (K:W.Frag) (mg:Str->Option Value) (base:Heap):Prop where
 kin:K.In base
 glob:base.Ns mainGlobals mg
 blt:∃mb,base.Ns builtinsNs mb/\∀x:Str,x≠"__name__"->mb x=bootBuiltins x
 nolimit:base.NoLimit
 seer:base.NoSeer
structure Cx where
 prog:Program
 w:World
 K:W.Frag
 mg:Str->Option Value
 base:Heap
 A:Around
 N:List Str
 s₀:Shared
 H₀:Hp
 env:Env
 outer:List Env
 stack:List Env
 ex:List Addr
 fn:Str->Bool
 calm:Bool
 pn:List (Addr × Obj)
 xe:Value->Shared->Prop
def frs (l:List Env):List Addr:=l.filterMap (·.frame)
abbrev Cx.fs (X:Cx):List Addr:=frs X.outer
def Vis (sc:Scope) (x:Str):Prop:=sc.names.lookup x=some .local∨sc.names.lookup x=some .cell∨sc.names.lookup x=some .free
def Loc (sc:Scope) (x:Str):Prop:=sc.names.lookup x=some .local∨sc.names.lookup x=some .cell
def zRY (env:Env) (h:Heap) (m:Str->Option Value) (x:Str) (u:Value):Prop:=
 (env.kindOf x=some .local/\m x=some u)∨((env.kindOf x=some .cell∨env.kindOf x=some .free)/\∃c,env.cells.lookup x=some c/\h.IsCell c (some u))
structure Cx.Ok (X:Cx):Prop where
 mod:Mod X.K X.mg X.base
 kind:X.env.scope.kind=.function
 glob:X.env.globals=mainGlobals
 blt:X.env.builtins=builtinsNs
 above:X.s₀.heap.objs.size<=X.env.locals
 inj:∀x y c,X.env.cells.lookup x=some c->X.env.cells.lookup y=some c->x=y
 has:∀x,(X.env.kindOf x=some .cell∨X.env.kindOf x=some .free)->∃c,X.env.cells.lookup x=some c
 cab:∀x c,X.fn x=true->X.env.cells.lookup x=some c->X.s₀.heap.objs.size<=c
 hd:X.calm=true->X.A.handled=none
 frames:X.A.frames=some X.stack
 stk:X.stack=X.outer∨(X.stack=X.env::X.outer/\X.env.frame=some X.env.locals)
 exf:∀b∈X.ex,b≠X.env.locals/\∀x c,X.env.cells.lookup x=some c->c≠b
 bs:∀b o,X.base.get? b=some o->X.s₀.heap.get? b=some o/\X.H₀ b=none
 bsz:X.base.objs.size<=X.s₀.heap.objs.size
 noex:∀b o,X.base.get? b=some o->b∉X.ex
 exfs:∀b∈X.ex,b∉X.fs
 funs:X.s₀.heap.FunFrames X.base X.outer
 frf:∀b∈X.fs,X.H₀ b=none
structure Inv (X:Cx) (pins:List (Addr × Obj)) (σ:List (Option V)) (H:Hp) (s:Shared):Prop where
 ok:X.Ok
 os:s.os=X.s₀.os
 bare:AllBare s.gens
 base:Un X.fs X.ex X.H₀ H X.s₀.heap s.heap
 loc:∃m,s.heap.Ns X.env.locals m/\∀(i:Nat) (x:Str) (v:V),X.N[i]?=some x->σ[i]?=some (some v)->Vis X.env.scope x->∃u,zBl v u/\zRY X.env s.heap m x u
 cell:∀x c,X.env.cells.lookup x=some c->∃v,s.heap.IsCell c v
 free:H X.env.locals=none
 freeC:∀x c,X.env.cells.lookup x=some c->H c=none
 pin:∀p∈X.pn++pins,s.heap.get? p.1=some p.2/\H p.1=none/\p.1≠X.env.locals/\p.1∉X.fs/\∀v,p.2.data≠.cell v
 hok:HOk X.prog X.w H s.heap
 len:σ.length=X.N.length
section
variable {X:Cx} {pins:List (Addr × Obj)} {σ:List (Option V)} {H H':Hp} {s:Shared} {h':Heap}
def Cx.Ok.nofr (ok:X.Ok) {b:Addr} {o:Obj} (e:X.base.get? b=some o):b∉X.fs:=λhb=>by have:=(ok.funs.mem hb).1;rw[e] at this;cases this
def Inv.bs (I:Inv X pins σ H s):∀b o,X.base.get? b=some o->s.heap.get? b=some o/\H b=none:=λb o e=>
 ⟨I.base.keep b o (I.ok.bs b o e).1 (I.ok.bs b o e).2 (I.ok.nofr e) (I.ok.noex b o e),I.base.free b o (I.ok.bs b o e).1 (I.ok.bs b o e).2 (I.ok.noex b o e)⟩
def Inv.bk (I:Inv X pins σ H s):∀b o,X.base.get? b=some o->s.heap.get? b=some o:=λb o e=>(I.bs b o e).1
def Inv.mod (I:Inv X pins σ H s):Mod X.K X.mg X.base:=I.ok.mod
def Inv.kIn (I:Inv X pins σ H s):X.K.In s.heap:=I.ok.mod.kin.keeps I.bk
def Inv.nolimit (I:Inv X pins σ H s):s.heap.NoLimit:=I.ok.mod.nolimit.keeps I.bk
def Inv.fr (I:Inv X pins σ H s):∃m,Fr X.base X.env.locals s.heap m:=
 let ⟨m,hn,_⟩:=I.loc
 ⟨m,hn,I.bk,wHe I.ok.bsz I.ok.above⟩
def Inv.lt (I:Inv X pins σ H s):X.env.locals < s.heap.objs.size:=let ⟨_,hn,_⟩:=I.loc;hn.lt
def Inv.sz (I:Inv X pins σ H s):X.s₀.heap.objs.size<=s.heap.objs.size:=wHe I.ok.above (wH9 I.lt)
def Inv.nofs (I:Inv X pins σ H s) {a:Addr} (h:s.heap.objs.size<=a):a∉X.fs:=λhb=>by obtain⟨_,o,ho,_⟩:=I.ok.funs.mem hb;exact absurd (wHi (wHa ho) (wHe I.sz h)) (Nat.lt_irrefl _)
def Inv.cne (I:Inv X pins σ H s):∀x c,X.env.cells.lookup x=some c->c≠X.env.locals:=λx c e z=>by obtain⟨v,o,ho,hd⟩:=I.cell x c e;obtain⟨m,⟨o',es,ep,cN,bY,_⟩,_⟩:=I.loc;rw[z,cN] at ho;cases ho;rw[bY] at hd;cases hd
def Inv.funs (I:Inv X pins σ H s):s.heap.FunFrames X.base X.outer:=by
 have all:∀(l:List Env),(∀b∈frs l,b∈X.fs)->X.s₀.heap.FunFrames X.base l->s.heap.FunFrames X.base l:=by
  intro l
  induction l with
  | nil=>intro _ _;trivial
  | cons env r ih=>
   intro hs hl;obtain⟨hk,⟨L,o,hf,hn,ho,hd⟩,hr⟩:=hl;have hL:L∈X.fs:=hs L (by unfold frs;rw[List.filterMap_cons,hf];exact wH4);obtain⟨sl,e⟩:=I.base.slot L o ho (I.ok.frf L hL) hL λz=>I.ok.exfs L z hL;exact⟨hk,⟨L,_,hf,hn,e,hd⟩,ih (λb hb=>hs b (by unfold frs;rw[List.filterMap_cons,hf];exact wHR _ hb)) hr⟩
 exact all X.outer (λ_ hb=>hb) I.ok.funs
def Inv.stack (I:Inv X pins σ H s):s.heap.FunFrames X.base X.stack:=by
 rcases I.ok.stk with e | ⟨e,hf⟩
 ·rw[e];exact I.funs
 rw[e];obtain⟨m,hn,_⟩:=I.loc;refine .cons (by rw[I.ok.kind];decide) hf hn ?_ I.funs;exact wIe (wHe I.ok.bsz I.ok.above)
def Inv.stkSub (I:Inv X pins σ H s):∀b∈frs X.stack,b∈X.env.locals::X.fs:=λb hb=>by
 rcases I.ok.stk with e | ⟨e,hf⟩
 ·rw[e] at hb;exact wHR _ hb
 rw[e] at hb;unfold frs at hb;rw[List.filterMap_cons,hf] at hb;exact hb
def Inv.stkFree (I:Inv X pins σ H s):∀b∈frs X.stack,H b=none:=λb hb=>by
 rcases wIn (I.stkSub b hb) with e | hb
 ·rw[e];exact I.free
 obtain⟨_,o,ho,_⟩:=I.ok.funs.mem hb;exact I.base.free b o ho (I.ok.frf b hb) λz=>I.ok.exfs b z hb
def Inv.step {g':Array GenState} {t':Nat} {d':Drawn} {ch:List Addr} (I:Inv X pins σ H s)
  (eE:∀b∈ch,(b∈X.ex∨X.s₀.heap.objs.size<=b)/\b≠X.env.locals/\(∀x c,X.env.cells.lookup x=some c->c≠b)/\∀p∈X.pn++pins,p.1≠b)
  (keep:∀b o,b≠X.env.locals->b∉X.fs->b∉ch->s.heap.get? b=some o->H b=none->h'.get? b=some o)
  (slot:∀b o,b≠X.env.locals->b∈X.fs->b∉ch->s.heap.get? b=some o->H b=none->∃sl,h'.get? b=some { o with slots:=sl }) (free:∀b o,b∉ch->s.heap.get? b=some o->H b=none->H' b=none)
  (there:∀b o,b∉ch->s.heap.get? b=some o->∃o',h'.get? b=some o')
  (tups:∀b xs,H b=some (.tup xs)->H' b=some (.tup xs)) (frzs:∀b o u,H b=some (.frz o u)->H' b=some (.frz o u)) (tbls:∀b ps,H b=some (.tbl ps)->∃more,H' b=some (.tbl (ps++more)))
  (ns:∀m,s.heap.Ns X.env.locals m->h'.Ns X.env.locals m) (hok:HOk X.prog X.w H' h') (hg:AllBare g') :
  Inv X pins σ H' { s with heap:=h',gens:=g',drawn:=d',toks:=t' }:=by
 have neL:∀b o,X.s₀.heap.get? b=some o->b≠X.env.locals:=λb o e=>wHg (wHi (wHa e) I.ok.above);have kJ:∀b o,X.s₀.heap.get? b=some o->b∉X.ex->b∉ch:=λb o e hx hb=>by
  rcases (eE b hb).1 with z | z
  ·exact hx z
  exact absurd (wHi (wHa e) z) (Nat.lt_irrefl _)
 have cellK:∀x c,X.env.cells.lookup x=some c->∀v,s.heap.IsCell c v->h'.IsCell c v:=λx c e v ⟨o,ho,hd⟩=>by
  have dD:c∉ch:=λz=>(eE c z).2.2.1 x c e rfl;by_cases hc:c∈X.fs
  ·obtain⟨sl,q⟩:=slot c o (I.cne x c e) hc dD ho (I.freeC x c e);exact⟨_,q,hd⟩
  exact⟨o,keep c o (I.cne x c e) hc dD ho (I.freeC x c e),hd⟩
 refine⟨I.ok,I.os,hg,⟨λb o e n hb hx=>?_,λb o e n hb hx=>?_,λb o e n hx=>?_,λb o e hx=>?_,λb xs e=>tups b xs (I.base.tups b xs e),λb o xs e=>frzs b o xs (I.base.frzs b o xs e),λb ps e=>?_⟩,?_,λx c e=>?_,?_,λx c e=>?_,λp hp=>?_,hok,I.len⟩
 ·exact keep b o (neL b o e) hb (kJ b o e hx) (I.base.keep b o e n hb hx) (I.base.free b o e n hx)
 ·obtain⟨sl,e1⟩:=I.base.slot b o e n hb hx;obtain⟨iZ,e2⟩:=slot b _ (neL b o e) hb (kJ b o e hx) e1 (I.base.free b o e n hx);exact⟨iZ,e2⟩
 ·obtain⟨o',e1⟩:=I.base.there b o e hx;exact free b o' (kJ b o e hx) e1 (I.base.free b o e n hx)
 ·obtain⟨o',e1⟩:=I.base.there b o e hx;exact there b o' (kJ b o e hx) e1
 ·obtain⟨m1,e1⟩:=I.base.tbls b ps e;obtain⟨m2,e2⟩:=tbls b _ e1;exact⟨m1++m2,by rw[e2,Array.append_assoc]⟩
 ·obtain⟨m,hn,hl⟩:=I.loc;refine⟨m,ns m hn,λi x v e1 e2 e3=>?_⟩;obtain⟨u,r,l⟩:=hl i x v e1 e2 e3;refine⟨u,r,?_⟩;rcases l with l | ⟨k,c,e,z⟩
  ·exact .inl l
  exact .inr ⟨k,c,e,cellK x c e _ z⟩
 ·obtain⟨v,z⟩:=I.cell x c e;exact⟨v,cellK x c e v z⟩
 ·obtain⟨m,⟨o,_,_,ho,_⟩,_⟩:=I.loc;exact free _ o (λz=>(eE _ z).2.1 rfl) ho I.free
 ·obtain⟨v,o,ho,hd⟩:=I.cell x c e;exact free c o (λz=>(eE c z).2.2.1 x c e rfl) ho (I.freeC x c e)
 obtain⟨e,n,ne,nf,d⟩:=I.pin p hp;have dD:p.1∉ch:=λz=>(eE p.1 z).2.2.2 p hp rfl;exact⟨keep p.1 p.2 ne nf dD e n,free p.1 p.2 dD e n,ne,nf,d⟩
def Inv.un {t':Nat} (I:Inv X pins σ H s) (u:Un X.fs [] H H' s.heap h') (hok:HOk X.prog X.w H' h'):Inv X pins σ H' { s with heap:=h',toks:=t' }:=by
 obtain⟨m,⟨o,es,ep,ho,r⟩,_⟩:=id I.loc;obtain⟨sl,hL⟩:=u.any ho I.free (by simp);exact I.step (g':=s.gens) (d':=s.drawn) (ch:=[]) (λ_ z=>nomatch z) (λb o _ hb _ e n=>u.keep b o e n hb (by simp)) (λb o _ hb _ e n=>u.slot b o e n hb (by simp)) (λb o _ e n=>u.free b o e n (by simp)) (λb o _ e=>u.there b o e (by simp)) u.tups u.frzs u.tbls (λm' hm=>by obtain⟨o',bR,bS,cN,r'⟩:=hm;rw[ho] at cN;cases cN;exact⟨_,bR,bS,hL,r'⟩) hok I.bare
def Inv.call {g':Array GenState} {t':Nat} {d':Drawn} {ch:List Addr} (I:Inv X pins σ H s) (u:Un (frs X.stack) ch H H' s.heap h') (hok:HOk X.prog X.w H' h') (hg:AllBare g')
  (eE:∀b∈ch,(b∈X.ex∨X.s₀.heap.objs.size<=b)/\b≠X.env.locals/\(∀x c,X.env.cells.lookup x=some c->c≠b)/\∀p∈X.pn++pins,p.1≠b) :
  Inv X pins σ H' { s with heap:=h',gens:=g',drawn:=d',toks:=t' }:=by
 obtain⟨m,⟨o,es,ep,ho,r⟩,_⟩:=id I.loc;obtain⟨sl,hL⟩:=u.any ho I.free λz=>(eE _ z).2.1 rfl;exact I.step (ch:=ch) eE (λb o hL hb hc e n=>u.keep b o e n (λz=>(wIn (I.stkSub b z)).elim hL hb) hc) (λb o _ _ hc e n=>u.any e n hc) (λb o hc e n=>u.free b o e n hc) (λb o hc e=>u.there b o e hc) u.tups u.frzs u.tbls (λm' hm=>by obtain⟨o',bR,bS,cN,r'⟩:=hm;rw[ho] at cN;cases cN;exact⟨_,bR,bS,hL,r'⟩) hok hg
def Inv.turned {t':Nat} {it:Addr} (I:Inv X pins σ H s) (k:∀b o,b≠it->s.heap.get? b=some o->h'.get? b=some o) (hn:H it=none) (hL:it≠X.env.locals)
  (h1:it∈X.ex∨X.s₀.heap.objs.size<=it) (h2:∀x c,X.env.cells.lookup x=some c->c≠it) (h3:∀p∈X.pn++pins,p.1≠it):Inv X pins σ H { s with heap:=h',toks:=t' }:=by
 have nit:∀b u,H b=some u->b≠it:=λb u e z=>by rw[z,hn] at e;cases e
 refine I.step (g':=s.gens) (d':=s.drawn) (ch:=[it]) (λb hb=>?_) (λb o _ _ hc e _=>k b o (λz=>hc (by simp[z])) e) (λb o _ _ hc e _=>⟨o.slots,k b o (λz=>hc (by simp[z])) e⟩) (λ_ _ _ _ n=>n)
  (λb o hc e=>⟨o,k b o (λz=>hc (by simp[z])) e⟩) (λ_ _ e=>e) (λ_ _ _ e=>e) (λb ps e=>⟨#[],by rw[e];simp⟩) (λm hm=>?_) (λb u e=>?_) I.bare
 ·have e:b=it:=by simpa using hb
  subst e;exact⟨h1,hL,h2,h3⟩
 ·obtain⟨o,es,ep,ho,r⟩:=hm;exact⟨o,es,ep,k _ o (Ne.symm hL) ho,r⟩
 refine (I.hok b u e).stay (λc v hc q=>k c v ?_ q) (λ_ q=>q) λ_ _ q=>q;rcases hc with z | z
 ·rw[z];exact nit b u e
 exact nit c _ z
def Inv.tok (I:Inv X pins σ H s) (t:Nat):Inv X pins σ H { s with toks:=t }:=I.un (h':=s.heap) (t':=t) Un.refl I.hok
def Inv.kept {t':Nat} (I:Inv X pins σ H s) (k:∀b u,s.heap.get? b=some u->h'.get? b=some u):Inv X pins σ H { s with heap:=h',toks:=t' }:=I.un (Un.kept k) (I.hok.kept k)
def Inv.laid {a:Addr} {o:HO} {t':Nat} (I:Inv X pins σ H s) (k:∀b u,s.heap.get? b=some u->h'.get? b=some u) (hp:s.heap.objs.size<=a) (new:ObjOk X.prog X.w (upd H a o) h' a o) :
  Inv X pins σ (upd H a o) { s with heap:=h',toks:=t' }:=I.un (Un.laid k hp (I.hok.fresh hp)) (I.hok.laid k hp new)
def Inv.write {x e:Addr} {o:HO} {t':Nat} (I:Inv X pins σ H s) (mu:Mut (H x)) (he:e=x∨H e=some (.own x)) (k:∀b u,b≠e->s.heap.get? b=some u->h'.get? b=some u) (iI:∃u,h'.get? e=some u)
  (new:ObjOk X.prog X.w (upd H x o) h' x o):Inv X pins σ (upd H x o) { s with heap:=h',toks:=t' }:=I.un (Un.write mu he k iI) (I.hok.write mu he k iI new)
def Inv.pins_of {fw:List (Addr × Obj)} (I:Inv X pins σ H s) (h:∀p∈fw,s.heap.get? p.1=some p.2/\H p.1=none/\p.1≠X.env.locals/\p.1∉X.fs/\∀v,p.2.data≠.cell v):Inv X fw σ H s:=
 ⟨I.ok,I.os,I.bare,I.base,I.loc,I.cell,I.free,I.freeC,λp hp=>(wIm hp).elim (λz=>I.pin p (List.mem_append_left _ z)) (h p),I.hok,I.len⟩
def zGg {N:List Str} (hN:N.Nodup) {i j:Nat} {x:Str} (a:N[i]?=some x) (b:N[j]?=some x):i=j:=by obtain⟨h1,e1⟩:=wIi a;obtain⟨h2,e2⟩:=wIi b;exact (List.getElem_inj hN).mp (e1.trans e2.symm)
def zJK {M:Model} {A:Around} {E:Value->Shared->Prop} {i:Nat} {x:Str} {v:V} {u:Value} {Q:Unit->Shared->Prop} (I:Inv X pins σ H s) (hN:X.N.Nodup) (hi:X.N[i]?=some x) (hx:Loc X.env.scope x) (r:zBl v u)
  (h:∀s',Inv X pins (σ.set i (some v)) H s'->(∃a,Heap.SameBut a s.heap s'.heap/\(a=X.env.locals∨X.env.cells.lookup x=some a))->Q PUnit.unit s') (hf:X.fn x=true∨X.env.scope.names.lookup x=some .local:=by first | exact .inl rfl | exact .inr rfl | assumption):wpAny M A (storeName X.env x u) Q E s:=by
 obtain⟨m,hn,hl⟩:=id I.loc;have gM:(X.env.scope.kind == .class || (X.env.scope.kind == .module && X.env.locals != X.env.globals))=false:=by rw[I.ok.kind];rfl
 have hiσ:i < σ.length:=by rw[I.len];exact (wIi hi).1
 have cne:=I.cne;have tracked:∀{a:Addr} {h':Heap},(∃o,s.heap.get? a=some o/\H a=none)->Heap.SameBut a s.heap h'->HOk X.prog X.w H h':=λ{a h'} ha hs b ob e=>by
  obtain⟨_,_,fG⟩:=ha;refine (I.hok b ob e).stay (λc w' hc q=>(hs.2 c ?_).trans q) (λ_ q=>q) λ_ _ q=>q;rintro rfl;rcases hc with rfl | hc
  ·rw[fG] at e;cases e
  rw[fG] at hc;cases hc
 rcases hx with hk | hk
 ·refine wpAny_storeName_local hk hn (λh' iG hs=>?_) gM;obtain⟨oL,_,_,hoL,_⟩:=id hn;refine h _ ⟨I.ok,I.os,I.bare,⟨λb o e n hb hx=>?_,λb o e n hb hx=>?_,I.base.free,λb o e hx=>?_,I.base.tups,I.base.frzs,I.base.tbls⟩,⟨_,iG,λj y v' e1 e2 e3=>?_⟩,λy c e=>?_,I.free,I.freeC,λp hp=>?_,tracked ⟨oL,hoL,I.free⟩ hs,by simpa using I.len⟩ ⟨_,hs,.inl rfl⟩
  ·exact (hs.2 b (wHg (wHi (wHa e) I.ok.above))).trans (I.base.keep b o e n hb hx)
  ·obtain⟨sl,e1⟩:=I.base.slot b o e n hb hx;exact⟨sl,(hs.2 b (wHg (wHi (wHa e) I.ok.above))).trans e1⟩
  ·obtain⟨o',e1⟩:=I.base.there b o e hx;exact⟨o',(hs.2 b (wHg (wHi (wHa e) I.ok.above))).trans e1⟩
  ·by_cases hj:j=i
   ·subst hj;rw[hi] at e1;cases e1;rw[List.getElem?_set_self hiσ] at e2;cases e2;exact⟨u,r,.inl ⟨hk,by simp⟩⟩
   rw[List.getElem?_set_ne (Ne.symm hj)] at e2;obtain⟨u',r',q⟩:=hl j y v' e1 e2 e3;refine⟨u',r',?_⟩;rcases q with ⟨k,e⟩ | ⟨k,c,e,z⟩
   ·refine .inl ⟨k,?_⟩;have:y≠x:=λe=>hj (zGg hN e1 (e ▸ hi));simp[this,e]
   exact .inr ⟨k,c,e,z.sameBut hs (cne y c e)⟩
  ·obtain⟨w',z⟩:=I.cell y c e;exact⟨w',z.sameBut hs (cne y c e)⟩
  obtain⟨e,n,ne,nf,d⟩:=I.pin p hp;exact⟨(hs.2 p.1 ne).trans e,n,ne,nf,d⟩
 have oA:X.fn x=true:=by
  rcases hf with z | z
  ·exact z
  rw[z] at hk;cases hk
 obtain⟨c,hc⟩:=I.ok.has x (.inl hk);obtain⟨w',z⟩:=I.cell x c hc;refine wpAny_storeName_cell I.ok.kind hk hc z (λh' jP hs=>?_);obtain⟨oc,kQ,nX⟩:=id z;refine h { s with heap:=h' } ⟨I.ok,I.os,I.bare,⟨λb o e n hb hx=>?_,λb o e n hb hx=>?_,I.base.free,λb o e hx=>?_,I.base.tups,I.base.frzs,I.base.tbls⟩,⟨m,hn.sameBut hs (Ne.symm (cne x c hc)),λj y v' e1 e2 e3=>?_⟩,λy c' e=>?_,I.free,I.freeC,λp hp=>?_,tracked ⟨oc,kQ,I.freeC x c hc⟩ hs,by simpa using I.len⟩ ⟨c,hs,.inr hc⟩
 ·exact (hs.2 b (wHg (wHi (wHa e) (I.ok.cab x c oA hc)))).trans (I.base.keep b o e n hb hx)
 ·obtain⟨sl,e1⟩:=I.base.slot b o e n hb hx;exact⟨sl,(hs.2 b (wHg (wHi (wHa e) (I.ok.cab x c oA hc)))).trans e1⟩
 ·obtain⟨o',e1⟩:=I.base.there b o e hx;exact⟨o',(hs.2 b (wHg (wHi (wHa e) (I.ok.cab x c oA hc)))).trans e1⟩
 ·by_cases hj:j=i
  ·subst hj;rw[hi] at e1;cases e1;rw[List.getElem?_set_self hiσ] at e2;cases e2;exact⟨u,r,.inr ⟨.inl hk,c,hc,jP⟩⟩
  rw[List.getElem?_set_ne (Ne.symm hj)] at e2;obtain⟨u',r',q⟩:=hl j y v' e1 e2 e3;refine⟨u',r',?_⟩;rcases q with q | ⟨k,c',e,z'⟩
  ·exact .inl q
  refine .inr ⟨k,c',e,z'.sameBut hs ?_⟩;rintro rfl;exact hj (zGg hN e1 (I.ok.inj _ _ _ e hc ▸ hi))
 ·by_cases hcc:c'=c
  ·subst hcc;exact⟨_,jP⟩
  obtain⟨w2,z2⟩:=I.cell y c' e;exact⟨w2,z2.sameBut hs hcc⟩
 obtain⟨e,n,ne,nf,d⟩:=I.pin p hp;refine⟨(hs.2 p.1 ?_).trans e,n,ne,nf,d⟩;intro q;rw[q,kQ] at e;have q':oc=p.2:=wG8 e;exact d w' (by rw[← q'];exact nX)
def zCG {M:Model} {A:Around} {E:Value->Shared->Prop} {i:Nat} {x:Str} {v:V} {u:Value} {Q:Unit->Shared->Prop} (I:Inv X pins σ H s) (hN:X.N.Nodup) (hi:X.N[i]?=some x) (hx:Loc X.env.scope x) (r:zBl v u)
  (h:∀s',Inv X pins (σ.set i (some v)) H s'->Q PUnit.unit s') (hf:X.fn x=true∨X.env.scope.names.lookup x=some .local:=by first | exact .inl rfl | exact .inr rfl | assumption):wpAny M A (storeName X.env x u) Q E s:=
 zJK I hN hi hx r (λs' I' _=>h s' I') hf
def Inv.call' {s':Shared} {ch:List Addr} (I:Inv X pins σ H s) (ho:s'.os=s.os) (u:Un (frs X.stack) ch H H' s.heap s'.heap) (hok:HOk X.prog X.w H' s'.heap) (hg:AllBare s'.gens)
  (eE:∀b∈ch,(b∈X.ex∨X.s₀.heap.objs.size<=b)/\b≠X.env.locals/\(∀x c,X.env.cells.lookup x=some c->c≠b)/\∀p∈X.pn++pins,p.1≠b):Inv X pins σ H' s':=by
 obtain⟨h',g',d',t',o'⟩:=s';have e:o'=s.os:=ho;subst e;exact I.call (g':=g') (t':=t') (d':=d') u hok hg eE
end
abbrev XK:=Value->Option Addr->Hp->Prop
abbrev St:=List (Option V)
abbrev VK:=V->Hp->Prop
abbrev TE:=St->Hp->VK->Prop
abbrev TT:=St->Hp->(Bool->Hp->Prop)->Prop
abbrev TA:=St->Hp->(List V->Hp->Prop)->Prop
structure Ends where
 nx:St->Hp->Prop
 rt:VK
 bk:St->Hp->Prop:=λ_ _=>False
 ct:St->Hp->Prop:=λ_ _=>False
abbrev TS:=Ends->St->Hp->Prop
def EP (X:Cx) (pins:List (Addr × Obj)) (σ:St) (Q:VK) (u:Value) (s':Shared):Prop:=∃v H',Inv X pins σ H' s'/\zBl v u/\Q v H'
def TP (X:Cx) (pins:List (Addr × Obj)) (σ:St) (Q:Bool->Hp->Prop) (b:Bool) (s':Shared):Prop:=∃H',Inv X pins σ H' s'/\Q b H'
def AP (X:Cx) (pins:List (Addr × Obj)) (σ:St) (Q:List V->Hp->Prop) (us:List Value) (s':Shared):Prop:=∃vs H',Inv X pins σ H' s'/\zA7 vs us/\Q vs H'
def SP (X:Cx) (pins:List (Addr × Obj)) (D:Ends) (f:Flow) (s':Shared):Prop:=
 match f with
 | .next=>∃σ' H',Inv X pins σ' H' s'/\D.nx σ' H'
 | .brk=>∃σ' H',Inv X pins σ' H' s'/\D.bk σ' H'
 | .cont=>∃σ' H',Inv X pins σ' H' s'/\D.ct σ' H'
 | .ret u=>∃v σ' H',Inv X pins σ' H' s'/\zBl v u/\D.rt v H'
def PE (X:Cx) (e:Expr) (t:TE):Prop:=
 ∀(pins:List (Addr × Obj)) (s:Shared) (σ:St) (H:Hp) (Q:VK),Inv X pins σ H s->t σ H Q->wpAny (model X.prog X.w) X.A (eval e X.env) (EP X pins σ Q) X.xe s
def PT (X:Cx) (e:Expr) (t:TT):Prop:=
 ∀(pins:List (Addr × Obj)) (s:Shared) (σ:St) (H:Hp) (Q:Bool->Hp->Prop),Inv X pins σ H s->t σ H Q->wpAny (model X.prog X.w) X.A (isTrue e X.env (eval e X.env)) (TP X pins σ Q) X.xe s
def PW (X:Cx) (e:Expr) (t:TT):Prop:=
 ∀(whole:Sem Value) (pins:List (Addr × Obj)) (s:Shared) (σ:St) (H:Hp) (Q:Bool->Hp->Prop),Inv X pins σ H s->t σ H Q->wpAny (model X.prog X.w) X.A (isTrue e X.env whole) (TP X pins σ Q) X.xe s
def PW.pt {X:Cx} {e:Expr} {t:TT} (h:PW X e t):PT X e t:=h _
def PA (X:Cx) (es:List Expr) (t:TA):Prop:=
 ∀(pos:Pos) (pins:List (Addr × Obj)) (s:Shared) (σ:St) (H:Hp) (Q:List V->Hp->Prop),Inv X pins σ H s->t σ H Q->wpAny (model X.prog X.w) X.A (spliced (backTo pos (starEach es X.env))) (AP X pins σ Q) X.xe s
def PS (X:Cx) (st:Stmt) (t:TS):Prop:=
 ∀(pins:List (Addr × Obj)) (s:Shared) (σ:St) (H:Hp) (D:Ends),Inv X pins σ H s->t D σ H->wpAny (model X.prog X.w) X.A (exec st X.env) (SP X pins D) X.xe s
def PSs (X:Cx) (st:List Stmt) (t:TS):Prop:=
 ∀(pins:List (Addr × Obj)) (s:Shared) (σ:St) (H:Hp) (D:Ends),Inv X pins σ H s->t D σ H->wpAny (model X.prog X.w) X.A (execs st X.env) (SP X pins D) X.xe s
def thn {α:Type} {t:Sem α} {Q Q':α->Shared->Prop} {M:Model} {A:Around} {E:Value->Shared->Prop} {s:Shared} (h:wpAny M A t Q E s) (hQ:∀a s,Q a s->Q' a s):wpAny M A t Q' E s:=wHq h hQ λ_ _ x=>x
section
variable {X:Cx}
inductive VarAt (i:Nat) (σ:St) (H:Hp) (Q:VK):Prop
 | mk (v:_):(σ[i]?=some (some v))->Q v H->VarAt i σ H Q
def zRm (i:Nat):TE:=λσ H Q=>VarAt i σ H Q
def tC (v:V):TE:=λ_ H Q=>Q v H
def zPE {i:Nat} {x:Str} {pos:Pos} (hN:X.N[i]?=some x) (hv:Vis X.env.scope x) (hd:(x == ("__debug__":Str))=false:=by decide) (aQ:(x == ("__classdict__":Str))=false:=by decide):PE X (.Name x pos) (zRm i):=by
 intro pins s σ H Q I h;obtain⟨v,e,h⟩:=h;obtain⟨m,hn,hl⟩:=I.loc;obtain⟨u,r,l⟩:=hl i x v hN e hv;have fin:EP X pins σ Q u s:=⟨v,H,I,r,h⟩;rcases l with ⟨hk,hm⟩ | ⟨hk,c,hc,bF⟩
 ·exact wpAny_Name (wpAny_loadName_local I.ok.kind hk hn hm fin) hd
 rcases hk with hk | hk
 ·exact wpAny_Name (wpAny_loadName_cell I.ok.kind hk hc bF fin) hd
 exact wpAny_Name (wpAny_loadName_free I.ok.kind hk hc bF fin aQ) hd
def zG {i j pos}:PE X (.Constant (.int i) j pos) (tC (.int i)):=λ_ _ _ H _ I h=>wpAny_Constant_int ⟨.int i,H,I.tok _,⟨_,rfl⟩,h⟩
def zBu {b j pos}:PE X (.Constant (.bool b) j pos) (tC (.bl b)):=λ_ _ _ H _ I h=>Constant_bool ⟨.bl b,H,I,rfl,h⟩
def zKx {j pos}:PE X (.Constant .none j pos) (tC .non):=λ_ _ _ H _ I h=>Constant_none ⟨.non,H,I,rfl,h⟩
def zAF {x j pos}:PE X (.Constant (.str x) j pos) (tC (.str x)):=λ_ _ _ H _ I h=>Calls.Constant_str ⟨.str x,H,I.tok _,⟨_,rfl⟩,h⟩
def Gl (X:Cx) (x:Str):Prop:=X.env.kindOf x=some .globalImplicit
def zBU {E:Value->Shared->Prop} {pins:List (Addr × Obj)} {s:Shared} {σ:St} {H:Hp} {x:Str} {u:Value} {pos:Pos} {Q:Value->Shared->Prop} (I:Inv X pins σ H s) (hg:Gl X x) (hm:X.mg x=some u) (h:Q u s)
  (hd:(x == ("__debug__":Str))=false:=by decide):wpAny (model X.prog X.w) X.A (eval (.Name x pos) X.env) Q E s:=
 Calls.Name_function_global I.ok.kind hg (Calls.loadGlobal_global (by rw[I.ok.glob];exact I.mod.glob.keeps I.bk) hm h) hd
def zER {E:Value->Shared->Prop} {pins:List (Addr × Obj)} {s:Shared} {σ:St} {H:Hp} {x:Str} {u:Value} {pos:Pos} {Q:Value->Shared->Prop} (I:Inv X pins σ H s) (hg:Gl X x) (hm:X.mg x=none) (hv:bootBuiltins x=some u) (h:Q u s)
  (hn:x≠"__name__":=by decide) (hd:(x == ("__debug__":Str))=false:=by decide):wpAny (model X.prog X.w) X.A (eval (.Name x pos) X.env) Q E s:=by
 obtain⟨mb,h1,h2⟩:=I.mod.blt;exact Calls.Name_function_global I.ok.kind hg (Calls.loadGlobal_builtin (by rw[I.ok.glob];exact I.mod.glob.keeps I.bk) hm (by rw[I.ok.blt];exact h1.keeps I.bk) ((h2 x hn).trans hv) h) hd
def zA9 {x:Str} {v:V} {u:Value} {pos:Pos} (hg:Gl X x) (hm:X.mg x=some u) (r:zBl v u) (hd:(x == ("__debug__":Str))=false:=by decide):PE X (.Name x pos) (tC v):=
 λ_ _ _ H _ I h=>zBU I hg hm ⟨v,H,I,r,h⟩ hd
def zBQ {x:Str} {v:V} {u:Value} {pos:Pos} (hg:Gl X x) (hm:X.mg x=none) (hv:bootBuiltins x=some u) (r:zBl v u) (hn:x≠"__name__":=by decide) (hd:(x == ("__debug__":Str))=false:=by decide):PE X (.Name x pos) (tC v):=
 λ_ _ _ H _ I h=>zER I hg hm hv ⟨v,H,I,r,h⟩ hn hd
variable {a b:Expr} {ta tb:TE} {pos:Pos}
inductive IsB (Q:Bool->Hp->Prop) (x:V) (H1:Hp):Prop
 | mk (c:_):(x=.bl c)->Q c H1->IsB Q x H1
def tB (t:TE):TT:=λσ H Q=>t σ H λx H1=>IsB Q x H1
def zAQ {e:Expr} {t:TE} (h:PE X e t) (he:∀whole,isTrue e X.env whole=(do let v ← whole;standAt e.pos;holding [v] (truthy v)):=by intro _;rfl):PT X e (tB t):=by intro pins s σ H Q I hw;refine isTrue_plain (thn (h pins s σ H _ I hw) λv s1 ⟨x,H1,I1,r1,q1⟩=>?_) (he _);obtain⟨d,rfl,q⟩:=q1;cases r1;exact wpAny_truthy_bool ⟨H1,I1,q⟩
variable {tA kC:TT} {rest:List Expr}
def zRC (t u:TT):TT:=λσ H Q=>t σ H λc H1=>if c=true then u σ H1 Q else Q false H1
def tOr (t u:TT):TT:=λσ H Q=>t σ H λc H1=>if c=true then Q true H1 else u σ H1 Q
def zR6 (t:TT):TT:=λσ H Q=>t σ H λc H1=>Q (!c) H1
def zDE (ha:PT X a tA):PW X (.BoolOp .And [a] pos) tA:=by
 intro wh pins s σ H Q I h;refine isTrue_and (thn (ha pins s σ H Q I h) λc s1 e=>?_);cases c with
 | true=>exact isTrue_and_nil e
 | false=>exact e
def zCO (ha:PT X a tA):PW X (.BoolOp .Or [a] pos) tA:=by
 intro wh pins s σ H Q I h;refine isTrue_or (thn (ha pins s σ H Q I h) λc s1 e=>?_);cases c with
 | false=>exact isTrue_or_nil e
 | true=>exact e
def zEB (ha:PT X a tA) (hb:PW X (.BoolOp .And (b::rest) pos) kC):PW X (.BoolOp .And (a::b::rest) pos) (zRC tA kC):=by
 intro wh pins s σ H Q I h;refine isTrue_and (thn (ha pins s σ H _ I h) λc s1 aA=>?_);obtain⟨H1,I1,q1⟩:=aA;cases c with
 | true=>exact hb wh pins s1 σ H1 Q I1 q1
 | false=>exact⟨H1,I1,q1⟩
def zEA (ha:PT X a tA) (hb:PW X (.BoolOp .Or (b::rest) pos) kC):PW X (.BoolOp .Or (a::b::rest) pos) (tOr tA kC):=by
 intro wh pins s σ H Q I h;refine isTrue_or (thn (ha pins s σ H _ I h) λc s1 aA=>?_);obtain⟨H1,I1,q1⟩:=aA;cases c with
 | true=>exact⟨H1,I1,q1⟩
 | false=>exact hb wh pins s1 σ H1 Q I1 q1
def zAZ (ha:PT X a tA):PT X (.UnaryOp .Not a pos) (zR6 tA):=by intro pins s σ H Q I h;exact isTrue_not (ha pins s σ H (λc H1=>Q (!c) H1) I h)
def zQG (ta tb:TE):TE:=λσ H Q=>ta σ H λx H1=>∃c,x=.bl c/\if c=true then tb σ H1 Q else Q (.bl false) H1
def zQ7 (ta:TE):TE:=λσ H Q=>ta σ H λx H1=>∃c,x=.bl c/\Q (.bl (!c)) H1
def zI3 {op} {t:TE} (h:PE X a t):PE X (.BoolOp op [a] pos) t:=λpins s σ H Q I hw=>BoolOp_one (h pins s σ H Q I hw)
def zI5 (ha:PE X a ta) (hb:PE X (.BoolOp .And (b::rest) pos) tb):PE X (.BoolOp .And (a::b::rest) pos) (zQG ta tb):=by
 intro pins s σ H Q I h;refine BoolOp_and (thn (ha pins s σ H _ I h) λv s1 aA=>?_);obtain⟨x,H1,I1,r1,q1⟩:=aA;obtain⟨c,rfl,q1⟩:=q1;cases r1;refine wpAny_truthy_bool ?_;cases c with
 | true=>exact hb pins s1 σ H1 Q I1 q1
 | false=>exact⟨.bl false,H1,I1,rfl,q1⟩
def zPG (ha:PE X a ta):PE X (.UnaryOp .Not a pos) (zQ7 ta):=by intro pins s σ H Q I h;refine UnaryOp_ (thn (ha pins s σ H _ I h) λv s1 aA=>?_);obtain⟨x,H1,I1,r1,q1⟩:=aA;obtain⟨c,rfl,q1⟩:=q1;cases r1;exact not_of (wpAny_truthy_bool ⟨.bl (!c),H1,I1,rfl,q1⟩)
end
def SqL (K:W.Frag) (H:Hp) (a:Addr) (xs:List V):Prop:=
 Rd H a (.lst xs)∨
  ∃(o:Obj) (its:Array Value) (n:Nat),K.lookup a=some o/\o.cls=.type "list"/\o.dict=none/\o.data=.seq its n/\its.size<=sizeLine/\zA7 xs its.toList
def SqT (K:W.Frag) (H:Hp) (a:Addr) (xs:List V):Prop:=
 Rd H a (.tup xs)∨
  ∃(o:Obj) (its:Array Value) (n:Nat),K.lookup a=some o/\o.cls=.type "tuple"/\o.data=.seq its n/\its.size<=sizeLine/\zA7 xs its.toList
def zRU:Value->Option V
 | .none=>some .non
 | .bool b=>some (.bl b)
 | .int i _=>some (.int i)
 | .str x _=>some (.str x)
 | .bytes b _=>some (.byt b)
 | .float b _=>some (.flt b)
 | .ref a=>some (.ref a)
 | .type n=>some (.ty n)
 | _=>none
def zBl.abs {x:V} {u:Value} (r:zBl x u):zRU u=some x:=by
 cases x with
 | non=>cases r;rfl
 | bl _=>cases r;rfl
 | int _=>obtain⟨t,rfl⟩:=r;rfl
 | str _=>obtain⟨t,rfl⟩:=r;rfl
 | byt _=>obtain⟨t,rfl⟩:=r;rfl
 | flt _=>obtain⟨t,rfl⟩:=r;rfl
 | ref _=>cases r;rfl
 | ty _=>cases r;rfl
def zBl.inj {x y:V} {u:Value} (r:zBl x u) (q:zBl y u):x=y:=wG8 (r.abs.symm.trans q.abs)
theorem zA7.inj:∀{xs ys:List V} {us:List Value},zA7 xs us->zA7 ys us->xs=ys
 | _,_,_,.nil,.nil=>rfl
 | _,_,_,.cons r t,.cons r' t'=>by rw[r.inj r',zA7.inj t t']
section
variable {X:Cx} {pins:List (Addr × Obj)} {σ:St} {H:Hp} {s:Shared} {a:Addr} {xs ys:List V}
def SqL.of {K:W.Frag} (h:H a=some (.lst xs)):SqL K H a xs:=.inl (.inl h)
def SqT.of {K:W.Frag} (h:H a=some (.tup xs)):SqT K H a xs:=.inl (.inl h)
def Inv.list (I:Inv X pins σ H s) (h:SqL X.K H a xs):∃its:List Value,zA7 xs its/\PlainL s.heap a its.toArray/\xs.length<=sizeLine:=by
 rcases h with h | ⟨o,its,n,hk,hc,hd,hs,hz,r⟩
 ·obtain⟨z,its,n,r,e⟩:=h.ok I.hok;exact⟨its,r,⟨_,n,e,rfl,rfl,rfl⟩,z⟩
 refine⟨its.toList,r,⟨o,n,I.kIn a o hk,hc,hd,by simpa using hs⟩,?_⟩;have e:=r.length;simp only[wHt] at e;omega
def Inv.tuple (I:Inv X pins σ H s) (h:SqT X.K H a xs):∃its:List Value,zA7 xs its/\IsTup s.heap a its.toArray/\xs.length<=sizeLine:=by
 rcases h with h | ⟨o,its,n,hk,hc,hs,hz,r⟩
 ·obtain⟨z,its,r,p⟩:=h.ok I.hok;exact⟨its,r,p,z⟩
 refine⟨its.toList,r,⟨o,I.kIn a o hk,hc,n,by simpa using hs⟩,?_⟩;have e:=r.length;simp only[wHt] at e;omega
def Inv.list_inj (I:Inv X pins σ H s) (h:SqL X.K H a xs) (h':SqL X.K H a ys):xs=ys:=by
 obtain⟨its,r,⟨o,n,e,_,_,d⟩,_⟩:=I.list h;obtain⟨its',r',⟨o',n',e',_,_,d'⟩,_⟩:=I.list h';rw[e] at e';cases e';rw[d] at d'
 injection d' with d1 _
 have:its=its':=by simpa using congrArg Array.toList d1
 subst this;exact r.inj r'
def Inv.tuple_inj (I:Inv X pins σ H s) (h:SqT X.K H a xs) (h':SqT X.K H a ys):xs=ys:=by
 obtain⟨its,r,⟨o,e,_,n,d⟩,_⟩:=I.tuple h;obtain⟨its',r',⟨o',e',_,n',d'⟩,_⟩:=I.tuple h';rw[e] at e';cases e';rw[d] at d'
 injection d' with d1 _
 have:its=its':=by simpa using congrArg Array.toList d1
 subst this;exact r.inj r'
end
abbrev Cx.wish (X:Cx) (E:Value->Shared->Prop):Cx:={ X with xe:=E }
abbrev Cx.nox (X:Cx):Cx:=X.wish λ_ _=>False
def Cx.Ok.wish {X:Cx} (ok:X.Ok) (E:Value->Shared->Prop):(X.wish E).Ok:=
 ⟨ok.mod,ok.kind,ok.glob,ok.blt,ok.above,ok.inj,ok.has,ok.cab,ok.hd,ok.frames,ok.stk,ok.exf,ok.bs,ok.bsz,ok.noex,ok.exfs,ok.funs,ok.frf⟩
def Cx.Ok.unwish {X:Cx} {E:Value->Shared->Prop} (ok:(X.wish E).Ok):X.Ok:=
 ⟨ok.mod,ok.kind,ok.glob,ok.blt,ok.above,ok.inj,ok.has,ok.cab,ok.hd,ok.frames,ok.stk,ok.exf,ok.bs,ok.bsz,ok.noex,ok.exfs,ok.funs,ok.frf⟩
section
variable {X:Cx} {pins:List (Addr × Obj)} {σ:St} {H:Hp} {s:Shared} {E:Value->Shared->Prop}
def Inv.wish (I:Inv X pins σ H s) (E:Value->Shared->Prop):Inv (X.wish E) pins σ H s:=⟨I.ok.wish E,I.os,I.bare,I.base,I.loc,I.cell,I.free,I.freeC,I.pin,I.hok,I.len⟩
def Inv.unwish (I:Inv (X.wish E) pins σ H s):Inv X pins σ H s:=⟨I.ok.unwish,I.os,I.bare,I.base,I.loc,I.cell,I.free,I.freeC,I.pin,I.hok,I.len⟩
def SP.unwish {D:Ends} {f:Flow} {s':Shared} (h:SP (X.wish E) pins D f s'):SP X pins D f s':=by
 cases f with
 | next=>obtain⟨σ',H',I,q⟩:=h;exact⟨σ',H',I.unwish,q⟩
 | brk=>obtain⟨σ',H',I,q⟩:=h;exact⟨σ',H',I.unwish,q⟩
 | cont=>obtain⟨σ',H',I,q⟩:=h;exact⟨σ',H',I.unwish,q⟩
 | ret u=>obtain⟨v,σ',H',I,r,q⟩:=h;exact⟨v,σ',H',I.unwish,r,q⟩
def PE.nox {e:Expr} {t:TE} (h:PE X.nox e t):PE X e t:=λpins s σ H Q I hw=>
 wHq (h pins s σ H Q (I.wish _) hw) (λ_ _ ⟨v,H',I',r,q⟩=>⟨v,H',I'.unwish,r,q⟩) λ_ _ z=>wHI z
def PT.nox {e:Expr} {t:TT} (h:PT X.nox e t):PT X e t:=λpins s σ H Q I hw=>
 wHq (h pins s σ H Q (I.wish _) hw) (λ_ _ ⟨H',I',q⟩=>⟨H',I'.unwish,q⟩) λ_ _ z=>wHI z
def PSs.nox {st:List Stmt} {t:TS} (h:PSs X.nox st t):PSs X st t:=λpins s σ H D I hw=>
 wHq (h pins s σ H D (I.wish _) hw) (λ_ _ q=>q.unwish) λ_ _ z=>wHI z
end
section
variable {X:Cx} {st:Stmt} {rest:List Stmt} {t u:TS} {e:Expr} {te:TE} {pos:Pos}
def zQ8:TS:=λD σ H=>D.nx σ H
def zFu (t u:TS):TS:=λD σ H=>t { D with nx:=u D } σ H
def zAd:PSs X [] zQ8:=λ_ _ σ H _ I h=>wpAny_execs_nil ⟨σ,H,I,h⟩
def zD (h1:PS X st t) (h2:PSs X rest u):PSs X (st::rest) (zFu t u):=by
 intro pins s σ H D I h;refine wpAny_execs_cons (thn (h1 pins s σ H { D with nx:=u D } I h) λf s1 q=>?_);cases f with
 | next=>
  obtain⟨σ',H',I',q⟩:=q;exact h2 pins s1 σ' H' D I' q
 | ret v=>exact q
 | brk=>exact q
 | cont=>exact q
def zH (h1:PS X st t):PSs X [st] t:=by
 intro pins s σ H D I h;refine wpAny_execs_cons (thn (h1 pins s σ H D I h) λf s1 q=>?_);cases f with
 | next=>exact wpAny_execs_nil q
 | ret v=>exact q
 | brk=>exact q
 | cont=>exact q
def Inv.quiet {pins:List (Addr × Obj)} {σ:St} {H:Hp} {s:Shared} (I:Inv X pins σ H s):interactive X.env=false:=by simp[interactive,I.ok.kind]
def zQB (te:TE):TS:=λD σ H=>te σ H λ_ H1=>D.nx σ H1
def zAn (he:PE X e te) (hs:swapsWith e none pos.line X.env=pure false:=by rfl):PS X (.Expr e pos) (zQB te):=by intro pins s σ H D I h;exact wpAny_Expr_any (thn (he pins s σ H _ I h) λv s1 ⟨x,H1,I1,r1,q1⟩=>⟨σ,H1,I1,q1⟩) I.quiet hs
def zR5 (te:TE):TS:=λD σ H=>te σ H D.rt
def zX (he:PE X e te):PS X (.Return (some e) pos) (zR5 te):=by intro pins s σ H D I h;exact wpAny_Return_some (thn (he pins s σ H _ I h) λv s1 ⟨x,H1,I1,r1,q1⟩=>⟨x,σ,H1,I1,r1,q1⟩)
def zR7 (c:TT) (t u:TS):TS:=λD σ H=>c σ H λb H1=>if b=true then t D σ H1 else u D σ H1
def zA4 {c:Expr} {a b:List Stmt} {tc:TT} (hc:PT X c tc) (ha:PSs X a t) (hb:PSs X b u):PS X (.If c a b pos) (zR7 tc t u):=by
 intro pins s σ H D I h;refine wpAny_If (thn (hc pins s σ H _ I h) λd s1 aA=>?_);obtain⟨H1,I1,q1⟩:=aA;cases d with
 | true=>exact ha pins s1 σ H1 D I1 q1
 | false=>exact hb pins s1 σ H1 D I1 q1
end
abbrev TG:=V->St->Hp->(St->Hp->Prop)->Prop
abbrev TGs:=List V->St->Hp->(St->Hp->Prop)->Prop
def PG (X:Cx) (target:Expr) (t:TG):Prop:=
 ∀(pins:List (Addr × Obj)) (s:Shared) (σ:St) (H:Hp) (v:V) (u:Value) (Q:St->Hp->Prop),Inv X pins σ H s->zBl v u->t v σ H Q->
  wpAny (model X.prog X.w) X.A (assign target X.env u) (λ_ s'=>∃σ' H',Inv X pins σ' H' s'/\Q σ' H') X.xe s
def PGs (X:Cx) (ts:List Expr) (t:TGs):Prop:=
 ∀(pins:List (Addr × Obj)) (s:Shared) (σ:St) (H:Hp) (vs:List V) (us:List Value) (Q:St->Hp->Prop),Inv X pins σ H s->zA7 vs us->t vs σ H Q->
  wpAny (model X.prog X.w) X.A (assignInOrder ((assignEach ts X.env).map (·.2)) us) (λ_ s'=>∃σ' H',Inv X pins σ' H' s'/\Q σ' H') X.xe s
abbrev zQr:=V->V->V->Hp->(Hp->Prop)->Prop
def zRi (X:Cx) (t:zQr):Prop:=
 ∀(pins:List (Addr × Obj)) (s:Shared) (σ:St) (H:Hp) (o i v:V) (ov iv u:Value) (Q:Hp->Prop),Inv X pins σ H s->zBl o ov->zBl i iv->zBl v u->t o i v H Q->
  wpAny (model X.prog X.w) X.A (setItem ov iv u) (λ_ s'=>∃H',Inv X pins σ H' s'/\Q H') X.xe s
abbrev TIp:=V->V->Hp->VK->Prop
def PIp (X:Cx) (op:Operator) (t:TIp):Prop:=
 ∀(pins:List (Addr × Obj)) (s:Shared) (σ:St) (H:Hp) (x y:V) (v u:Value) (Q:VK),Inv X pins σ H s->zBl x v->zBl y u->t x y H Q->
  wpAny (model X.prog X.w) X.A (inplaceOp op v u) (EP X pins σ Q) X.xe s
section
variable {X:Cx} {pos:Pos}
def zJr (i:Nat):TG:=λv σ H Q=>Q (σ.set i (some v)) H
def zK {i:Nat} {x:Str} (hN:X.N.Nodup) (hi:X.N[i]?=some x) (hx:Loc X.env.scope x) (hf:X.fn x=true∨X.env.scope.names.lookup x=some .local:=by first | exact .inl rfl | exact .inr rfl | assumption):PG X (.Name x pos) (zJr i):=by intro pins s σ H v u Q I r h;exact wpAny_assign_Name (zCG I hN hi hx r (λs' I'=>⟨_,H,I',h⟩) hf)
def zRS:TGs:=λvs σ H Q=>vs=[]/\Q σ H
inductive GCons (t:TG) (u:TGs) (vs:List V) (σ:St) (H:Hp) (Q:St->Hp->Prop):Prop
 | mk (v:_) (r:_):(vs=v::r)->(t v σ H λσ' H'=>u r σ' H' Q)->GCons t u vs σ H Q
def zQX (t:TG) (u:TGs):TGs:=λvs σ H Q=>GCons t u vs σ H Q
def zAv:PGs X [] zRS:=by intro pins s σ H vs us Q I r h;obtain⟨e,h⟩:=h;subst e;cases r;exact assignInOrder_nil ⟨σ,H,I,h⟩
def zQ {e:Expr} {es:List Expr} {t:TG} {u:TGs} (h1:PG X e t) (h2:PGs X es u)
  (hs:(assignEach (e::es) X.env).map (·.2)=assign e X.env::(assignEach es X.env).map (·.2):=by rfl):PGs X (e::es) (zQX t u):=by
 intro pins s σ H vs us Q I r h;obtain⟨v,vr,e1,h⟩:=h;subst e1;cases r with
 | cons r rr=>
  rw[hs];refine assignInOrder_cons (thn (h1 pins s σ H _ _ _ I r h) λ_ s1 aA=>?_);obtain⟨σ1,H1,I1,q1⟩:=aA;exact h2 pins s1 σ1 H1 _ _ Q I1 rr q1
inductive GTup (K:W.Frag) (n:Nat) (t:TGs) (v:V) (σ:St) (H:Hp) (Q:St->Hp->Prop):Prop
 | mk (a:_) (xs:_):(v=.ref a)->SqT K H a xs->(xs.length=n)->t xs σ H Q->GTup K n t v σ H Q
def zRu (K:W.Frag) (n:Nat) (t:TGs):TG:=λv σ H Q=>GTup K n t v σ H Q
def zPC {es:List Expr} {k:Nat} {t:TGs} {n:Nat} (hc:X.calm=true) (h:PGs X es t)
  (hn:(assignEach es X.env).length=n:=by rfl) (bT:(assignEach es X.env).findIdx? (·.1)=none:=by rfl):PG X (.Tuple es k pos) (zRu X.K n t):=by
 intro pins s σ H v u Q I r hw;obtain⟨a,xs,e1,hq,hl,hw⟩:=hw;subst e1;cases r;obtain⟨its,rv,ht,hz⟩:=I.tuple hq;refine assign_Tuple_tuple (I.ok.hd hc) ht (by simp[hn,← hl,rv.length]) bT λh' hx=>?_;have I1:Inv X pins σ H { s with heap:=h' }:=I.kept (t':=s.toks) λb o e=>hx b o (wHg (wHa e)) e;exact h pins _ σ H xs _ Q I1 (by simpa using rv) hw
def zRR (to ti:TE) (t:zQr):TG:=λv σ H Q=>to σ H λo H1=>ti σ H1 λi H2=>t o i v H2 λH3=>Q σ H3
def zBZ {o i:Expr} {to ti:TE} {t:zQr} (ho:PE X o to) (hi:PE X i ti) (hs:zRi X t)
  (ha:∀v,assign (.Subscript o i pos) X.env v=(do
   let ov ← holding [v] (eval o X.env)
   let iv ← holding [v,ov] (eval i X.env)
   standAt pos
   holding [v,ov,iv] (setItem ov iv v)
   release [v,ov,iv] []):=by intro _;rfl):PG X (.Subscript o i pos) (zRR to ti t):=by
 intro pins s σ H v u Q I r h;rw[ha];refine wGY (wHQ (thn (ho pins s σ H _ I h) λov s1 aA=>?_));obtain⟨x,H1,I1,r1,q1⟩:=aA;refine wGY (wHQ (thn (hi pins s1 σ H1 _ I1 q1) λiv s2 aA=>?_));obtain⟨y,H2,I2,r2,q2⟩:=aA;refine wGY (wpAny_standAt (wGY (wHQ (thn (hs pins s2 σ H2 x y v ov iv u _ I2 r1 r2 r q2) λ_ s3 aA=>?_))));obtain⟨H3,I3,q3⟩:=aA;exact wpAny_release ⟨σ,H3,I3,q3⟩
def zQF (te:TE) (g:TG):TS:=λD σ H=>te σ H λx H1=>g x σ H1 D.nx
def zBB {tg e:Expr} {te:TE} {g:TG} (he:PE X e te) (hg:PG X tg g) (hs:swapsWithSole [tg] e pos.line X.env=pure false:=by rfl) (hw:swappedStores [tg] e X.env=pure none:=by rfl)
  (h1:(assignEach [tg] X.env).map (·.2)=[assign tg X.env]:=by rfl):PS X (.Assign [tg] e pos) (zQF te g):=by
 intro pins s σ H D I h;refine wpAny_Assign_stores (thn (he pins s σ H _ I h) λv s1 ⟨x,H1,I1,r1,q1⟩=>?_) hs hw;rw[h1];exact thn (hg pins s1 σ H1 x v _ I1 r1 q1) λ_ s2 q=>q
def zBa {i:Nat} {x:Str} {e:Expr} {te:TE} {pos':Pos} (hN:X.N.Nodup) (hi:X.N[i]?=some x) (hx:Loc X.env.scope x) (he:PE X e te) (hs:swapsWith e (some (.Name x pos')) pos.line X.env=pure false:=by rfl) (hf:X.fn x=true∨X.env.scope.names.lookup x=some .local:=by first | exact .inl rfl | exact .inr rfl | assumption) :
  PS X (.Assign [.Name x pos'] e pos) (zQF te (zJr i)):=by
 intro pins s σ H D I h;refine wpAny_Assign_Name (thn (he pins s σ H _ I h) λv s1 ⟨y,H1,I1,r1,q1⟩=>?_) hs;exact zCG I1 hN hi hx r1 (λs2 I2=>⟨_,H1,I2,q1⟩) hf
def zRB (i:Nat) (te:TE) (ti:TIp):TS:=λD σ H=>∃x,σ[i]?=some (some x)/\te σ H λy H1=>ti x y H1 λz H2=>D.nx (σ.set i (some z)) H2
def zP7 {i:Nat} {x:Str} {e:Expr} {te:TE} {op:Operator} {ti:TIp} {pos':Pos} (hN:X.N.Nodup) (hi:X.N[i]?=some x) (hx:Loc X.env.scope x) (he:PE X e te) (ho:PIp X op ti) (hf:X.fn x=true∨X.env.scope.names.lookup x=some .local:=by first | exact .inl rfl | exact .inr rfl | assumption) :
  PS X (.AugAssign (.Name x pos') op e pos) (zRB i te ti):=by
 intro pins s σ H D I h;obtain⟨v,e1,h⟩:=h;obtain⟨m,hn,hl⟩:=I.loc;have vis:Vis X.env.scope x:=by rcases hx with k | k;exact .inl k;exact .inr (.inl k)
 obtain⟨u,r,l⟩:=hl i x v hi e1 vis;refine wpAny_AugAssign_Name ?_;have go:wpAny (model X.prog X.w) X.A (eval e X.env) (λw s₂=>wpAny (model X.prog X.w) X.A (inplaceOp op u w) (λr s₃=>wpAny (model X.prog X.w) X.A (storeName X.env x r) (λ_=>SP X pins D .next) X.xe s₃) X.xe s₂) X.xe s:=by refine thn (he pins s σ H _ I h) λw s1 aA=>?_;obtain⟨y,H1,I1,r1,q1⟩:=aA;refine thn (ho pins s1 σ H1 v y u w _ I1 r r1 q1) λz s2 aA=>?_;obtain⟨zv,H2,I2,r2,q2⟩:=aA;exact zCG I2 hN hi hx r2 (λs3 I3=>⟨_,H2,I3,q2⟩) hf
 rcases l with ⟨hk,hm⟩ | ⟨hk,c,hc,bF⟩
 ·exact wpAny_loadName_local I.ok.kind hk hn hm go
 rcases hk with hk | hk
 ·exact wpAny_loadName_cell I.ok.kind hk hc bF go
 rcases hx with k | k
 ·have:X.env.scope.names.lookup x=some .free:=hk;rw[k] at this;cases this
 have:X.env.scope.names.lookup x=some .free:=hk;rw[k] at this;cases this
def zQE (to ti te:TE) (eK:V->V->Hp->VK->Prop) (k9:TIp) (eJ:zQr):TS:=λD σ H=>to σ H λo H1=>ti σ H1 λi H2=>eK o i H2 λx H3=>te σ H3 λy H4=>k9 x y H4 λz H5=>eJ o i z H5 λH6=>D.nx σ H6
def zR0 (X:Cx) (t:V->V->Hp->VK->Prop):Prop:=
 ∀(pins:List (Addr × Obj)) (s:Shared) (σ:St) (H:Hp) (o i:V) (ov iv:Value) (Q:VK),Inv X pins σ H s->zBl o ov->zBl i iv->t o i H Q->
  wpAny (model X.prog X.w) X.A (getItem ov iv) (EP X pins σ Q) X.xe s
def zHS {o i e:Expr} {to ti te:TE} {eK:V->V->Hp->VK->Prop} {k9:TIp} {eJ:zQr} {op:Operator} {iS:Pos} (ho:PE X o to) (hi:PE X i ti) (hg:zR0 X eK) (he:PE X e te) (hp:PIp X op k9) (hs:zRi X eJ)
  (ha:∀ov iv new,augStore i ov iv new=(do holding [new,ov,iv] (setItem ov iv new);release [new,ov,iv] [];pure .next):=by intros;rfl):PS X (.AugAssign (.Subscript o i iS) op e pos) (zQE to ti te eK k9 eJ):=by
 intro pins s σ H D I h;refine wpAny_AugAssign_SubscriptAny (thn (ho pins s σ H _ I h) λov s1 ⟨x1,H1,I1,r1,q1⟩=>?_) ha;refine thn (hi pins s1 σ H1 _ I1 q1) λiv s2 aA=>?_;obtain⟨x2,H2,I2,r2,q2⟩:=aA;refine thn (hg pins s2 σ H2 x1 x2 ov iv _ I2 r1 r2 q2) λold s3 aA=>?_;obtain⟨x3,H3,I3,r3,q3⟩:=aA;refine thn (he pins s3 σ H3 _ I3 q3) λv s4 aA=>?_;obtain⟨x4,H4,I4,r4,q4⟩:=aA;refine thn (hp pins s4 σ H4 x3 x4 old v _ I4 r3 r4 q4) λnew s5 aA=>?_;obtain⟨x5,H5,I5,r5,q5⟩:=aA;exact thn (hs pins s5 σ H5 x1 x2 x5 ov iv new _ I5 r1 r2 r5 q5) λ_ s6 ⟨H6,I6,q6⟩=>⟨σ,H6,I6,q6⟩
def ipI (f:Int->Int->Int):TIp:=λx y H Q=>∃i j,x=.int i/\y=.int j/\Q (.int (f i j)) H
def zQb:PIp X .Add (ipI λi j=>i+j):=by intro pins s σ H x y v u Q I r1 r2 h;obtain⟨i,j,e1,e2,q⟩:=h;subst e1;subst e2;obtain⟨t,rfl⟩:=r1;obtain⟨t',rfl⟩:=r2;exact iadd_int ⟨.int _,H,I.tok _,⟨_,rfl⟩,q⟩
def zKY:PIp X .Sub (ipI λi j=>i-j):=by intro pins s σ H x y v u Q I r1 r2 h;obtain⟨i,j,e1,e2,q⟩:=h;subst e1;subst e2;obtain⟨t,rfl⟩:=r1;obtain⟨t',rfl⟩:=r2;exact isub_int ⟨.int _,H,I.tok _,⟨_,rfl⟩,q⟩
def zPi (c:TT) (tb:TS):TS:=λD σ H=>∃W:Nat->St->Hp->Prop,(∃m,W m σ H)/\∀m σ H,W m σ H->
 c σ H λb H1=>if b=true then ∃N:St->Hp->Prop,(∀σ' H',N σ' H'->∃m',m' < m/\W m' σ' H')/\tb { D with nx:=N,ct:=N,bk:=D.nx } σ H1 else D.nx σ H1
def zFY {c:Expr} {body:List Stmt} {tc:TT} {tb:TS} (hp:PassesOwn (model X.prog X.w) X.A X.env X.xe) (hc:PT X c tc) (hb:PSs X body tb):PS X (.While c body [] pos) (zPi tc tb):=by
 intro pins s σ H D I h;obtain⟨W,⟨m0,w0⟩,turn⟩:=h;refine wpAny_While (codeAny_whileLoop (λn s'=>∃σ' H',Inv X pins σ' H' s'/\W n σ' H') ?_ m0 ⟨σ,H,I,w0⟩);rintro n s1 ⟨σ1,H1,I1,w1⟩;refine wpAny_passesOwn hp (thn (hc pins s1 σ1 H1 _ I1 (turn n σ1 H1 w1)) λb s2 aA=>?_);obtain⟨H2,I2,q2⟩:=aA;cases b with
 | true=>
  obtain⟨N,hN,q2⟩:=q2;rw[wG1 rfl];refine wpAny_passesOwn hp (thn (hb pins s2 σ1 H2 _ I2 q2) λf s3 q3=>?_);cases f with
  | next=>
   obtain⟨σ3,H3,I3,n3⟩:=q3;obtain⟨m',hm,w3⟩:=hN σ3 H3 n3;exact⟨m',hm,σ3,H3,I3,w3⟩
  | cont=>
   obtain⟨σ3,H3,I3,n3⟩:=q3;obtain⟨m',hm,w3⟩:=hN σ3 H3 n3;exact⟨m',hm,σ3,H3,I3,w3⟩
  | brk=>exact q3
  | ret v=>exact q3
 | false=>
  rw[wGZ wHf];exact wpAny_execs_nil ⟨σ1,H2,I2,q2⟩
end
structure It where
 go:Nat->Hp->Prop
 yld:Nat->Hp->V->Hp->Prop
 stop:Nat->Hp->Prop
def zEh (X:Cx) (pins:List (Addr × Obj)) (H:Hp) (b:Addr):Prop:=
 H b=none/\b≠X.env.locals/\b∉X.fs/\(b∈X.ex∨X.s₀.heap.objs.size<=b)/\(∀x c,X.env.cells.lookup x=some c->c≠b)/\∀p∈X.pn++pins,p.1≠b
def Inv.fpOk {X:Cx} {pins:List (Addr × Obj)} {σ:St} {H H':Hp} {s:Shared} {b:Addr} (I:Inv X pins σ H s) (hb:s.heap.objs.size<=b) (hn:H' b=none):zEh X pins H' b:=by
 refine⟨hn,Nat.ne_of_gt (wHi I.lt hb),I.nofs hb,.inr (wHe I.sz hb),λx c e z=>?_,λp hp z=>?_⟩
 ·obtain⟨v,q⟩:=I.cell x c e;exact absurd (wHi q.lt (by rw[z];exact hb)) (Nat.lt_irrefl _)
 exact absurd (wHi (wHa (I.pin p hp).1) (by rw[z];exact hb)) (Nat.lt_irrefl _)
structure Turn (P:Program) (w:World) (K:W.Frag) (tg:Expr) (J:It) (fp:List Addr) (it:Addr) (tn:Nat->Heap->Prop):Prop where
 mem:it∈fp
 obj:∀i h,tn i h->∀b∈fp,∃o,h.get? b=some o/\∀v,o.data≠.cell v
 keep:∀i h h',tn i h->(∀b∈fp,∀o,h.get? b=some o->h'.get? b=some o)->tn i h'
 item:∀(X:Cx),X.prog=P->X.w=w->X.K=K->X.calm=true->∀(i:Nat) (pins:List (Addr × Obj)) (s:Shared) (σ:St) (H:Hp) (E:Value->Shared->Prop),Inv X pins σ H s->(∀b∈fp,zEh X pins H b)->tn i s.heap->J.go i H->
  wpAny (model P w) X.A (pyNext (.ref it)) (λr s1=>∃u,r=some u/\
   wpAny (model P w) X.A (letOwnedTupleGo tg (.ref it) u) (λ_ s2=>∃x H',Inv X pins σ H' s2/\zBl x u/\J.yld i H x H'/\tn (i+1) s2.heap/\∀b∈fp,H' b=none) E s1) E s
 done:∀(X:Cx),X.prog=P->X.w=w->X.K=K->X.calm=true->∀(i:Nat) (pins:List (Addr × Obj)) (s:Shared) (σ:St) (H:Hp) (E:Value->Shared->Prop),Inv X pins σ H s->(∀b∈fp,zEh X pins H b)->tn i s.heap->J.stop i H->
  wpAny (model P w) X.A (pyNext (.ref it)) (λr s1=>r=none/\Inv X pins σ H s1) E s
 self:∀(A:Around) (i:Nat) (s:Shared) (Q:Value->Shared->Prop) (E:Value->Shared->Prop),tn i s.heap->Q (.ref it) s->wpAny (model P w) A (pyIter (.ref it)) Q E s
abbrev TI:=St->Hp->(It->Hp->Prop)->Prop
def PIE (X:Cx) (pins:List (Addr × Obj)) (σ:St) (tg:Expr) (R:It->Hp->Prop) (iA:Value) (s2:Shared):Prop:=
 ∃(it:Addr) (fp:List Addr) (tn:Nat->Heap->Prop) (J:It) (H':Hp),iA=.ref it/\Inv X pins σ H' s2/\Turn X.prog X.w X.K tg J fp it tn/\tn 0 s2.heap/\(∀b∈fp,zEh X pins H' b)/\R J H'
def PI (X:Cx) (tg iter:Expr) (wi:TI):Prop:=
 ∀(pins:List (Addr × Obj)) (s:Shared) (σ:St) (H:Hp) (R:It->Hp->Prop),Inv X pins σ H s->wi σ H R->
  wpAny (model X.prog X.w) X.A (eval iter X.env) (λv s1=>wpAny (model X.prog X.w) X.A (pyIter v) (PIE X pins σ tg R) X.xe s1) X.xe s
def zJp {M:Model} {A:Around} {E:Value->Shared->Prop} {s:Shared} {tg:Expr} {it:Addr} {u:Value} {o:Obj} {n:String} {vs:Array Value} {Q:Unit->Shared->Prop} (ho:s.heap.get? it=some o) (hc:o.cls=.type n) (hd:o.data=.fields vs)
  (hn:["enumerate","zip","dict_itemiterator","dict_reverseitemiterator","odict_iterator","itertools.zip_longest","itertools.pairwise"].contains n=false) (hQ:Q PUnit.unit s):wpAny M A (letOwnedTupleGo tg (.ref it) u) Q E s:=by
 unfold letOwnedTupleGo;cases tg<;>first
  | exact wG2 hQ
  | (cases u<;>first
    | exact wG2 hQ
    | (refine wGY (wpAny_load ho ?_)
       rw[hc,hd];show wpAny M A (if (["enumerate","zip","dict_itemiterator","dict_reverseitemiterator","odict_iterator","itertools.zip_longest","itertools.pairwise"].contains n && vs[0]? == some (rawInt _))=true then _ else _) Q E s;rw[wGZ (by intro h;rw[hn,Bool.false_and] at h;cases h)];exact wG2 hQ))
def Itl (K:W.Frag) (a:Addr):It:=
 ⟨λi H=>∃xs x,SqL K H a xs/\xs[i]?=some x,λi H x H'=>H'=H/\∀xs,SqL K H a xs->xs[i]?=some x,λi H=>∃xs,SqL K H a xs/\xs.length<=i⟩
def Itt (K:W.Frag) (a:Addr):It:=
 ⟨λi H=>∃xs x,SqT K H a xs/\xs[i]?=some x,λi H x H'=>H'=H/\∀xs,SqT K H a xs->xs[i]?=some x,λi H=>∃xs,SqT K H a xs/\xs.length<=i⟩
def Itr (lo:Int) (n:Nat):It:=⟨λi _=>i < n,λi H x H'=>H'=H/\x=.int (lo+i),λi _=>n<=i⟩
def zJE {P:Program} {w:World} {K:W.Frag} {tg:Expr} (a it:Addr):Turn P w K tg (Itl K a) [it] it (λi h=>h.IsListIter it a i) where
 mem:=by simp
 obj:=λi h st b hb=>by
  have e:b=it:=by simpa using hb
  subst e;obtain⟨o,e,c,d⟩:=st;exact⟨o,e,λv z=>by rw[d] at z;cases z⟩
 keep:=λi h h' st k=>st.at λo e=>k it (by simp) o e
 item:=by intro X hP hw hK hc i pins s σ H E I hf st hg;subst hP hw hK;obtain⟨xs,x,hq,hx⟩:=hg;obtain⟨its,rv,p,hz⟩:=I.list hq;obtain⟨u,hu,ru⟩:=rv.get hx;obtain⟨f0,f1,f2,f3,f4,f5⟩:=hf it (by simp);refine wpAny_pyNext_list_item st p.isList (x:=u) (by simpa using hu) λh' aT sb=>?_;have I1:Inv X pins σ H { s with heap:=h' }:=I.turned (t':=s.toks) (λb o hb e=>(sb.2 b hb).trans e) f0 f1 f3 f4 f5;obtain⟨o,e,c,d⟩:=id aT;exact⟨u,rfl,zJp (s:={ s with heap:=h' }) e c d ⋯ ⟨x,H,I1,ru,⟨rfl,λys hy=>by rw[I.list_inj hy hq];exact hx⟩,aT,λb hb=>(hf b hb).1⟩⟩
 done:=by intro X hP hw hK hc i pins s σ H E I hf st hg;subst hP hw hK;obtain⟨xs,hq,hx⟩:=hg;obtain⟨its,rv,p,hz⟩:=I.list hq;obtain⟨f0,f1,f2,f3,f4,f5⟩:=hf it (by simp);have hl:=rv.length;exact wpAny_pyNext_list_end (I.ok.hd hc) st p.isList (by simp;omega) λh' eb=>⟨rfl,I.turned (t':=s.toks) (λb o hb e=>eb b o hb e) f0 f1 f3 f4 f5⟩
 self:=λ_ _ _ _ _ st h=>wpAny_pyIter_listiter st h
def zIQ {P:Program} {w:World} {K:W.Frag} {tg:Expr} (a it:Addr):Turn P w K tg (Itt K a) [it] it (λi h=>h.IsTupleIter it a i) where
 mem:=by simp
 obj:=λi h st b hb=>by
  have e:b=it:=by simpa using hb
  subst e;obtain⟨o,e,c,d⟩:=st;exact⟨o,e,λv z=>by rw[d] at z;cases z⟩
 keep:=λi h h' st k=>st.at λo e=>k it (by simp) o e
 item:=by intro X hP hw hK hc i pins s σ H E I hf st hg;subst hP hw hK;obtain⟨xs,x,hq,hx⟩:=hg;obtain⟨its,rv,p,hz⟩:=I.tuple hq;obtain⟨u,hu,ru⟩:=rv.get hx;obtain⟨f0,f1,f2,f3,f4,f5⟩:=hf it (by simp);refine wpAny_pyNext_tuple_item st (show s.heap.IsTuple a its.toArray from p) (x:=u) (by simpa using hu) λh' aT sb=>?_;have I1:Inv X pins σ H { s with heap:=h' }:=I.turned (t':=s.toks) (λb o hb e=>(sb.2 b hb).trans e) f0 f1 f3 f4 f5;obtain⟨o,e,c,d⟩:=id aT;exact⟨u,rfl,zJp (s:={ s with heap:=h' }) e c d ⋯ ⟨x,H,I1,ru,⟨rfl,λys hy=>by rw[I.tuple_inj hy hq];exact hx⟩,aT,λb hb=>(hf b hb).1⟩⟩
 done:=by intro X hP hw hK hc i pins s σ H E I hf st hg;subst hP hw hK;obtain⟨xs,hq,hx⟩:=hg;obtain⟨its,rv,p,hz⟩:=I.tuple hq;obtain⟨f0,f1,f2,f3,f4,f5⟩:=hf it (by simp);have hl:=rv.length;exact wpAny_pyNext_tuple_end (I.ok.hd hc) st (show s.heap.IsTuple a its.toArray from p) (by simp;omega) λh' eb=>⟨rfl,I.turned (t':=s.toks) (λb o hb e=>eb b o hb e) f0 f1 f3 f4 f5⟩
 self:=λ_ _ _ _ _ st h=>wpAny_pyIter_tupleiter st h
def zIR {P:Program} {w:World} {K:W.Frag} {tg:Expr} (it:Addr) (lo:Int) (n:Nat):Turn P w K tg (Itr lo n) [it] it (λi h=>IsRangeIter h it (lo+(i:Nat)*1) ((n:Int)-(i:Nat)) 1) where
 mem:=by simp
 obj:=λi h st b hb=>by
  have e:b=it:=by simpa using hb
  subst e;exact⟨_,st,λv z=>by have z':Data.fields _=Data.cell v:=z;cases z'⟩
 keep:=λi h h' st k=>k it (by simp) _ st
 item:=by intro X hP hw hK hc i pins s σ H E I hf st hg;subst hP hw hK;obtain⟨f0,f1,f2,f3,f4,f5⟩:=hf it (by simp);have W:=Walks.range (prog:=X.prog) (w:=X.w) (I.ok.hd hc) it lo 1 n;refine W.item i s _ _ hg st λv h' tk hv aT kk=>?_;obtain⟨t,rfl⟩:=hv;have I1:Inv X pins σ H { s with heap:=h',toks:=tk }:=I.turned (λb o hb e=>kk b o (by simpa using hb) e) f0 f1 f3 f4 f5;refine⟨_,rfl,zJp (s:={ s with heap:=h',toks:=tk }) (n:="range_iterator") aT rfl rfl ⋯ ⟨.int (lo+i),H,I1,⟨t,?_⟩,⟨rfl,rfl⟩,aT,λb hb=>(hf b hb).1⟩⟩;rw[Int.mul_one]
 done:=by intro X hP hw hK hc i pins s σ H E I hf st hg;subst hP hw hK;obtain⟨f0,f1,f2,f3,f4,f5⟩:=hf it (by simp);exact wpAny_pyNext_range_end (I.ok.hd hc) st (by have:n<=i:=hg;omega) λh' eb=>⟨rfl,I.turned (t':=s.toks) (λb o hb e=>eb b o hb e) f0 f1 f3 f4 f5⟩
 self:=λ_ _ _ _ _ st h=>wpAny_pyIter_rangeiter st h
section
variable {X:Cx} {tg:Expr}
inductive IList (K:W.Frag) (x:V) (H1:Hp) (R:It->Hp->Prop):Prop
 | mk (a:_):(x=.ref a)->((∃xs,SqL K H1 a xs))->(R (Itl K a) H1)->IList K x H1 R
def zQf (K:W.Frag) (tl:TE):TI:=λσ H R=>tl σ H λx H1=>IList K x H1 R
inductive ITup (K:W.Frag) (x:V) (H1:Hp) (R:It->Hp->Prop):Prop
 | mk (a:_):(x=.ref a)->((∃xs,SqT K H1 a xs))->(R (Itt K a) H1)->ITup K x H1 R
def zRO (K:W.Frag) (tl:TE):TI:=λσ H R=>tl σ H λx H1=>ITup K x H1 R
def zOl {l:Expr} {tl:TE} (hl:PE X l tl):PI X tg l (zQf X.K tl):=by
 intro pins s σ H R I h;refine thn (hl pins s σ H _ I h) λv s1 aA=>?_;obtain⟨x,H1,I1,r1,q1⟩:=aA;obtain⟨a,e,⟨xs,hq⟩,q⟩:=q1;subst e;cases r1;obtain⟨its,rv,p,hz⟩:=I1.list hq;refine wpAny_pyIter_list p.isList ?_;refine⟨s1.heap.objs.size,[s1.heap.objs.size],_,_,H1,rfl,I1.kept (t':=s1.toks) λb o e=>wG3 _ e,zJE a _,⟨_,wHb _ rfl,rfl,rfl⟩,λb hb=>?_,q⟩;have e:b=s1.heap.objs.size:=by simpa using hb
 subst e;exact I1.fpOk (wG5 _) (I1.hok.fresh (wG5 _))
def zPA {l:Expr} {tl:TE} (hl:PE X l tl):PI X tg l (zRO X.K tl):=by
 intro pins s σ H R I h;refine thn (hl pins s σ H _ I h) λv s1 aA=>?_;obtain⟨x,H1,I1,r1,q1⟩:=aA;obtain⟨a,e,⟨xs,hq⟩,q⟩:=q1;subst e;cases r1;obtain⟨its,rv,p,hz⟩:=I1.tuple hq;refine wpAny_pyIter_tuple (show s1.heap.IsTuple a its.toArray from p) ?_;refine⟨s1.heap.objs.size,[s1.heap.objs.size],_,_,H1,rfl,I1.kept (t':=s1.toks) λb o e=>wG3 _ e,zIQ a _,⟨_,wHb _ rfl,rfl,rfl⟩,λb hb=>?_,q⟩;have e:b=s1.heap.objs.size:=by simpa using hb
 subst e;exact I1.fpOk (wG5 _) (I1.hok.fresh (wG5 _))
def zMb {pins:List (Addr × Obj)} {σ:St} {H:Hp} {s:Shared} {R:It->Hp->Prop} {E:Value->Shared->Prop} {lo hi:Int} {t u v:Tok} {tk:Nat} (I:Inv X pins σ H s) (h1:-(2 ^ 62)<=lo) (h2:lo < 2 ^ 62) (h3:-(2 ^ 62)<=hi) (h4:hi < 2 ^ 62)
  (q:R (Itr lo (hi-lo).toNat) H):wpAny (model X.prog X.w) X.A (pyIter (.ref s.heap.objs.size)) (PIE X pins σ tg R) E { s with heap:=s.heap.push { cls:=.type "range",data:=.fields #[.int lo t,.int hi u,.int 1 v] },toks:=tk }:=by
 refine wpAny_pyIter_range (IsRange.new ..) (small_one h1 h2 h3 h4) ?_;have I1:Inv X pins σ H { s with heap:=s.heap.push { cls:=.type "range",data:=.fields #[.int lo t,.int hi u,.int 1 v] },toks:=tk }:=I.kept λb o e=>wG3 _ e;refine⟨(s.heap.push { cls:=.type "range",data:=.fields #[.int lo t,.int hi u,.int 1 v] }).objs.size,[(s.heap.push { cls:=.type "range",data:=.fields #[.int lo t,.int hi u,.int 1 v] }).objs.size],_,_,H,rfl,
  I1.kept (t':=tk) λb o e=>wG3 _ e,zIR _ lo (hi-lo).toNat,?_,λb hb=>?_,q⟩
 ·have e1:lo+((0:Nat):Int)*1=lo:=by simp
  have e2:(((hi-lo).toNat:Nat):Int)-((0:Nat):Int)=Builtin.Range.rangeSize lo hi 1:=by rw[rangeSize_one];split<;>omega
  show IsRangeIter _ _ (lo+((0:Nat):Int)*1) ((((hi-lo).toNat:Nat):Int)-((0:Nat):Int)) 1;rw[e1,e2];exact wHb _ rfl
 have e:b=(s.heap.push { cls:=.type "range",data:=.fields #[.int lo t,.int hi u,.int 1 v] }).objs.size:=by simpa using hb
 subst e;exact I1.fpOk (wG5 _) (I1.hok.fresh (wG5 _))
inductive IRng1 (vs:List V) (H1:Hp) (R:It->Hp->Prop):Prop
 | mk (j:Int):(vs=[.int j])->(-(2 ^ 62)<=j)->(j < 2 ^ 62)->(R (Itr 0 j.toNat) H1)->IRng1 vs H1 R
def zQT (ta:TA):TI:=λσ H R=>ta σ H λvs H1=>IRng1 vs H1 R
def zAh {a:Expr} {ta:TA} {p pos:Pos} (hg:Gl X "range") (hm:X.mg "range"=none) (ha:PA X [a] ta) (hs:starEach [a] X.env=[(false,eval a X.env)]:=by rfl):PI X tg (.Call (.Name "range" p) [a] [] pos) (zQT ta):=by
 intro pins s σ H R I h;refine Call_ (zER I hg hm boot_range (PyProof.Rows.callWith_type1 (thn (ha pos pins s σ H _ I h) λus s1 ⟨vs,H1,I1,r1,q1⟩=>?_) hs rfl));obtain⟨j,e,q1,q2,q⟩:=q1;subst e;cases r1 with
 | cons r rr=>
  cases rr;obtain⟨t,rfl⟩:=r;exact call_range_1 (zMb I1 ∅ ∅ q1 q2 (by simpa using q))
def zR8 (wi:TI) (g:TG) (tb:TS):TS:=λD σ H=>wi σ H λJ H1=>∃W:Nat->Nat->St->Hp->Prop,(∃m,W 0 m σ H1)/\∀i m σ H,W i m σ H->
 (J.stop i H/\D.nx σ H)∨(J.go i H/\∃N:St->Hp->Prop,(∀σ' H',N σ' H'->∃m',m' < m/\W (i+1) m' σ' H')/\∀x H',J.yld i H x H'->g x σ H' λσ2 H2=>tb { D with nx:=N,ct:=N,bk:=D.nx } σ2 H2)
def zF0 (fp:List Addr) (h:Heap):List (Addr × Obj):=fp.filterMap λb=>(h.get? b).map λo=>(b,o)
def zCH {fp:List Addr} {h:Heap} {b:Addr} {o:Obj} (hb:b∈fp) (e:h.get? b=some o):(b,o)∈zF0 fp h:=List.mem_filterMap.mpr ⟨b,hb,by rw[e];rfl⟩
def zKH {fp:List Addr} {h:Heap} {p:Addr × Obj} (hp:p∈zF0 fp h):p.1∈fp/\h.get? p.1=some p.2:=by
 obtain⟨b,hb,e⟩:=List.mem_filterMap.mp hp;cases q:h.get? b with
 | none=>rw[q] at e;cases e
 | some o=>
  rw[q] at e;have e':(b,o)=p:=wG8 e;subst e';exact⟨hb,q⟩
def Inv.pinned {pins:List (Addr × Obj)} {σ:St} {H:Hp} {s:Shared} {fp:List Addr} (I:Inv X pins σ H s) (hf:∀b∈fp,zEh X pins H b) (ho:∀b∈fp,∃o,s.heap.get? b=some o/\∀v,o.data≠.cell v):Inv X (pins++zF0 fp s.heap) σ H s:=
 I.pins_of λp hp=>(wIm hp).elim (λz=>I.pin p (wHp _ z)) λz=>by obtain⟨hb,e⟩:=zKH z;obtain⟨f0,f1,f2,_⟩:=hf p.1 hb;obtain⟨o,e',d⟩:=ho p.1 hb;rw[e] at e';cases e';exact⟨e,f0,f1,f2,d⟩
def Inv.unpinned {pins pl:List (Addr × Obj)} {σ:St} {H:Hp} {s:Shared} (I:Inv X (pins++pl) σ H s):Inv X pins σ H s:=I.pins_of λp hp=>I.pin p (wHp _ (List.mem_append_left _ hp))
def zAp {iter:Expr} {body:List Stmt} {wi:TI} {g:TG} {tb:TS} {pos:Pos} (hp:PassesOwn (model X.prog X.w) X.A X.env X.xe) (hc:X.calm=true) (hi:PI X tg iter wi) (hg:PG X tg g) (hb:PSs X body tb)
  (hs:∀x,foldedSetIterable iter X.env x=pure x:=by intro _;rfl):PS X (.For tg iter body [] pos) (zR8 wi g tb):=by
 intro pins s σ H D I h;refine wpAny_For (thn (hi pins s σ H _ I h) λv s1 h1=>thn h1 λiA s2 h2=>?_) hs;obtain⟨it,fp,tn,J,H2,e,I2,T,dA,f2,W,⟨m0,w0⟩,turn⟩:=h2;subst e;have fS:∀{H':Hp},(∀b∈fp,H' b=none)->∀b∈fp,zEh X pins H' b:=λhn b hb=>⟨hn b hb,(f2 b hb).2⟩;refine codeAny_forLoop_any (λn s'=>∃i σ' H',Inv X pins σ' H' s'/\tn i s'.heap/\(∀b∈fp,H' b=none)/\W i n σ' H') ?_ m0 ⟨0,σ,H2,I2,dA,λb hb=>(f2 b hb).1,w0⟩;rintro n s3 ⟨i,σ3,H3,I3,st3,fr3,w3⟩;rcases turn i n σ3 H3 w3 with ⟨stop,qn⟩ | ⟨go,N,hN,step⟩
 ·refine wpAny_passesOwn hp (thn (T.done X rfl rfl rfl hc i pins s3 σ3 H3 X.xe I3 (fS fr3) st3 stop) λr s4 aA=>?_);obtain⟨hr,I4⟩:=aA;subst hr;exact wpAny_execs_nil ⟨σ3,H3,I4,qn⟩
 refine wpAny_passesOwn hp (thn (T.item X rfl rfl rfl hc i pins s3 σ3 H3 X.xe I3 (fS fr3) st3 go) λr s4 aA=>?_);obtain⟨u,hr,h4⟩:=aA;subst hr;refine wpAny_passesOwn hp (thn h4 λ_ s5 aA=>?_);obtain⟨x,H5,I5,r5,y5,mT,fr5⟩:=aA;have I5':=I5.pinned (fS fr5) (T.obj _ _ mT);refine wpAny_passesOwn hp (thn (hg _ s5 σ3 H5 x u _ I5' r5 (step x H5 y5)) λ_ s6 aA=>?_);obtain⟨σ6,H6,I6,q6⟩:=aA;refine wpAny_passesOwn hp (thn (hb _ s6 σ6 H6 _ I6 q6) λf s7 q7=>?_);have again:∀{σ7:St} {H7:Hp},Inv X (pins++zF0 fp s5.heap) σ7 H7 s7->N σ7 H7->∃m,m < n/\∃i σ' H',Inv X pins σ' H' s7/\tn i s7.heap/\(∀b∈fp,H' b=none)/\W i m σ' H':=λ{σ7 H7} I7 n7=>by obtain⟨m',hm,w7⟩:=hN σ7 H7 n7;refine⟨m',hm,i+1,σ7,H7,I7.unpinned,T.keep _ _ _ mT λb hb o e=>(I7.pin (b,o) (wHp _ (wHp _ (zCH hb e)))).1,λb hb=>?_,w7⟩;obtain⟨o,e,d⟩:=T.obj _ _ mT b hb;exact (I7.pin (b,o) (wHp _ (wHp _ (zCH hb e)))).2.1
 cases f with
 | next=>obtain⟨σ7,H7,I7,n7⟩:=q7;exact again I7 n7
 | cont=>obtain⟨σ7,H7,I7,n7⟩:=q7;exact again I7 n7
 | brk=>obtain⟨σ7,H7,I7,q7⟩:=q7;exact⟨σ7,H7,I7.unpinned,q7⟩
 | ret v=>obtain⟨x7,σ7,H7,I7,r7,q7⟩:=q7;exact⟨x7,σ7,H7,I7.unpinned,r7,q7⟩
end
def zAy {K:W.Frag} {a:Addr} {xs:List V} {g:TG} {tb:TS} {D:Ends} {σ:St} {H:Hp} (Pv:Nat->St->Hp->Prop) (h0:Pv 0 σ H) (hl:∀i σ H,i<=xs.length->Pv i σ H->SqL K H a xs)
  (hs:∀i x σ H,xs[i]?=some x->Pv i σ H->g x σ H λσ2 H2=>tb { D with nx:=Pv (i+1),ct:=Pv (i+1),bk:=D.nx } σ2 H2) (hd:∀σ H,Pv xs.length σ H->D.nx σ H) :
  ∃W:Nat->Nat->St->Hp->Prop,(∃m,W 0 m σ H)/\∀i m σ H,W i m σ H->
   ((Itl K a).stop i H/\D.nx σ H)∨((Itl K a).go i H/\∃N:St->Hp->Prop,(∀σ' H',N σ' H'->∃m',m' < m/\W (i+1) m' σ' H')/\∀x H',(Itl K a).yld i H x H'->g x σ H' λσ2 H2=>tb { D with nx:=N,ct:=N,bk:=D.nx } σ2 H2):=by
 refine⟨λi m σ H=>m=xs.length-i/\i<=xs.length/\Pv i σ H,⟨xs.length,by simp,wHK _,h0⟩,?_⟩;rintro i m σ H ⟨rfl,hi,p⟩;have q:=hl i σ H hi p;by_cases aD:i < xs.length
 ·refine .inr ⟨⟨xs,xs[i],q,by simp[aD]⟩,Pv (i+1),λσ' H' p'=>⟨xs.length-(i+1),by omega,rfl,aD,p'⟩,λx H' y=>?_⟩;obtain⟨e,y⟩:=y;subst e;exact hs i x σ _ (y xs q) p
 have e:i=xs.length:=by omega
 subst e;exact .inl ⟨⟨xs,q,wG5 _⟩,hd σ H p⟩
def zA1 {lo:Int} {n:Nat} {g:TG} {tb:TS} {D:Ends} {σ:St} {H:Hp} (Pv:Nat->St->Hp->Prop) (h0:Pv 0 σ H)
  (hs:∀i σ H,i < n->Pv i σ H->g (.int (lo+i)) σ H λσ2 H2=>tb { D with nx:=Pv (i+1),ct:=Pv (i+1),bk:=D.nx } σ2 H2) (hd:∀σ H,Pv n σ H->D.nx σ H) :
  ∃W:Nat->Nat->St->Hp->Prop,(∃m,W 0 m σ H)/\∀i m σ H,W i m σ H->
   ((Itr lo n).stop i H/\D.nx σ H)∨((Itr lo n).go i H/\∃N:St->Hp->Prop,(∀σ' H',N σ' H'->∃m',m' < m/\W (i+1) m' σ' H')/\∀x H',(Itr lo n).yld i H x H'->g x σ H' λσ2 H2=>tb { D with nx:=N,ct:=N,bk:=D.nx } σ2 H2):=by
 refine⟨λi m σ H=>m=n-i/\i<=n/\Pv i σ H,⟨n,by simp,wHK _,h0⟩,?_⟩;rintro i m σ H ⟨rfl,hi,p⟩;by_cases aD:i < n
 ·refine .inr ⟨aD,Pv (i+1),λσ' H' p'=>⟨n-(i+1),by omega,rfl,aD,p'⟩,λx H' y=>?_⟩;obtain⟨e,y⟩:=y;subst e y;exact hs i σ _ aD p
 have e:i=n:=by omega
 subst e;exact .inl ⟨wG5 _,hd σ H p⟩
abbrev R2:=V->V->Hp->VK->Prop
def OpR (X:Cx) (f:Value->Value->Sem Value) (r:R2):Prop:=
 ∀(pins:List (Addr × Obj)) (s:Shared) (σ:St) (H:Hp) (x y:V) (v u:Value) (Q:VK),Inv X pins σ H s->zBl x v->zBl y u->r x y H Q->
  wpAny (model X.prog X.w) X.A (f v u) (EP X pins σ Q) X.xe s
def UnR (X:Cx) (f:Value->Sem Value) (r:V->Hp->VK->Prop):Prop:=
 ∀(pins:List (Addr × Obj)) (s:Shared) (σ:St) (H:Hp) (x:V) (v:Value) (Q:VK),Inv X pins σ H s->zBl x v->r x H Q->
  wpAny (model X.prog X.w) X.A (f v) (EP X pins σ Q) X.xe s
def zB6 (X:Cx) (f:Value) (r:List V->Hp->VK->Prop):Prop:=
 ∀(pins:List (Addr × Obj)) (s:Shared) (σ:St) (H:Hp) (xs:List V) (us:List Value) (Q:VK),Inv X pins σ H s->zA7 xs us->r xs H Q->
  wpAny (model X.prog X.w) X.A (call f us) (EP X pins σ Q) X.xe s
def zRW (X:Cx) (r:V->Hp->(Bool->Hp->Prop)->Prop):Prop:=
 ∀(pins:List (Addr × Obj)) (s:Shared) (σ:St) (H:Hp) (x:V) (v:Value) (Q:Bool->Hp->Prop),Inv X pins σ H s->zBl x v->r x H Q->
  wpAny (model X.prog X.w) X.A (truthy v) (TP X pins σ Q) X.xe s
def tOp (r:R2) (ta tb:TE):TE:=λσ H Q=>ta σ H λx H1=>tb σ H1 λy H2=>r x y H2 Q
def tUn (r:V->Hp->VK->Prop) (ta:TE):TE:=λσ H Q=>ta σ H λx H1=>r x H1 Q
inductive RI (C:Int->Int->Prop) (g:Int->Int->V) (x:V) (y:V) (H:Hp) (Q:VK):Prop
 | mk (i:_) (j:_):(x=.int i)->(y=.int j)->C i j->(Q (g i j) H)->RI C g x y H Q
def rI (C:Int->Int->Prop) (g:Int->Int->V):R2:=λx y H Q=>RI C g x y H Q
inductive RI0 (g:Int->Int->V) (x:V) (y:V) (H:Hp) (Q:VK):Prop
 | mk (i:_) (j:_):(x=.int i)->(y=.int j)->(Q (g i j) H)->RI0 g x y H Q
def rI0 (g:Int->Int->V):R2:=λx y H Q=>RI0 g x y H Q
inductive RU (g:Int->V) (x:V) (H:Hp) (Q:VK):Prop
 | mk (i:_):(x=.int i)->(Q (g i) H)->RU g x H Q
def rU (g:Int->V):V->Hp->VK->Prop:=λx H Q=>RU g x H Q
section
variable {X:Cx} {a b:Expr} {ta tb:TE} {pos:Pos}
def zQZ (ha:PE X a ta) (hb:PE X b tb) {pins:List (Addr × Obj)} {s:Shared} {σ:St} {H:Hp} {R:V->V->Hp->Prop} (I:Inv X pins σ H s)
  (h:ta σ H λx H1=>tb σ H1 λy H2=>R x y H2) {Q:Value->Shared->Prop} {f:Value->Value->Sem Value}
  (hf:∀v u s2 x y H2,Inv X pins σ H2 s2->zBl x v->zBl y u->R x y H2->wpAny (model X.prog X.w) X.A (f v u) Q X.xe s2) :
  wpAny (model X.prog X.w) X.A (eval a X.env) (λv s₁=>wpAny (model X.prog X.w) X.A (eval b X.env) (λu s₂=>wpAny (model X.prog X.w) X.A (f v u) Q X.xe s₂) X.xe s₁) X.xe s:=by
 refine thn (ha pins s σ H _ I h) λv s1 aA=>?_;obtain⟨x,H1,I1,r1,q1⟩:=aA;refine thn (hb pins s1 σ H1 _ I1 q1) λu s2 aA=>?_;obtain⟨y,H2,I2,r2,q2⟩:=aA;exact hf v u s2 x y H2 I2 r1 r2 q2
def zW {op:Operator} {r:R2} (ho:OpR X (binaryOp op) r) (ha:PE X a ta) (hb:PE X b tb):PE X (.BinOp a op b pos) (tOp r ta tb):=by intro pins s σ H Q I h;exact wpAny_BinOp (zQZ ha hb I h λv u s2 x y H2 I2 rx ry q=>ho pins s2 σ H2 x y v u Q I2 rx ry q)
def zPF {op:UnaryOp} {r:V->Hp->VK->Prop} (ho:UnR X (unaryOp op) r) (ha:PE X a ta):PE X (.UnaryOp op a pos) (tUn r ta):=by intro pins s σ H Q I h;exact UnaryOp_ (thn (ha pins s σ H _ I h) λv s1 ⟨x,H1,I1,r1,q1⟩=>ho pins s1 σ H1 x v Q I1 r1 q1)
def opI {f:Value->Value->Sem Value} {C:Int->Int->Prop} {g:Int->Int->Int}
  (rule:∀(i j:Int) (t u:Tok) (s:Shared) (Q:Value->Shared->Prop) (E:Value->Shared->Prop),C i j->Q (.int (g i j) s.toks) { s with toks:=s.toks+1 }->wpAny (model X.prog X.w) X.A (f (.int i t) (.int j u)) Q E s) :
  OpR X f (rI C λi j=>.int (g i j)):=by
 intro pins s σ H x y v u Q I rx ry h;obtain⟨i,j,rfl,rfl,hc,q⟩:=h;obtain⟨t,rfl⟩:=rx;obtain⟨t',rfl⟩:=ry;exact rule i j t t' s _ _ hc ⟨.int (g i j),H,I.tok _,⟨_,rfl⟩,q⟩
def zRs {f:Value->Value->Sem Value} {g:Int->Int->Int}
  (rule:∀(i j:Int) (t u:Tok) (s:Shared) (Q:Value->Shared->Prop) (E:Value->Shared->Prop),Q (.int (g i j) s.toks) { s with toks:=s.toks+1 }->wpAny (model X.prog X.w) X.A (f (.int i t) (.int j u)) Q E s) :
  OpR X f (rI0 λi j=>.int (g i j)):=by
 intro pins s σ H x y v u Q I rx ry h;obtain⟨i,j,rfl,rfl,q⟩:=h;obtain⟨t,rfl⟩:=rx;obtain⟨t',rfl⟩:=ry;exact rule i j t t' s _ _ ⟨.int (g i j),H,I.tok _,⟨_,rfl⟩,q⟩
def zQx {f:Value->Value->Sem Value} {g:Int->Int->Bool}
  (rule:∀(i j:Int) (t u:Tok) (s:Shared) (Q:Value->Shared->Prop) (E:Value->Shared->Prop),Q (.bool (g i j)) s->wpAny (model X.prog X.w) X.A (f (.int i t) (.int j u)) Q E s) :
  OpR X f (rI0 λi j=>.bl (g i j)):=by
 intro pins s σ H x y v u Q I rx ry h;obtain⟨i,j,rfl,rfl,q⟩:=h;obtain⟨t,rfl⟩:=rx;obtain⟨t',rfl⟩:=ry;exact rule i j t t' s _ _ ⟨.bl (g i j),H,I,rfl,q⟩
def zSa (i j:Int):Prop:=0 < j/\j < 1073741824
def zRZ (i j:Int):Prop:=0<=j/\j<=1000000/\i.natAbs < 2 ^ 64
def zRl (i j:Int):Prop:=(-(2 ^ 64) < i/\i < 2 ^ 64)∨(-(2 ^ 64) < j/\j < 2 ^ 64)
def zRl.ok {i j:Int} (h:zRl i j):IntMulOk i j:=by
 rcases h with ⟨h1,h2⟩ | ⟨h1,h2⟩
 ·exact .of_left (intBits_le_64 h1 h2)
 exact .of_right (intBits_le_64 h1 h2)
def zBj:OpR X (binaryOp .Add) (rI0 λi j=>.int (i+j)):=zRs λ_ _ _ _ _ _ _ q=>add_int q
def zDT:OpR X (binaryOp .Sub) (rI0 λi j=>.int (i-j)):=zRs λ_ _ _ _ _ _ _ q=>sub_int q
def zGO:OpR X (binaryOp .Mult) (rI zRl λi j=>.int (i*j)):=opI λ_ _ _ _ _ _ _ hc q=>mul_int q hc.ok
def zB5:OpR X (binaryOp .FloorDiv) (rI zSa λi j=>.int (i / j)):=opI λi j _ _ _ _ _ hc q=>by have h1:(0:Int) < j:=hc.1;have h2:j < 1073741824:=hc.2;exact floordiv_int ∅ (by rw[Int.fdiv_eq_ediv_of_nonneg i ∅];exact q) (.inl (PyProof.noPylong_small ∅))
def zAt:OpR X (binaryOp .Mod) (rI (λ_ j=>0 < j) λi j=>.int (i%j)):=opI λi j _ _ _ _ _ hc q=>by have h1:(0:Int) < j:=hc;exact mod_int' ∅ (by rw[Int.fmod_eq_emod_of_nonneg i ∅];exact q)
def zNk:OpR X (binaryOp .Pow) (rI zRZ λi j=>.int (i ^ j.toNat)):=opI λ_ _ _ _ _ _ _ hc q=>pow_int_small hc.1 hc.2.1 hc.2.2 q
def unI {f:Value->Sem Value} {g:Int->Int}
  (rule:∀(i:Int) (t:Tok) (s:Shared) (Q:Value->Shared->Prop) (E:Value->Shared->Prop),Q (.int (g i) s.toks) { s with toks:=s.toks+1 }->wpAny (model X.prog X.w) X.A (f (.int i t)) Q E s) :
  UnR X f (rU λi=>.int (g i)):=by
 intro pins s σ H x v Q I rx h;obtain⟨i,rfl,q⟩:=h;obtain⟨t,rfl⟩:=rx;exact rule i t s _ _ ⟨.int (g i),H,I.tok _,⟨_,rfl⟩,q⟩
def zMX:UnR X (unaryOp .USub) (rU λi=>.int (-i)):=unI λ_ _ _ _ _ q=>neg_int q
end
def zRo:V->V->Bool
 | .non,.non=>true | .non,.int _=>true | .int _,.non=>true | .non,.bl _=>true | .bl _,.non=>true | .non,.str _=>true | .str _,.non=>true
 | .int _,.int _=>true | .bl _,.bl _=>true | .str _,.str _=>true | .byt _,.byt _=>true
 | .int _,.str _=>true | .str _,.int _=>true | .bl _,.str _=>true | .str _,.bl _=>true
 | _,_=>false
def rEq:R2:=λx y H Q=>zRo x y=true/\Q (.bl (decide (x=y))) H
def rNe:R2:=λx y H Q=>zRo x y=true/\Q (.bl (!decide (x=y))) H
def zLo {i j:Int}:decide (V.int i=V.int j)=(i == j):=by rw[Bool.eq_iff_iff];simp
def zN0 {i j:Bool}:decide (V.bl i=V.bl j)=(i == j):=by rw[Bool.eq_iff_iff];simp
def zLn {i j:Str}:decide (V.str i=V.str j)=(i == j):=by rw[Bool.eq_iff_iff];simp
def zLp {i j:Array UInt8}:decide (V.byt i=V.byt j)=(i.toList == j.toList):=by rw[Bool.eq_iff_iff];cases i;cases j;simp
section
variable {X:Cx} {a b c:Expr} {ta tb tc:TE} {pos:Pos}
def zA3 {pins:List (Addr × Obj)} {σ:St} {H:Hp} {s:Shared} {Q:VK} {k k':Bool} (I:Inv X pins σ H s) (q:Q (.bl k) H) (e:k=k'):EP X pins σ Q (.bool k') s:=by subst e;exact⟨.bl k,H,I,rfl,q⟩
def zCA:OpR X (compareOp .Eq) rEq:=by
 intro pins s σ H x y v u Q I rx ry h;obtain⟨hs,q⟩:=h;cases x with
 | non=>
  cases rx;cases y with
  | non=>cases ry;exact PySem.EqNone.eq_none_none (zA3 I q (by simp))
  | bl j=>cases ry;exact PySem.EqNone.eq_none_bool (zA3 I q (by simp))
  | int j=>obtain⟨t',rfl⟩:=ry;exact PySem.EqNone.eq_none_int (zA3 I q (by simp))
  | str j=>obtain⟨t',rfl⟩:=ry;exact PySem.EqNone.eq_none_str (zA3 I q (by simp))
  | _=>exact absurd (show false=true from hs) wHf
 | bl i=>
  cases rx;cases y with
  | non=>cases ry;exact PySem.EqNone.eq_bool_none (zA3 I q (by simp))
  | bl j=>cases ry;exact eq_bool (zA3 I q zN0)
  | str j=>obtain⟨t',rfl⟩:=ry;exact PySem.EqMixed.eq_bool_str (zA3 I q (by simp))
  | _=>exact absurd (show false=true from hs) wHf
 | int i=>
  obtain⟨t,rfl⟩:=rx;cases y with
  | non=>cases ry;exact PySem.EqNone.eq_int_none (zA3 I q (by simp))
  | int j=>obtain⟨t',rfl⟩:=ry;exact eq_int (zA3 I q zLo)
  | str j=>obtain⟨t',rfl⟩:=ry;exact PySem.EqMixed.eq_int_str (zA3 I q (by simp))
  | _=>exact absurd (show false=true from hs) wHf
 | str i=>
  obtain⟨t,rfl⟩:=rx;cases y with
  | non=>cases ry;exact PySem.EqNone.eq_str_none (zA3 I q (by simp))
  | bl j=>cases ry;exact PySem.EqMixed.eq_str_bool (zA3 I q (by simp))
  | int j=>obtain⟨t',rfl⟩:=ry;exact PySem.EqMixed.eq_str_int (zA3 I q (by simp))
  | str j=>obtain⟨t',rfl⟩:=ry;exact eq_str (zA3 I q zLn)
  | _=>exact absurd (show false=true from hs) wHf
 | byt i=>
  obtain⟨t,rfl⟩:=rx;cases y with
  | byt j=>obtain⟨t',rfl⟩:=ry;exact W.eq_bytes (zA3 I q zLp)
  | _=>exact absurd (show false=true from hs) wHf
 | _=>cases y<;>exact absurd (show false=true from hs) wHf
def zDH:OpR X (compareOp .NotEq) rNe:=by
 intro pins s σ H x y v u Q I rx ry h;obtain⟨hs,q⟩:=h;cases x with
 | non=>
  cases rx;cases y with
  | non=>cases ry;exact PySem.EqNone.ne_none_none (zA3 I q (by simp))
  | bl j=>cases ry;exact PySem.EqNone.ne_none_bool (zA3 I q (by simp))
  | int j=>obtain⟨t',rfl⟩:=ry;exact PySem.EqNone.ne_none_int (zA3 I q (by simp))
  | str j=>obtain⟨t',rfl⟩:=ry;exact PySem.EqNone.ne_none_str (zA3 I q (by simp))
  | _=>exact absurd (show false=true from hs) wHf
 | bl i=>
  cases rx;cases y with
  | non=>cases ry;exact PySem.EqNone.ne_bool_none (zA3 I q (by simp))
  | bl j=>cases ry;exact ne_bool (zA3 I q (congrArg not zN0))
  | str j=>obtain⟨t',rfl⟩:=ry;exact PySem.EqMixed.ne_bool_str (zA3 I q (by simp))
  | _=>exact absurd (show false=true from hs) wHf
 | int i=>
  obtain⟨t,rfl⟩:=rx;cases y with
  | non=>cases ry;exact PySem.EqNone.ne_int_none (zA3 I q (by simp))
  | int j=>obtain⟨t',rfl⟩:=ry;exact ne_int (zA3 I q (congrArg not zLo))
  | str j=>obtain⟨t',rfl⟩:=ry;exact PySem.EqMixed.ne_int_str (zA3 I q (by simp))
  | _=>exact absurd (show false=true from hs) wHf
 | str i=>
  obtain⟨t,rfl⟩:=rx;cases y with
  | non=>cases ry;exact PySem.EqNone.ne_str_none (zA3 I q (by simp))
  | bl j=>cases ry;exact PySem.EqMixed.ne_str_bool (zA3 I q (by simp))
  | int j=>obtain⟨t',rfl⟩:=ry;exact PySem.EqMixed.ne_str_int (zA3 I q (by simp))
  | str j=>obtain⟨t',rfl⟩:=ry;exact ne_str (zA3 I q (congrArg not zLn))
  | _=>exact absurd (show false=true from hs) wHf
 | byt i=>
  obtain⟨t,rfl⟩:=rx;cases y with
  | byt j=>obtain⟨t',rfl⟩:=ry;exact W.ne_bytes (zA3 I q (congrArg not zLp))
  | _=>exact absurd (show false=true from hs) wHf
 | _=>cases y<;>exact absurd (show false=true from hs) wHf
def zGP:OpR X (compareOp .Lt) (rI0 λi j=>.bl (decide (i < j))):=zQx λ_ _ _ _ _ _ _ q=>lt_int q
def zDb:OpR X (compareOp .LtE) (rI0 λi j=>.bl (decide (i<=j))):=zQx λ_ _ _ _ _ _ _ q=>le_int q
def zMk:OpR X (compareOp .Gt) (rI0 λi j=>.bl (decide (j < i))):=zQx λ_ _ _ _ _ _ _ q=>gt_int q
def zPM:OpR X (compareOp .GtE) (rI0 λi j=>.bl (decide (j<=i))):=zQx λ_ _ _ _ _ _ _ q=>ge_int q
def zK4:OpR X (compareOp .In) (λx y H Q=>∃i j,x=.str i/\y=.str j/\Q (.bl (!(Builtin.Str.occurrences j i 0 j.length 1).isEmpty)) H):=by intro pins s σ H x y v u Q I rx ry h;obtain⟨i,j,rfl,rfl,q⟩:=h;obtain⟨t,rfl⟩:=rx;obtain⟨t',rfl⟩:=ry;exact in_str (zA3 I q rfl)
def zOs:OpR X (compareOp .IsNot) (λx y H Q=>y=.non/\Q (.bl (!decide (x=.non))) H):=by
 intro pins s σ H x y v u Q I rx ry h;obtain⟨rfl,q⟩:=h;cases ry;refine isnot_none_gen (zA3 I q ?_);cases x<;>first
  | (cases rx;rfl)
  | (obtain⟨t,rfl⟩:=rx;rfl)
def zAj (b:Expr) {op:CmpOp} (h:op≠.In:=by decide) (h2:op≠.NotIn:=by decide):behindInMarks op b=false:=by
 have e1:(op == CmpOp.In)=false:=by cases op<;>first | rfl | exact absurd rfl h
 have e2:(op == CmpOp.NotIn)=false:=by cases op<;>first | rfl | exact absurd rfl h2
 cases b<;>simp[behindInMarks,e1,e2]
theorem zCr {op:CmpOp} {r:R2} (ho:OpR X (compareOp op) r) (ha:PE X a ta) (hb:PE X b tb) (hm:behindInMarks op b=false):PE X (.Compare a [op] [b] pos) (tOp r ta tb):=by intro pins s σ H Q I h;exact wpAny_Compare1 (zQZ ha hb I h λv u s2 x y H2 I2 rx ry q=>ho pins s2 σ H2 x y v u Q I2 rx ry q) hm
inductive IsT (Q:Bool->Hp->Prop) (x:V) (H':Hp):Prop
 | mk (k:_):(x=.bl k)->Q k H'->IsT Q x H'
def zPj (t:TE):TT:=λσ H Q=>t σ H λx H'=>IsT Q x H'
def zAc {op:CmpOp} {r:R2} (ho:OpR X (compareOp op) r) (ha:PE X a ta) (hb:PE X b tb) (hm:behindInMarks op b=false):PT X (.Compare a [op] [b] pos) (zPj (tOp r ta tb)):=by
 intro pins s σ H Q I h;refine wpAny_isTrue_Compare1 (thn (ha pins s σ H _ I h) λv s1 ⟨x,H1,I1,r1,q1⟩=>thn (hb pins s1 σ H1 _ I1 q1) λu s2 ⟨y,H2,I2,r2,q2⟩=>
  thn (ho pins s2 σ H2 x y v u _ I2 r1 r2 q2) λc s3 ⟨z,H3,I3,r3,k,e,q3⟩=>?_) hm
 subst e;cases r3;exact wpAny_truthy_bool ⟨H3,I3,q3⟩
def zPm (r r':R2) (ta tb tc:TE):TE:=λσ H Q=>ta σ H λx H1=>tb σ H1 λy H2=>r x y H2 λz H3=>∃k,z=.bl k/\
 (if k=true then tc σ H3 λw' H4=>r' y w' H4 Q else Q (.bl false) H3)
def zDm {op nt:CmpOp} {r r':R2} (ho:OpR X (compareOp op) r) (cN:OpR X (compareOp nt) r') (ha:PE X a ta) (hb:PE X b tb) (hc:PE X c tc)
  (hm:lastMarks [op,nt] [b,c]=false:=by with_unfolding_all rfl):PT X (.Compare a [op,nt] [b,c] pos) (zPj (zPm r r' ta tb tc)):=by
 intro pins s σ H Q I h;refine isTrue_chain (thn (ha pins s σ H _ I h) λv s1 ⟨x,H1,I1,r1,q1⟩=>test_link (thn (hb pins s1 σ H1 _ I1 q1) λu s2 ⟨y,H2,I2,r2,q2⟩=>
  thn (ho pins s2 σ H2 x y v u _ I2 r1 r2 q2) λd s3 ⟨z,H3,I3,r3,k,e,q3⟩=>?_)) hm
 subst e;cases r3;refine wpAny_truthy_bool ?_;cases k with
 | false=>
  obtain⟨k',e',q'⟩:=q3;cases e';exact ite_ff ⟨H3,I3,q'⟩
 | true=>
  refine ite_tt (test_last (thn (hc pins s3 σ H3 _ I3 q3) λw' s4 ⟨z',H4,I4,r4,q4⟩=>thn (cN pins s4 σ H4 y z' u w' _ I4 r2 r4 q4) λd' s5 aA=>?_));obtain⟨z2,H5,I5,r5,k2,e2,q5⟩:=aA;subst e2;cases r5;exact wpAny_truthy_bool ⟨H5,I5,q5⟩
def zRx (K:W.Frag) (x:V) (H:Hp) (k:Bool):Prop:=
 match x with
 | .non=>k=false
 | .bl b=>k=b
 | .int i=>k=(i != 0)
 | .str y=>y.length<=sizeLine/\k=((y.length:Int) != 0)
 | .byt y=>y.size<=sizeLine/\k=((y.size:Int) != 0)
 | .ref p=>(∃xs,SqL K H p xs/\k=!xs.isEmpty)∨(∃xs,SqT K H p xs/\k=!xs.isEmpty)∨∃aG,H p=some (.dK aG)/\k=!aG.isEmpty
 | _=>False
def zJn {κ:Type} {aG:List (κ × V)} {vs:List (κ × Value)} (r:KV aG vs):(!vs.isEmpty)=!aG.isEmpty:=by cases r<;>rfl
def zF8 {xs:List V} {its:List Value} (r:zA7 xs its):(!its.toArray.isEmpty)=!xs.isEmpty:=by cases r<;>simp
def zDW:(sizeLine:Nat) < 2 ^ 63:=by rw[sizeLine_eq];decide
def zPf:zRW X (λx H Q=>∃k,zRx X.K x H k/\Q k H):=by
 intro pins s σ H x v Q I rx h;obtain⟨k,e,q⟩:=h;have hl:=zDW;have hs:sizeLine=16777216:=sizeLine_eq;cases x with
 | non=>
  cases rx;have e':k=false:=e;subst e';exact truthy_none ⟨H,I,q⟩
 | bl b=>
  cases rx;have e':k=b:=e;subst e';exact wpAny_truthy_bool ⟨H,I,q⟩
 | int i=>
  obtain⟨t,rfl⟩:=rx;have e':k=(i != 0):=e;subst e';exact PySem.P.truthy_int ⟨H,I,q⟩
 | str y=>
  obtain⟨t,rfl⟩:=rx;obtain⟨hy,e'⟩:y.length<=sizeLine/\k=((y.length:Int) != 0):=e;subst e';exact PySem.P.truthy_str ∅ ⟨H,I.tok _,q⟩
 | byt y=>
  obtain⟨t,rfl⟩:=rx;obtain⟨hy,e'⟩:y.size<=sizeLine/\k=((y.size:Int) != 0):=e;subst e';exact W.truthy_bytes ∅ ⟨H,I.tok _,q⟩
 | ref p=>
  cases rx;have e':(∃xs,SqL X.K H p xs/\k=!xs.isEmpty)∨(∃xs,SqT X.K H p xs/\k=!xs.isEmpty)∨∃aG,H p=some (.dK aG)/\k=!aG.isEmpty:=e;rcases e' with ⟨xs,hx,e'⟩ | ⟨xs,hx,e'⟩ | ⟨aG,hx,e'⟩
  ·subst e';obtain⟨its,r,pl,hz⟩:=I.list hx;have aF:=r.length;exact wpAny_truthy_list pl.isList (by simp only[wHh];omega) ⟨H,I.tok _,by rw[zF8 r];exact q⟩
  ·subst e';obtain⟨its,r,pl,hz⟩:=I.tuple hx;have aF:=r.length;exact truthy_tuple pl (by simp only[wHh];omega) ⟨H,I.tok _,by rw[zF8 r];exact q⟩
  subst e';obtain⟨hz,hS,vs,r,m⟩:aG.length<=sizeLine/\(p == sysModules)=false/\∃vs,KV aG vs/\s.heap.DictOf (zIi X.prog X.w) p vs:=I.hok p _ hx;have aF:aG.length=vs.length:=Paired.length r;exact wpAny_truthy_dict hS m ∅ ⟨H,I.tok _,by rw[zJn r];exact q⟩
 | _=>exact (show False from e).elim
def zMc (ha:PE X a ta) (he:∀whole,isTrue a X.env whole=(do let v ← whole;standAt a.pos;holding [v] (truthy v))) :
  PT X a (λσ H Q=>ta σ H λx H'=>∃k,zRx X.K x H' k/\Q k H'):=by
 intro pins s σ H Q I h;exact isTrue_plain (thn (ha pins s σ H _ I h) λv s1 ⟨x,H1,I1,r1,q1⟩=>zPf pins s1 σ H1 x v Q I1 r1 q1) (he _)
inductive RAddS (x:V) (y:V) (H:Hp) (Q:VK):Prop
 | mk (i:_) (j:_):(x=.str i)->(y=.str j)->(i.length+j.length<=sizeLine)->(Q (.str (i++j)) H)->RAddS x y H Q
def zDI:OpR X (binaryOp .Add) (λx y H Q=>RAddS x y H Q):=by intro pins s σ H x y v u Q I rx ry h;obtain⟨i,j,rfl,rfl,hz,q⟩:=h;obtain⟨t,rfl⟩:=rx;obtain⟨t',rfl⟩:=ry;exact add_str (λt' tk=>⟨.str (i++j),H,I.tok _,⟨_,rfl⟩,q⟩) hz
def zH6 {x:V} {us:List Value} (r:zA7 [x] us):∃u,us=[u]/\zBl x u:=by
 cases r with
 | cons r1 r2=>cases r2;exact⟨_,rfl,r1⟩
def zLD {x y:V} {us:List Value} (r:zA7 [x,y] us):∃u w',us=[u,w']/\zBl x u/\zBl y w':=by
 cases r with
 | cons r1 r2=>
  cases r2 with
  | cons r3 r4=>cases r4;exact⟨_,_,rfl,r1,r3⟩
inductive RAbs (xs:List V) (H:Hp) (Q:VK):Prop
 | mk (i:_):(xs=[.int i])->(Q (.int (if i < 0 then -i else i)) H)->RAbs xs H Q
def zDv:zB6 X (.builtin "abs") (λxs H Q=>RAbs xs H Q):=by intro pins s σ H xs us Q I r h;obtain⟨i,rfl,q⟩:=h;obtain⟨u,rfl,t,rfl⟩:=zH6 r;exact call_abs_int λu tk=>⟨.int (if i < 0 then -i else i),H,I.tok _,⟨_,rfl⟩,q⟩
inductive RMax2 (xs:List V) (H:Hp) (Q:VK):Prop
 | mk (i:_) (j:_):(xs=[.int i,.int j])->(Q (.int (if j > i then j else i)) H)->RMax2 xs H Q
def zHp (hc:X.calm=true):zB6 X (.builtin "max") (λxs H Q=>RMax2 xs H Q):=by
 intro pins s σ H xs us Q I r h;obtain⟨i,j,rfl,q⟩:=h;obtain⟨u,w',rfl,⟨t,rfl⟩,⟨t',rfl⟩⟩:=zLD r;refine max_two_ints (I.ok.hd hc) λh' tk k=>⟨_,H,I.kept k,?_,q⟩;by_cases hj:j > i
 ·rw[wG1 hj,wG1 hj];exact⟨_,rfl⟩
 rw[wGZ hj,wGZ hj];exact⟨_,rfl⟩
inductive RMin2 (xs:List V) (H:Hp) (Q:VK):Prop
 | mk (i:_) (j:_):(xs=[.int i,.int j])->(Q (.int (if j < i then j else i)) H)->RMin2 xs H Q
def zHo (hc:X.calm=true):zB6 X (.builtin "min") (λxs H Q=>RMin2 xs H Q):=by
 intro pins s σ H xs us Q I r h;obtain⟨i,j,rfl,q⟩:=h;obtain⟨u,w',rfl,⟨t,rfl⟩,⟨t',rfl⟩⟩:=zLD r;refine min_two_ints (I.ok.hd hc) λh' tk k=>⟨_,H,I.kept k,?_,q⟩;by_cases hj:j < i
 ·rw[wG1 hj,wG1 hj];exact⟨_,rfl⟩
 rw[wGZ hj,wGZ hj];exact⟨_,rfl⟩
def zHt:zB6 X (.type "int") (λxs H Q=>(∃i,xs=[.int i]/\Q (.int i) H)∨∃k,xs=[.bl k]/\Q (.int (if k then 1 else 0)) H):=by
 intro pins s σ H xs us Q I r h;rcases h with ⟨i,rfl,q⟩ | ⟨k,rfl,q⟩
 ·obtain⟨u,rfl,t,rfl⟩:=zH6 r;exact call_int_int ⟨.int i,H,I,⟨_,rfl⟩,q⟩
 obtain⟨u,rfl,r1⟩:=zH6 r;cases r1;exact call_int_bool ⟨.int (if k then 1 else 0),H,I.tok _,⟨_,rfl⟩,q⟩
inductive RStrI (xs:List V) (H:Hp) (Q:VK):Prop
 | mk (i:_):(xs=[.int i])->(i.natAbs.log2 < 1920)->(Q (.str (toString i)) H)->RStrI xs H Q
def zHn:zB6 X (.type "str") (λxs H Q=>RStrI xs H Q):=by intro pins s σ H xs us Q I r h;obtain⟨i,rfl,hz,q⟩:=h;obtain⟨u,rfl,t,rfl⟩:=zH6 r;exact PySem.P.str_of_int hz ⟨.str _,H,I.tok _,⟨_,rfl⟩,q⟩
end
structure ObjM (h:Heap) (x dx C:Addr) (mA:Str->Option Value):Prop where
 obj:h.get? x=some (W.instObj C dx)
 ns:h.Ns1 dx mA
 ne:dx≠x
def zHa {h:Heap} {dx:Addr} {mA:Str->Option Value} (n:h.Ns1 dx mA):∃od,h.get? dx=some od/\∀name,W.lookIn name od=some (mA name):=by
 obtain⟨o,es,ep,ho,hd,hk,_,hm⟩:=n;refine⟨o,ho,λname=>?_⟩;have e:=hm name;unfold nsFind findBy at e;rw[← Array.find?_toList] at e;unfold W.lookIn;rw[hd];dsimp only
 split
 ·rename_i y q
  rw[q] at e;exact congrArg some e
 rename_i q
 rw[q] at e;have a:es.toList.any (·.refKey)=false:=by rw[List.any_eq_false];intro y hy;obtain⟨z,t,oy⟩:=hk y (Array.mem_toList_iff.mp hy);simp[DictEntry.refKey,oy]
 have a':¬es.toList.any (·.refKey)=true:=by rw[a];exact wHf
 rw[wGZ a'];exact congrArg some e
def ObjM.look {h:Heap} {x dx C:Addr} {mA:Str->Option Value} (I:ObjM h x dx C mA):∃od,W.InstAt h x (W.instObj C dx) C (some od)/\∀name,W.lookIn name od=some (mA name):=
 let ⟨od,ho,hl⟩:=zHa I.ns
 ⟨od,⟨I.obj,rfl,rfl,ho⟩,hl⟩
section
variable {prog:Program} {w:World} {A:Around} {E:Value->Shared->Prop} {s:Shared} {K:W.Frag} {x dx C f:Addr} {mA:Str->Option Value} {name:Str} {v:Value}
def zOB {expr:Bool} {Q:Value->Shared->Prop} (X:K.In s.heap) (I:ObjM s.heap x dx C mA) (hg:W.plainGet K C name=true) (hh:W.hasDictIn K C=true)
  (ha:W.findIn K (.ref C) name=some none) (hv:mA name=some v) (fD:W.handedIn v=true) (h:Q v { s with toks:=s.toks+1 }) :
  wpAny (model prog w) A (getAttr (.ref x) name expr) Q E s:=by
 obtain⟨od,J,hl⟩:=I.look;exact W.get_value X J (W.plainGet_of hg).1 (W.findObj_own hh ha rfl (by rw[hl,hv])) fD h
def zMD {pl:Sem Bool} {Q:Value × List Value->Shared->Prop} (X:K.In s.heap) (I:ObjM s.heap x dx C mA) (hg:W.plainGet K C name=true)
  (hf:W.findIn K (.ref C) name=some (some (.ref f))) (ht:W.isFn K (.ref f)=true) (hv:mA name=none) (h:Q (.ref f,[.ref x]) s) :
  wpAny (model prog w) A (getMethod (.ref x) name pl) Q E s:=by
 obtain⟨od,J,hl⟩:=I.look;exact W.method_fn X J (W.plainGet_of hg).1 (W.plainGet_of hg).2 hf (beq_iff_eq.mp ht) (by show (W.lookIn name od).map (·.isSome)=some false;rw[hl,hv];rfl) h
def zNS {ns:List Str} {Q:Unit->Shared->Prop} (X:K.In s.heap) (I:ObjM s.heap x dx C mA)
  (hs:W.findIn K (.ref C) "__setattr__"=some (some (.builtin "object.__setattr__"))) (hp:W.plainOver K C=true) (ht:W.takerIn K C name=some none) (hh:W.hasDictIn K C=true)
  (hw:PySem.Within mA ns) (eN:ns.length<=sizeLine)
  (h:∀h',ObjM h' x dx C (λy=>if y=name then some v else mA y)->Heap.SameBut dx s.heap h'->Q PUnit.unit { s with heap:=h',toks:=s.toks+2 }) :
  wpAny (model prog w) A (setAttr (.ref x) name v) Q E s:=by
 obtain⟨od,J,hl⟩:=I.look;refine W.set_plain X J hs (W.osa_open (s:={ s with toks:=s.toks+1 }) (r:=none) X J hp ht λb=>?_);obtain⟨cd,hc,bY⟩:=W.any_some hh;have hx:s.heap.get? x=some ⟨.ref C,some dx,.plain,#[]⟩:=I.obj;refine wGY (wG2 (wGY (wGY (wpAny_loadPart hx (wGY (PySem.W.Looks.here (s:={ s with toks:=s.toks+1 }) (W.looks_clsIn X hc) ?_))))));rw[bY];refine wG2 (a:=some dx) (wGY (wG2 (wGY ?_)));refine wpAny_nsSet1 (s:={ s with toks:=s.toks+1 }) I.ns λh' kS jx=>?_;obtain⟨oD,esD,epD,jC,jM,jO⟩:=kS.count (PySem.Within.cons name v hw);refine wGY (wpAny_lookBehind jC (by rw[jM];exact pastItsLine_dict (wHe jO (by rw[wHZ];omega))) ?_);exact wG2 (h _ ⟨(jx.2 _ (Ne.symm I.ne)).trans I.obj,kS,I.ne⟩ jx)
def zM3 {R:Result->Shared->Prop} {vs:List Value} {kw:List (Str × Value)} (X:K.In s.heap) (hm:W.makesIn K C=true)
  (hi:W.findIn K (.ref C) "__init__"=some (some (.ref f))) (hf:W.typeIn K (.ref f)=some (.type "function"))
  (h:codeAny (model prog w) (A.under (.builtin "type.__call__" ⟨.ref C::vs,kw⟩)) (.call (.ref f) ⟨.ref (s.heap.objs.size+1)::vs,kw⟩) (W.InitBack (s.heap.objs.size+1) R)
   { s with heap:=(s.heap.push W.emptyDict).push (W.instObj C s.heap.objs.size) }) :
  codeAny (model prog w) A (.call (.ref C) ⟨vs,kw⟩) R s:=by
 obtain⟨hh,g,d,t,os⟩:=s;exact W.make_core (W.makes_of X hm) (W.looks_findIn X hi) (λself=>W.bind_fn X self hf) (.inl rfl) h
end
def zH4 (f:Str) (v:V):List (Str × V)->List (Str × V)
 | []=>[(f,v)]
 | (g,x)::r=>if g=f then (g,v)::r else (g,x)::zH4 f v r
theorem zEO (f g:Str) (v:V):∀fs:List (Str × V),(zH4 f v fs).lookup g=if g=f then some v else fs.lookup g
 | []=>by
  show List.lookup g [(f,v)]=_;by_cases h:g=f
  ·have hb:(g == f)=true:=beq_iff_eq.mpr h;simp only[List.lookup,hb,wG1 h]
  have hb:(g == f)=false:=beq_eq_false_iff_ne.mpr h;simp only[List.lookup,hb,wGZ h]
 | (k,x)::r=>by
  have ih:=zEO f g v r;rw[show zH4 f v ((k,x)::r)=(if k=f then (k,v)::r else (k,x)::zH4 f v r) from rfl];by_cases hk:k=f
  ·rw[wG1 hk];by_cases h:g=k
   ·have hb:(g == k)=true:=beq_iff_eq.mpr h;simp only[List.lookup,hb,wG1 (h.trans hk)]
   have hb:(g == k)=false:=beq_eq_false_iff_ne.mpr h;simp only[List.lookup,hb,wGZ (λe:g=f=>h (e.trans hk.symm))]
  rw[wGZ hk];by_cases h:g=k
  ·have hb:(g == k)=true:=beq_iff_eq.mpr h;simp only[List.lookup,hb,wGZ (λe:g=f=>hk (h.symm.trans e))]
  have hb:(g == k)=false:=beq_eq_false_iff_ne.mpr h;simp only[List.lookup,hb];exact ih
theorem zES (f:Str) (v:V):∀fs:List (Str × V),f∈(zH4 f v fs).map (·.1)/\∀g,g∈fs.map (·.1)->g∈(zH4 f v fs).map (·.1)
 | []=>⟨by simp[zH4],λg h=>by simp at h⟩
 | (k,x)::r=>by
  obtain⟨i1,i2⟩:=zES f v r;rw[show zH4 f v ((k,x)::r)=(if k=f then (k,v)::r else (k,x)::zH4 f v r) from rfl];by_cases hk:k=f
  ·rw[wG1 hk];subst hk;exact⟨by simp,λg h=>by simpa using h⟩
  rw[wGZ hk];refine⟨?_,λg h=>?_⟩
  ·rw[wHW];exact wHR _ i1
  rw[wHW] at h ⊢;rcases wIn h with e | e
  ·exact List.mem_cons.mpr (.inl e)
  exact wHR _ (i2 g e)
theorem zEQ (f:Str) (v:V):∀fs:List (Str × V),(zH4 f v fs).length<=fs.length+1
 | []=>by simp[zH4]
 | (k,x)::r=>by
  have ih:=zEQ f v r;rw[show zH4 f v ((k,x)::r)=(if k=f then (k,v)::r else (k,x)::zH4 f v r) from rfl];by_cases hk:k=f
  ·rw[wG1 hk,wHZ,wHZ];omega
  rw[wGZ hk,wHZ,wHZ];omega
def zH1.some_of {v:V} {o:Option Value} (r:zH1 (some v) o):∃u,o=some u/\zBl v u:=by
 cases o with
 | none=>exact (show False from r).elim
 | some u=>exact⟨u,rfl,r⟩
def zH1.none_of {o:Option Value} (r:zH1 none o):o=none:=by
 cases o with
 | none=>rfl
 | some u=>exact (show False from r).elim
def zHh {v:V} {u:Value} (r:zBl v u):W.handedIn u=true:=by
 cases v with
 | non=>cases (show u=Value.none from r);rfl
 | bl b=>cases (show u=Value.bool b from r);rfl
 | int i=>obtain⟨t,e⟩:=(show ∃t,u=Value.int i t from r);cases e;rfl
 | str x=>obtain⟨t,e⟩:=(show ∃t,u=Value.str x t from r);cases e;rfl
 | byt b=>obtain⟨t,e⟩:=(show ∃t,u=Value.bytes b t from r);cases e;rfl
 | flt b=>obtain⟨t,e⟩:=(show ∃t,u=Value.float b t from r);cases e;rfl
 | ref a=>cases (show u=Value.ref a from r);rfl
 | ty n=>cases (show u=Value.type n from r);rfl
section
variable {P:Program} {w:World} {H:Hp} {h:Heap} {a C dx:Addr} {fs:List (Str × V)}
def zGh (hok:HOk P w H h) (e:H a=some (.ins C dx fs)):∃mA,ObjM h a dx C mA/\(∀f,zH1 (fs.lookup f) (mA f))/\PySem.Within mA (fs.map (·.1))/\fs.length<=1000/\H dx=some (.own a):=by obtain⟨d,z,ne,ob,mA,n,r,q⟩:=(show ObjOk P w H h a (.ins C dx fs) from hok a _ e);exact⟨mA,⟨ob,n,ne⟩,r,q,z,d⟩
end
structure Cls (K:W.Frag) (C:Addr):Prop where
 pg:W.plainGet K C Str.empty=true
 hd:W.hasDictIn K C=true
 po:W.plainOver K C=true
 sa:W.findIn K (.ref C) "__setattr__"=some (some (.builtin "object.__setattr__"))
def Cls.get {K:W.Frag} {C:Addr} (c:Cls K C) (f:Str):W.plainGet K C f=true:=c.pg
def zFe (K:W.Frag) (C:Addr) (f:Str):Prop:=W.findIn K (.ref C) f=some none
def zFe.taker {K:W.Frag} {C:Addr} {f:Str} (n:zFe K C f):W.takerIn K C f=some none:=by
 unfold W.takerIn;rw[show W.findIn K (.ref C) f=some none from n]
 rfl
structure Meth (K:W.Frag) (C:Addr) (m:Str) (f:Addr):Prop where
 at_:W.findIn K (.ref C) m=some (some (.ref f))
 fn:W.isFn K (.ref f)=true
 kp:W.keepIn K (.ref f)=true
section
variable {X:Cx} {pins:List (Addr × Obj)} {σ:St} {H:Hp} {s:Shared} {a C dx:Addr} {fs:List (Str × V)} {f:Str} {v:V} {A:Around} {E:Value->Shared->Prop}
def zJq {b:Bool} {Q:Value->Shared->Prop} (I:Inv X pins σ H s) (e:H a=some (.ins C dx fs)) (c:Cls X.K C) (n:zFe X.K C f) (l:fs.lookup f=some v)
  (h:∀u s',Inv X pins σ H s'->zBl v u->Q u s'):wpAny (model X.prog X.w) A (getAttr (.ref a) f b) Q E s:=by
 obtain⟨mA,O,r,_,_,_⟩:=zGh I.hok e;obtain⟨u,hu,ru⟩:=zH1.some_of (v:=v) (o:=mA f) (by rw[← l];exact r f);exact zOB I.kIn O (c.get f) c.hd n hu (zHh ru) (h u _ (I.tok _) ru)
def zFA {m:Str} {g:Addr} {pl:Sem Bool} {Q:Value × List Value->Shared->Prop} (I:Inv X pins σ H s) (e:H a=some (.ins C dx fs)) (c:Cls X.K C) (k:Meth X.K C m g) (l:fs.lookup m=none)
  (h:Q (.ref g,[.ref a]) s):wpAny (model X.prog X.w) A (getMethod (.ref a) m pl) Q E s:=by
 obtain⟨mA,O,r,_,_,_⟩:=zGh I.hok e;have hn:mA m=none:=zH1.none_of (by rw[← l];exact r m);exact zMD I.kIn O (c.get m) k.at_ k.fn hn h
def zIW {y:V} {u:Value} {Q:Unit->Shared->Prop} (I:Inv X pins σ H s) (e:H a=some (.ins C dx fs)) (c:Cls X.K C) (n:zFe X.K C f) (hl:fs.length < 1000) (ry:zBl y u)
  (h:∀s',Inv X pins σ (upd H a (.ins C dx (zH4 f y fs))) s'->Q PUnit.unit s'):wpAny (model X.prog X.w) A (setAttr (.ref a) f u) Q E s:=by
 obtain⟨mA,O,r,wi,_,ho⟩:=zGh I.hok e;have hz:(fs.map (·.1)).length<=sizeLine:=by rw[wGX,sizeLine_eq];omega
 refine zNS I.kIn O c.sa c.po n.taker c.hd wi hz λh' O' sb=>h _ ?_;have hd:∃o,h'.get? dx=some o:=let ⟨o,_,_,e',_⟩:=O'.ns;⟨o,e'⟩;refine I.write (x:=a) (e:=dx) (by rw[e];exact True.intro) (.inr ho) (λb q hb z=>(sb.2 b hb).trans z) hd ?_;refine⟨by rw[zO O.ne];exact ho,?_,O.ne,O'.obj,_,O'.ns,λg=>?_,λg hg=>?_⟩
 ·have:=zEQ f y fs;omega
 ·show zH1 ((zH4 f y fs).lookup g) (if g=f then some u else mA g);rw[zEO];by_cases q:g=f
  ·rw[wG1 q,wG1 q];exact ry
  rw[wGZ q,wGZ q];exact r g
 by_cases q:g=f
 ·rw[q];exact (zES f y fs).1
 refine (zES f y fs).2 g (wi g λz=>hg ?_);show (if g=f then some u else mA g)=none;rw[wGZ q];exact z
def Inv.made (I:Inv X pins σ H s):Inv X pins σ (upd (upd H s.heap.objs.size (.own (s.heap.objs.size+1))) (s.heap.objs.size+1) (.ins C s.heap.objs.size []))
  { s with heap:=(s.heap.push W.emptyDict).push (W.instObj C s.heap.objs.size) }:=by
 have e1:(s.heap.push W.emptyDict).get? s.heap.objs.size=some W.emptyDict:=wHb s.heap rfl;have e2:((s.heap.push W.emptyDict).push (W.instObj C s.heap.objs.size)).get? (s.heap.objs.size+1)=some (W.instObj C s.heap.objs.size):=by
  have:=wHb (s.heap.push W.emptyDict) (o:=W.instObj C s.heap.objs.size) rfl
  rwa [wHT] at this
 have e3:(s.heap.push W.emptyDict).Ns s.heap.objs.size (λ_=>none):=⟨W.emptyDict,#[],_,e1,rfl,(λe he=>absurd he (by simp)),λ_=>rfl⟩;have I1:=I.laid (a:=s.heap.objs.size) (o:=.own (s.heap.objs.size+1)) (h':=s.heap.push W.emptyDict) (t':=s.toks) (λb u q=>wG3 _ q) (wG5 _) ⟨_,e1⟩;refine I1.laid (a:=s.heap.objs.size+1) (o:=.ins C s.heap.objs.size []) (t':=s.toks) (λb u q=>wG3 _ q) (wIf (wHT _ _)) ?_;have ne:s.heap.objs.size≠s.heap.objs.size+1:=wHg (wHY _);refine⟨by rw[zO ne,zB],wHK _,ne,e2,λ_=>none,(Heap.Ns1.of_empty e3).at λo q=>wG3 _ q,λ_=>True.intro,λy hy=>absurd rfl hy⟩
def zL2 {prog:Program} {w:World} {env:Env} {e:Expr} {f:Str} {pos:Pos} {s:Shared} {Q:Value->Shared->Prop} (hb:attributeBase e f env (eval e env)=eval e env)
  (h:wpAny (model prog w) A (eval e env) (λo s₁=>wpAny (model prog w) A (getAttr o f true) Q E s₁) E s):wpAny (model prog w) A (eval (.Attribute e f pos) env) Q E s:=
 Attribute_any_ h (by rw[arm_eval_Attribute,hb])
end
def zR9 (K:W.Frag) (ta:TE) (f:Str):TE:=λσ H Q=>ta σ H λx H1=>∃a C dx fs v,x=.ref a/\H1 a=some (.ins C dx fs)/\Cls K C/\zFe K C f/\fs.lookup f=some v/\Q v H1
def zRD (K:W.Frag) (ta tv:TE) (f:Str):TS:=λD σ H=>tv σ H λy H1=>ta σ H1 λx H2=>∃a C dx fs,x=.ref a/\H2 a=some (.ins C dx fs)/\Cls K C/\zFe K C f/\fs.length < 1000/\
 D.nx σ (upd H2 a (.ins C dx (zH4 f y fs)))
section
variable {X:Cx} {o e value:Expr} {f:Str} {pos pos':Pos} {ta tv:TE}
def zGJ (he:PE X e ta) (hb:attributeBase e f X.env (eval e X.env)=eval e X.env):PE X (.Attribute e f pos) (zR9 X.K ta f):=by intro pins s σ H Q I h;refine zL2 hb (thn (he pins s σ H _ I h) λu s1 aA=>?_);obtain⟨x,H1,I1,rx,a,C,dx,fs,v,ex,ea,c,n,l,q⟩:=aA;subst ex;obtain rfl:u=Value.ref a:=rx;exact zJq I1 ea c n l λu' s2 I2 ru=>⟨v,H1,I2,ru,q⟩
def zP6 (ha:PE X o ta) (hv:PE X value tv) (hs:swapsWith value (some (.Attribute o f pos')) pos.line X.env=pure false):PS X (.Assign [.Attribute o f pos'] value pos) (zRD X.K ta tv f):=by intro pins s σ H D I h;refine plainObj_wpAny_Assign_Attribute (thn (hv pins s σ H _ I h) λu s1 ⟨y,H1,I1,ry,q⟩=>thn (ha pins s1 σ H1 _ I1 q) λov s2 ⟨x,H2,I2,rx,a,C,dx,fs,ex,ea,c,n,l,q2⟩=>?_) hs;subst ex;obtain rfl:ov=Value.ref a:=rx;exact zIW I2 ea c n l ry λs3 I3=>⟨σ,_,I3,q2⟩
end
section
variable {X:Cx} {pins:List (Addr × Obj)} {σ:St} {H:Hp} {s:Shared} {A:Around} {E:Value->Shared->Prop} {Q:Value->Shared->Prop} {c:Value} {b:Bool}
inductive TyOf (K:W.Frag) (H:Hp):V->Value->Prop where
 | non:TyOf K H .non (.type "NoneType")
 | bl (x:Bool):TyOf K H (.bl x) (.type "bool")
 | int (i:Int):TyOf K H (.int i) (.type "int")
 | str (x:Str):TyOf K H (.str x) (.type "str")
 | flt (x:UInt64):TyOf K H (.flt x) (.type "float")
 | lst {a:Addr} {xs:List V} (e:H a=some (.lst xs)):TyOf K H (.ref a) (.type "list")
 | frz {a:Addr} {o:Obj} {xs:List V} (e:H a=some (.frz o (.lst xs))):TyOf K H (.ref a) (.type "list")
 | tup {a:Addr} {xs:List V} (e:H a=some (.tup xs)):TyOf K H (.ref a) (.type "tuple")
 | dK {a:Addr} {aG:List (Key × V)} (e:H a=some (.dK aG)):TyOf K H (.ref a) (.type "dict")
 | dT {a:Addr} {aG:List (List Key × V)} (e:H a=some (.dT aG)):TyOf K H (.ref a) (.type "dict")
 | ins {a C dx:Addr} {fs:List (Str × V)} (e:H a=some (.ins C dx fs)) (cl:Cls K C) (ha:W.findIn K (.ref C) "__class__"=some (some (.builtin "object.__class__")))
   (hn:W.specialIn K (.builtin "object.__class__") "__get__"=some (some (.builtin "getset_descriptor.__get__"))) (htk:W.takesIn K (.builtin "object.__class__")=some true)
   (hm:W.mroIn K C (.type "object")=some true):TyOf K H (.ref a) (.ref C)
def zKW {x:V} {u t:Value} (I:Inv X pins σ H s) (rx:zBl x u) (ty:TyOf X.K H x t) (e:W.kitOne X.K t c=some b) (h:∀tk,Q (.bool b) { s with toks:=tk }) :
  wpAny (model X.prog X.w) A (call (.builtin "isinstance") [u,c]) Q E s:=by
 cases ty with
 | non=>cases (show u=Value.none from rx);exact W.kia_one W.kitx_none I.kIn True.intro e (λz=>nomatch z) h
 | bl y=>cases (show u=Value.bool y from rx);exact W.kia_one W.kitx_bool I.kIn True.intro e (λz=>nomatch z) h
 | int i=>obtain⟨t,q⟩:=(show ∃t,u=Value.int i t from rx);cases q;exact W.kia_one W.kitx_int I.kIn True.intro e (λz=>nomatch z) h
 | str y=>obtain⟨t,q⟩:=(show ∃t,u=Value.str y t from rx);cases q;exact W.kia_one W.kitx_str I.kIn True.intro e (λz=>nomatch z) h
 | flt y=>obtain⟨t,q⟩:=(show ∃t,u=Value.float y t from rx);cases q;exact W.kia_one W.kitx_float I.kIn True.intro e (λz=>nomatch z) h
 | @lst a xs ea=>
  cases (show u=Value.ref a from rx);obtain⟨_,_,n,_,h1⟩:=(show ObjOk X.prog X.w H s.heap a (.lst xs) from I.hok a _ ea);exact W.kia_one W.kitx_list I.kIn ⟨_,h1,rfl⟩ e (λz=>nomatch z) h
 | @frz a ob xs ea=>
  cases (show u=Value.ref a from rx);obtain⟨_,_,_,n,_,h1⟩:=(show ObjOk X.prog X.w H s.heap a (.frz ob (.lst xs)) from I.hok a _ ea);exact W.kia_one W.kitx_list I.kIn ⟨_,h1,rfl⟩ e (λz=>nomatch z) h
 | @tup a xs ea=>
  cases (show u=Value.ref a from rx);obtain⟨_,_,_,p⟩:=(show ObjOk X.prog X.w H s.heap a (.tup xs) from I.hok a _ ea);obtain⟨o,h1,h2,_⟩:=p;exact W.kia_one W.kitx_tuple I.kIn ⟨o,h1,h2⟩ e (λz=>nomatch z) h
 | @dK a aG ea=>
  cases (show u=Value.ref a from rx);obtain⟨_,_,vs,_,p⟩:=(show ObjOk X.prog X.w H s.heap a (.dK aG) from I.hok a _ ea);obtain⟨o,es,ep,h1,h2,_⟩:=p;exact W.kia_one W.kitx_dict I.kIn ⟨o,h1,h2.1⟩ e (λz=>nomatch z) h
 | @dT a aG ea=>
  cases (show u=Value.ref a from rx);obtain⟨_,_,xs,_,o,es,ep,h1,h2,_⟩:=(show ObjOk X.prog X.w H s.heap a (.dT aG) from I.hok a _ ea);exact W.kia_one W.kitx_dict I.kIn ⟨o,h1,h2.1⟩ e (λz=>nomatch z) h
 | @ins a C dx fs ea cl ha hn htk hm=>
  cases (show u=Value.ref a from rx);obtain⟨mA,O,_⟩:=zGh I.hok ea;obtain⟨od,J,_⟩:=O.look;exact W.kia_one (W.kitx_own (cl.get _) cl.hd ha hn htk hm) I.kIn J e (λz=>nomatch z) h
end
structure Room (k:Nat) (A:Around):Prop where
 hd:A.handled=none
 dp:A.depth+3*k+5 < recursionLimit
 un:A.units+16*k+200 < cLine
def Room.mono {j k:Nat} {A:Around} (r:Room k A) (h:j<=k):Room j A:=⟨r.hd,by have:=r.dp;omega,by have:=r.un;omega⟩
def Room.deeper {k:Nat} {A:Around} (r:Room (k+1) A) (env:Env):Room k (A.deeper env):=
 ⟨r.hd,by have:=r.dp;show A.depth+1+3*k+5 < _;omega,by have:=r.un;show A.units+3+16*k+200 < _;omega⟩
def Room.in1 {k:Nat} {A:Around} (r:Room (k+1) A):Room k A.in1:=
 ⟨r.hd,by have:=r.dp;show A.depth+3*k+5 < _;omega,by have:=r.un;show A.units+1+16*k+200 < _;omega⟩
def zJm {A:Around} {C:Addr} {us:List Value} {kw:List (Str × Value)}:(A.under (.builtin "type.__call__" ⟨.ref C::us,kw⟩)).depth=A.depth+1:=by first | rfl | simp[Around.under,Code.weight,Code.isCreation,Code.isGuard,Code.isCaller,Code.frames,Code.isFrame,guardIds]
theorem zJl {A:Around} {C:Addr} {us:List Value} {kw:List (Str × Value)}:(A.under (.builtin "type.__call__" ⟨.ref C::us,kw⟩)).units=A.units+1:=by first | rfl | simp[Around.under,Code.cUnits,Code.frames,Code.isFrame]
theorem Room.make {k:Nat} {A:Around} (r:Room (k+1) A) (C:Addr) (us:List Value) (kw:List (Str × Value)):Room k (A.under (.builtin "type.__call__" ⟨.ref C::us,kw⟩)):=
 ⟨r.hd,by have:=r.dp;rw[zJm];omega,by have:=r.un;rw[zJl];omega⟩
def Room.depth {k:Nat} {A:Around} (r:Room k A):A.depth < recursionLimit:=by have:=r.dp;omega
def Room.units {k:Nat} {A:Around} (r:Room k A):A.units+64 < cLine:=by have:=r.un;omega
def zJJ:TA:=λ_ H Q=>Q [] H
def zA0 (ta:TE) (tr:TA):TA:=λσ H Q=>ta σ H λx H1=>tr σ H1 λxs H2=>Q (x::xs) H2
section
variable {X:Cx} {e:Expr} {es:List Expr} {te:TE} {t:TA} {pos:Pos}
def zE:PA X [] zJJ:=λ_ _ _ _ H Q I h=>Calls.spliced_nil ⟨[],H,I,.nil,h⟩
def zI (ha:PE X e te) (hr:PA X es t) (hs:starEach (e::es) X.env=(false,eval e X.env)::starEach es X.env:=by rfl):PA X (e::es) (zA0 te t):=by intro pos pins s σ H Q I h;rw[hs];show wpAny _ _ (spliced ((false,eval e X.env)::backTo pos (starEach es X.env))) _ _ s;refine Calls.spliced_cons (thn (ha pins s σ H _ I h) λu s1 aA=>?_);obtain⟨x,H1,I1,r1,q1⟩:=aA;exact thn (hr pos pins s1 σ H1 _ I1 q1) λus s2 ⟨xs,H2,I2,r2,q2⟩=>⟨x::xs,H2,I2,.cons r1 r2,q2⟩
def zR4 (t:TA):TE:=λσ H Q=>t σ H λxs H1=>xs.length<=sizeLine/\∀p,H1 p=none->Q (.ref p) (upd H1 p (.tup xs))
def zPl (t:TA):TE:=λσ H Q=>t σ H λxs H1=>xs.length<=sizeLine/\∀p,H1 p=none->Q (.ref p) (upd H1 p (.lst xs))
def zAR {x1} (h:PA X es t):PE X (.Tuple es x1 pos) (zR4 t):=by intro pins s σ H Q I hq;refine wpAny_Tuple_spliced (thn (h pos pins s σ H _ I hq) λus s1 ⟨xs,H1,I1,r,z,q⟩=>⟨by rw[← r.length];exact z,?_⟩);have hf:H1 s1.heap.objs.size=none:=I1.hok.fresh (wG5 _);refine⟨.ref s1.heap.objs.size,upd H1 s1.heap.objs.size (.tup xs),I1.laid (t':=s1.toks) (λb u e=>wG3 _ e) (wG5 _) ?_,rfl,q _ hf⟩;exact⟨z,us,r,⟨_,wHb _ rfl,rfl,_,rfl⟩⟩
def zAk (h:PA X es t):PE X (.List es pos) (zPl t):=by intro pins s σ H Q I hq;refine wpAny_List_spliced (thn (h pos pins s σ H _ I hq) λus s1 ⟨xs,H1,I1,r,z,q⟩=>⟨by rw[← r.length];exact z,?_⟩);have hf:H1 s1.heap.objs.size=none:=I1.hok.fresh (wG5 _);refine⟨.ref s1.heap.objs.size,upd H1 s1.heap.objs.size (.lst xs),I1.laid (t':=s1.toks) (λb u e=>wG3 _ e) (wG5 _) ?_,rfl,q _ hf⟩;exact⟨z,us,0,r,wHb _ rfl⟩
end
abbrev Sp:=List V->Hp->VK->XK->Prop
abbrev CXT:=List Env->Hp->Shared->XK->Value->Shared->Prop
structure Env0 (P:Program) (w:World) (K:W.Frag) (mg:Str->Option Value) (base:Heap) (A:Around) (outer:List Env) (s:Shared) (H:Hp):Prop where
 frames:A.frames=some outer
 mod:Mod K mg base
 bs:∀b o,base.get? b=some o->s.heap.get? b=some o/\H b=none
 bsz:base.objs.size<=s.heap.objs.size
 funs:s.heap.FunFrames base outer
 frf:∀b∈frs outer,H b=none
 hok:HOk P w H s.heap
 bare:AllBare s.gens
def CE (outer:List Env) (P:Program) (w:World) (H:Hp) (s:Shared) (Q:VK) (u:Value) (s':Shared):Prop:=
 ∃v H',s'.os=s.os/\AllBare s'.gens/\Un (frs outer) [] H H' s.heap s'.heap/\HOk P w H' s'.heap/\zBl v u/\Q v H'
def CR (CX:CXT) (outer:List Env) (P:Program) (w:World) (H:Hp) (s:Shared) (Q:VK) (E:XK) (r:Result) (s':Shared):Prop:=
 match r with
 | .ok (.ret u)=>CE outer P w H s Q u s'
 | .ok _=>False
 | .error e=>CX outer H s E e s'
structure FnOk (P:Program) (w:World) (K:W.Frag) (mg:Str->Option Value) (base:Heap) (CX:CXT) (k:Nat) (f:Addr) (fd:FuncData) (ps:List Str) (sp:Sp):Prop where
 len:∀vs H Q E,sp vs H Q E->vs.length=ps.length
 run:∀(A:Around) (outer:List Env) (s:Shared) (H:Hp) (args:Args) (us:List Value) (vs:List V) (Q:VK) (E:XK),Room k A->Env0 P w K mg base A outer s H->BindsTo s fd args (ps.zip us)->zA7 vs us->sp vs H Q E->
  codeAny (model P w) A (.call (.ref f) args) (CR CX outer P w H s Q E) s
def FnOk.mono {P:Program} {w:World} {K:W.Frag} {mg:Str->Option Value} {base:Heap} {CX:CXT} {j k:Nat} {f:Addr} {fd:FuncData} {ps:List Str} {sp:Sp} (F:FnOk P w K mg base CX j f fd ps sp) (h:j<=k) :
  FnOk P w K mg base CX k f fd ps sp:=⟨F.len,λA outer s H args us vs Q E hr=>F.run A outer s H args us vs Q E (hr.mono h)⟩
def FnOk.imp {P:Program} {w:World} {K:W.Frag} {mg:Str->Option Value} {base:Heap} {CX:CXT} {k:Nat} {f:Addr} {fd:FuncData} {ps:List Str} {sp sp':Sp} (F:FnOk P w K mg base CX k f fd ps sp)
  (h:∀vs H Q E,sp' vs H Q E->sp vs H Q E):FnOk P w K mg base CX k f fd ps sp':=
 ⟨λvs H Q E q=>F.len vs H Q E (h _ _ _ _ q),λA outer s H args us vs Q E hr he hb hv hs=>F.run A outer s H args us vs Q E hr he hb hv (h _ _ _ _ hs)⟩
def Env0.make {P:Program} {w:World} {K:W.Frag} {mg:Str->Option Value} {base:Heap} {A:Around} {outer:List Env} {s:Shared} {H:Hp} (e:Env0 P w K mg base A outer s H) (C:Addr) (us:List Value) (kw:List (Str × Value)) :
  Env0 P w K mg base (A.under (.builtin "type.__call__" ⟨.ref C::us,kw⟩)) outer s H:=⟨by first | exact e.frames | (simpa [Around.under,Code.envs,Code.isFrame,pushEnvs] using e.frames),e.mod,e.bs,e.bsz,e.funs,e.frf,e.hok,e.bare⟩
def Env0.in1 {P:Program} {w:World} {K:W.Frag} {mg:Str->Option Value} {base:Heap} {A:Around} {outer:List Env} {s:Shared} {H:Hp} (e:Env0 P w K mg base A outer s H) :
  Env0 P w K mg base A.in1 outer s H:=⟨e.frames,e.mod,e.bs,e.bsz,e.funs,e.frf,e.hok,e.bare⟩
section
variable {X:Cx} {pins:List (Addr × Obj)} {σ:St} {H:Hp} {s s':Shared}
def Inv.env0 (I:Inv X pins σ H s):Env0 X.prog X.w X.K X.mg X.base X.A X.stack s H:=
 ⟨I.ok.frames,I.ok.mod,I.bs,wHe I.ok.bsz I.sz,I.stack,I.stkFree,I.hok,I.bare⟩
def Inv.after {Q:VK} {u:Value} (I:Inv X pins σ H s) (h:CE X.stack X.prog X.w H s Q u s'):EP X pins σ Q u s':=by obtain⟨v,H',os,bare,un,hok,r,q⟩:=h;obtain⟨hh,g,d,t,nk⟩:=s';obtain rfl:nk=s.os:=os;exact⟨v,H',I.call (h':=hh) (g':=g) (d':=d) (t':=t) (ch:=[]) un hok bare (λb z=>absurd z (by simp)),r,q⟩
end
def zPo (sp:Sp) (aJ:List V) (E:XK) (t:TA):TE:=λσ H Q=>t σ H λvs H1=>sp (vs++aJ) H1 Q E
inductive TMeth (C:Addr) (m:Str) (sp:Sp) (aJ:List V) (E:XK) (t:TA) (σ:St) (Q:VK) (x:V) (H1:Hp):Prop
 | mk (a:_) (dx:_) (fs:_):(x=.ref a)->(H1 a=some (.ins C dx fs))->(fs.lookup m=none/\
 t σ H1 λvs H2=>sp (x::(vs++aJ)) H2 Q E)->TMeth C m sp aJ E t σ Q x H1
def zPk (C:Addr) (m:Str) (sp:Sp) (aJ:List V) (E:XK) (ta:TE) (t:TA):TE:=λσ H Q=>ta σ H λx H1=>TMeth C m sp aJ E t σ Q x H1
def zQ9 (C:Addr) (sp:Sp) (aJ:List V) (E:XK) (t:TA):TE:=λσ H Q=>t σ H λvs H1=>∀x dx,H1 x=none->H1 dx=none->dx≠x->
 sp (.ref x::(vs++aJ)) (upd (upd H1 dx (.own x)) x (.ins C dx [])) (λv H2=>v=.non/\Q (.ref x) H2) E
def zAg (K:W.Frag) (fd:FuncData) (ps:List Str) (ds:List Value):Prop:=
 ∀(s:Shared) (us:List Value),K.In s.heap->(us++ds).length=ps.length->BindsTo s fd ⟨us,[]⟩ (ps.zip (us++ds))
def zAg.all {K:W.Frag} {fd:FuncData} {ps:List Str} (h:∀us:List Value,us.length=ps.length->bindArgs fd ⟨us,[]⟩=pure (ps.zip us)):zAg K fd ps []:=λs us _ hl=>by rw[wHx] at hl ⊢;exact .of_eq (h us hl)
def zDy (CX:CXT) (X:Cx) (E:XK):Prop:=∀(pins:List (Addr × Obj)) (σ:St) (H:Hp) (s:Shared) (e:Value) (s':Shared),Inv X pins σ H s->CX X.stack H s E e s'->X.xe e s'
section
variable {X:Cx} {CX:CXT} {k:Nat} {f C:Addr} {fd:FuncData} {ps:List Str} {sp:Sp} {aJ:List V} {ds:List Value} {E:XK} {x m:Str} {p pos apos:Pos} {e o:Expr} {es:List Expr} {ta:TE} {t:TA}
def zKf {pins:List (Addr × Obj)} {σ:St} {H:Hp} {s:Shared} {Q:VK} {us:List Value} {vs:List V} (F:FnOk X.prog X.w X.K X.mg X.base CX k f fd ps sp) (hr:Room k X.A) (hb:zAg X.K fd ps ds) (hd:zA7 aJ ds) (hx:zDy CX X E)
  (I:Inv X pins σ H s) (r:zA7 vs us) (h:sp (vs++aJ) H Q E):wpAny (model X.prog X.w) X.A (call (.ref f) us) (EP X pins σ Q) X.xe s:=by
 have r2:zA7 (vs++aJ) (us++ds):=r.append hd;have hl:(us++ds).length=ps.length:=by rw[← r2.length];exact F.len _ _ _ _ h
 refine wpAny_call (codeAny_mono (F.run X.A X.stack s H ⟨us,[]⟩ (us++ds) (vs++aJ) Q E hr I.env0 (hb s us I.kIn hl) r2 h) λr s' hq=>?_);cases r with
 | error e=>exact hx pins σ H s e s' I hq
 | ok fl=>
  cases fl with
  | ret u=>exact I.after hq
  | next=>exact wHI hq
  | brk=>exact wHI hq
  | cont=>exact wHI hq
def zAU (F:FnOk X.prog X.w X.K X.mg X.base CX k f fd ps sp) (hr:Room k X.A) (hg:Gl X x) (hm:X.mg x=some (.ref f)) (hk:W.keepIn X.K (.ref f)=true) (hb:zAg X.K fd ps ds) (hd:zA7 aJ ds) (hx:zDy CX X E)
  (ha:PA X (e::es) t) (cQ:(x == ("__debug__":Str))=false:=by decide) (he:starEach (e::es) X.env=(false,eval e X.env)::starEach es X.env:=by rfl) (aK:(backTo pos (starEach es X.env)).any (·.1)=false:=by rfl) :
  PE X (.Call (.Name x p) (e::es) [] pos) (zPo sp aJ E t):=by
 intro pins s σ H Q I h;refine wpAny_Call_Name_kw (zBU I hg hm ?_ cQ);refine W.callWith_K (h₀:=X.base) I.ok.mod.kin hk (thn (ha pos pins s σ H _ I h) λus s1 ⟨vs,H1,I1,r,q⟩=>⟨I1.kIn,?_⟩) he aK;exact zKf F hr hb hd hx I1 r q
def zBP {pl:Sem Bool} (he:PE X o ta) (c:Cls X.K C) (hm:Meth X.K C m f) (F:FnOk X.prog X.w X.K X.mg X.base CX k f fd ps sp) (hr:Room k X.A) (hb:zAg X.K fd ps ds) (hd:zA7 aJ ds) (hx:zDy CX X E) (ha:PA X (e::es) t)
  (bT:starEach (e::es) X.env=(false,eval e X.env)::starEach es X.env:=by rfl) (aK:(backTo pos (starEach es X.env)).any (·.1)=false:=by rfl)
  (ht:eval (.Call (.Attribute o m apos) (e::es) [] pos) X.env=(do
   let ov ← eval o X.env
   standAt apos.atName
   let (f,first) ← holding [ov] (getMethod ov m pl)
   callWith pos f first (backTo pos (starEach (e::es) X.env)) (backToKw pos (keywordEach [] X.env))):=by rfl) :
  PE X (.Call (.Attribute o m apos) (e::es) [] pos) (zPk C m sp aJ E ta t):=by
 intro pins s σ H Q I h;refine W.methodCall_KW (pl:=pl) (thn (he pins s σ H _ I h) λu s1 ⟨x,H1,I1,rx,a,dx,fs,ex,ea,l,q⟩=>?_) ht;subst ex;obtain rfl:u=Value.ref a:=rx;refine zFA I1 ea c hm l ?_;refine W.callWith_K (first:=[.ref a]) (h₀:=X.base) I.ok.mod.kin hm.kp (thn (ha pos pins s1 σ H1 _ I1 q) λus s2 ⟨vs,H2,I2,r,q2⟩=>⟨I2.kIn,?_⟩) bT aK;exact zKf (us:=.ref a::us) (vs:=.ref a::vs) F hr hb hd hx I2 (.cons rfl r) q2
def zBd {pl:Sem Bool} (he:PE X o ta) (c:Cls X.K C) (hm:Meth X.K C m f) (F:FnOk X.prog X.w X.K X.mg X.base CX k f fd ps sp) (hr:Room k X.A) (hb:zAg X.K fd ps ds) (hd:zA7 aJ ds) (hx:zDy CX X E)
  (ht:eval (.Call (.Attribute o m apos) [] [] pos) X.env=(do
   let ov ← eval o X.env
   standAt apos.atName
   let (f,first) ← holding [ov] (getMethod ov m pl)
   callWith pos f first (backTo pos (starEach [] X.env)) (backToKw pos (keywordEach [] X.env))):=by rfl) :
  PE X (.Call (.Attribute o m apos) [] [] pos) (zPk C m sp aJ E ta zJJ):=by
 intro pins s σ H Q I h;refine W.methodCall_KW (pl:=pl) (thn (he pins s σ H _ I h) λu s1 ⟨x,H1,I1,rx,a,dx,fs,ex,ea,l,q⟩=>?_) ht;subst ex;obtain rfl:u=Value.ref a:=rx;refine zFA I1 ea c hm l ?_;exact W.callWith_K0 (first:=[.ref a]) I1.kIn hm.kp (zKf (us:=[.ref a]) (vs:=[.ref a]) F hr hb hd hx I1 (.cons rfl .nil) q)
structure Mk (K:W.Frag) (C f:Addr):Prop where
 makes:W.makesIn K C=true
 init:W.findIn K (.ref C) "__init__"=some (some (.ref f))
 fn:W.isFn K (.ref f)=true
 kp:W.keepIn K (.ref C)=true
def zLW {pins:List (Addr × Obj)} {σ:St} {H:Hp} {s:Shared} {Q:VK} {us:List Value} {vs:List V} (M:Mk X.K C f) (F:FnOk X.prog X.w X.K X.mg X.base CX k f fd ps sp) (hr:Room (k+1) X.A) (hb:zAg X.K fd ps ds) (hd:zA7 aJ ds)
  (hx:zDy CX X E) (I:Inv X pins σ H s) (r:zA7 vs us)
  (h:∀x dx,H x=none->H dx=none->dx≠x->sp (.ref x::(vs++aJ)) (upd (upd H dx (.own x)) x (.ins C dx [])) (λv H2=>v=.non/\Q (.ref x) H2) E) :
  wpAny (model X.prog X.w) X.A (call (.ref C) us) (EP X pins σ Q) X.xe s:=by
 have hq:=h (s.heap.objs.size+1) s.heap.objs.size (I.hok.fresh (Nat.le_succ _)) (I.hok.fresh (wG5 _)) (wHg (wHY _));have I2:=Inv.made (C:=C) I;have r2:zA7 (V.ref (s.heap.objs.size+1)::(vs++aJ)) (Value.ref (s.heap.objs.size+1)::(us++ds)):=.cons rfl (r.append hd);have hl:(Value.ref (s.heap.objs.size+1)::us++ds).length=ps.length:=by have e:=r2.length;rw[F.len _ _ _ _ hq] at e;exact e.symm
 refine wpAny_call (zM3 (f:=f) I.kIn M.makes M.init (beq_iff_eq.mp M.fn) (codeAny_mono (F.run _ X.stack _ _ ⟨Value.ref (s.heap.objs.size+1)::us,[]⟩ (Value.ref (s.heap.objs.size+1)::(us++ds)) _ _ E (hr.make C us [])
  (I2.env0.make C us []) (hb _ (Value.ref (s.heap.objs.size+1)::us) I2.kIn hl) r2 hq) λr s' dH=>?_))
 cases r with
 | error e=>exact hx pins σ _ _ e s' I2 dH
 | ok fl=>
  cases fl with
  | ret u=>
   obtain⟨v,H',I3,rv,ev,q3⟩:=I2.after dH;subst ev;exact⟨rv,⟨V.ref (s.heap.objs.size+1),H',I3,rfl,q3⟩⟩
  | next=>exact wHI dH
  | brk=>exact wHI dH
  | cont=>exact wHI dH
def zMi (M:Mk X.K C f) (F:FnOk X.prog X.w X.K X.mg X.base CX k f fd ps sp) (hr:Room (k+1) X.A) (hg:Gl X x) (hm:X.mg x=some (.ref C)) (hb:zAg X.K fd ps ds) (hd:zA7 aJ ds) (hx:zDy CX X E)
  (cQ:(x == ("__debug__":Str))=false:=by decide):PE X (.Call (.Name x p) [] [] pos) (zQ9 C sp aJ E zJJ):=by
 intro pins s σ H Q I h;refine wpAny_Call_Name_kw (zBU I hg hm ?_ cQ);exact W.callWith_K0 I.kIn M.kp (zLW (us:=[]) M F hr hb hd hx I .nil h)
end
structure FnScope (N P:List Str) (sc:Scope):Prop where
 kind:sc.kind=.function
 co:sc.isCoroutine=false
 gen:sc.isGenerator=false
 nd:N.Nodup
 pre:N.take P.length=P
 par:∀x∈P,sc.names.lookup x=some .local∨sc.names.lookup x=some .cell
 nofree:∀y∈sc.names,y.2≠.free
theorem zHv {kindOf:Str->Option NameKind} {x:Str}:∀{binds:List (Str × Value)} {m:Str->Option Value},(∀v,(x,v)∉binds)->bindL kindOf binds m x=m x
 | [],_,_=>rfl
 | (n,v)::r,m,h=>by
  unfold bindL;rw[zHv λw hw=>h w (wHR _ hw)]
  split
  ·have:x≠n:=by rintro rfl;exact h v wH4
   simp[this]
  rfl
theorem zHx {kindOf:Str->Option NameKind} {x:Str}:∀{binds:List (Str × Value)} {m:Str->Option Value},(∀v,(x,v)∉binds)->bindC kindOf binds m x=m x
 | [],_,_=>rfl
 | (n,v)::r,m,h=>by
  unfold bindC;rw[zHx λw hw=>h w (wHR _ hw)]
  split
  ·rfl
  have:x≠n:=by rintro rfl;exact h v wH4
  simp[this]
theorem zHw {kindOf:Str->Option NameKind} {x:Str} {v:Value}:∀{P:List Str} {vs:List Value} {i:Nat} {m:Str->Option Value},P.Nodup->P[i]?=some x->vs[i]?=some v->kindOf x=some .local->
  bindL kindOf (P.zip vs) m x=some v
 | [],_,_,_,_,h,_,_=>by simp at h
 | _::_,[],_,_,_,_,h,_=>by simp at h
 | p::P,w::vs,0,m,nd,h1,h2,hk=>by simp at h1 h2;subst h1;subst h2;show bindL kindOf ((p,w)::P.zip vs) m p=_;unfold bindL;rw[zHv λv hv=>(List.nodup_cons.mp nd).1 (List.of_mem_zip hv).1,wG1 hk];simp
 | p::P,w::vs,i+1,m,nd,h1,h2,hk=>by show bindL kindOf ((p,w)::P.zip vs) m x=_;unfold bindL;exact zHw (i:=i) (List.nodup_cons.mp nd).2 (by simpa using h1) (by simpa using h2) hk
theorem zHy {kindOf:Str->Option NameKind} {x:Str} {v:Value}:∀{P:List Str} {vs:List Value} {i:Nat} {m:Str->Option Value},P.Nodup->P[i]?=some x->vs[i]?=some v->kindOf x≠some .local->
  bindC kindOf (P.zip vs) m x=some v
 | [],_,_,_,_,h,_,_=>by simp at h
 | _::_,[],_,_,_,_,h,_=>by simp at h
 | p::P,w::vs,0,m,nd,h1,h2,hk=>by simp at h1 h2;subst h1;subst h2;show bindC kindOf ((p,w)::P.zip vs) m p=_;unfold bindC;rw[zHx λv hv=>(List.nodup_cons.mp nd).1 (List.of_mem_zip hv).1,wGZ hk];simp
 | p::P,w::vs,i+1,m,nd,h1,h2,hk=>by show bindC kindOf ((p,w)::P.zip vs) m x=_;unfold bindC;exact zHy (i:=i) (List.nodup_cons.mp nd).2 (by simpa using h1) (by simpa using h2) hk
def zD5 (N:List Str) (vs:List V):St:=vs.map some++List.replicate (N.length-vs.length) none
def zDZ (CX:CXT) (P:Program) (w:World) (K:W.Frag) (mg:Str->Option Value) (base:Heap) (N:List Str) (qual:Str) (scope:Scope) (f:Addr) (cd:Value) (A:Around) (outer:List Env) (s:Shared) (H:Hp) (E:XK):Cx where
 prog:=P
 w:=w
 K:=K
 mg:=mg
 base:=base
 A:=A.deeper (envOfC qual scope s.heap.objs.size f cd)
 N:=N
 s₀:=s
 H₀:=H
 env:=envOfC qual scope s.heap.objs.size f cd
 outer:=outer
 stack:=envOfC qual scope s.heap.objs.size f cd::outer
 ex:=[]
 calm:=true
 fn:=λ_=>true
 pn:=[]
 xe:=λe s'=>wpAny (model P w) (A.deeper (envOfC qual scope s.heap.objs.size f cd)) (leaving (envOfC qual scope s.heap.objs.size f cd) e) (λ_ s''=>CX outer H s E e s'') (λe' s''=>CX outer H s E e' s'') s'
def zIK {sc:Scope} {n:Nat} {x:Str} (h:sc.names.lookup x=some .cell):∃c,(cellsFrom n sc.names []).lookup x=some c:=by have q:=W.cellsFrom_some sc.names n [] (.inl h);exact Option.isSome_iff_exists.mp q
def zHf {CX:CXT} {P:Program} {w:World} {K:W.Frag} {mg:Str->Option Value} {base:Heap} {N ps:List Str} {qual:Str} {scope:Scope} {f:Addr} {cd:Value} {A:Around} {outer:List Env} {s s1:Shared} {H:Hp} {E:XK} {us:List Value} {vs:List V}
  (S:FnScope N ps scope) (hd:A.handled=none) (e0:Env0 P w K mg base A outer s H) (hl:vs.length=ps.length) (r:zA7 vs us)
  (x:InCallC s s.heap.objs.size (bindL (envOfC qual scope s.heap.objs.size f cd).kindOf (ps.zip us) λ_=>none) (cellsFrom (s.heap.objs.size+1) scope.names []) (bindC (envOfC qual scope s.heap.objs.size f cd).kindOf (ps.zip us) λ_=>none) s1) :
  Inv (zDZ CX P w K mg base N qual scope f cd A outer s H E) [] (zD5 N vs) H s1:=by
 have aK:ps.length<=N.length:=by have:=congrArg List.length S.pre;rw[wHk] at this;omega
 obtain⟨h1,tk,rfl,hk⟩:=x.done;have jo:∀b:Addr,b∉(zDZ CX P w K mg base N qual scope f cd A outer s H E).ex:=λb z=>absurd (show b∈([]:List Addr) from z) (by simp);refine⟨⟨e0.mod,S.kind,rfl,rfl,wG5 _,λy z c h1 h2=>?_,λy hy=>?_,λy c _ h=>?_,λ_=>hd,Around.frames_deeper e0.frames,.inr ⟨rfl,rfl⟩,λb z=>absurd z (jo b),e0.bs,e0.bsz,λb _ _=>jo b,λb z=>absurd z (jo b),e0.funs,e0.frf⟩,
  rfl,e0.bare,Un.kept hk,⟨_,x.toInCall.ns,λi y v h1 h2 h3=>?_⟩,λy c h=>⟨_,x.cell y c h⟩,e0.hok.fresh (wG5 _),λy c h=>?_,λp hp=>absurd (show p∈([]:List (Addr × Obj)) from hp) (by simp),e0.hok.kept hk,?_⟩
 ·exact name_of_addr x.apart (PySem.mem_of_lookup h1) (PySem.mem_of_lookup h2)
 ·have hy:scope.names.lookup y=some .cell∨scope.names.lookup y=some .free:=hy;rcases hy with hy | hy
  ·exact zIK hy
  exact absurd rfl (S.nofree _ (PySem.mem_of_lookup hy))
 ·exact wH9 (x.above y c (PySem.mem_of_lookup h))
 ·have hi:i < vs.length:=by
   unfold zD5 at h2;by_cases hi:i < vs.length
   ·exact hi
   rw[wHj (by simpa using hi)] at h2;rw[List.getElem?_replicate] at h2
   split at h2<;>cases h2
  have ha:vs[i]?=some v:=by
   unfold zD5 at h2;rw[wHl (by simpa using hi),wG6] at h2;cases e:vs[i]? with
   | none=>rw[e] at h2;cases h2
   | some a=>rw[e] at h2;cases h2;rfl
  obtain⟨u,hu,rv⟩:=r.get ha;have hp:ps[i]?=some y:=by rw[← S.pre,List.getElem?_take_of_lt ∅];exact h1
  have ndP:ps.Nodup:=by rw[← S.pre];exact S.nd.sublist (List.take_sublist _ _)
  refine⟨u,rv,?_⟩;rcases S.par y (wHA hp) with k | k
  ·exact .inl ⟨k,zHw ndP hp hu k⟩
  obtain⟨c,e⟩:=zIK (n:=s.heap.objs.size+1) k;refine .inr ⟨.inl k,c,e,?_⟩;have q:=x.cell y c e;rw[zHy ndP hp hu (by show scope.names.lookup y≠_;rw[k];decide)] at q;exact q
 ·exact e0.hok.fresh (wH9 (x.above y c (PySem.mem_of_lookup h)))
 unfold zD5;show _=N.length;rw[wG7,wGX,wH6];omega
def zQh {CX:CXT} {P:Program} {w:World} {K:W.Frag} {mg:Str->Option Value} {base:Heap} {k:Nat} {f:Addr} {name qual:Str} {params:Arguments} {body:List Stmt} {scope:Scope} {dV kV doc pm cdv ct oc:Value} {an od:Option Addr}
  {dX:Array (Option Value)} {N ps:List Str} {sp:Sp} (lk:K.lookup f=some ⟨oc,od,.func (W.fnOf name qual params body scope dV kV doc pm an cdv ct),dX⟩) (aQ:W.codeIn K cdv qual=true) (S:FnScope N ps scope)
  (len:∀vs H Q E,sp vs H Q E->vs.length=ps.length)
  (aW:∀(A:Around) (outer:List Env) (s:Shared) (H:Hp) (vs:List V) (Q:VK) (E:XK),Room k (A.deeper (envOfC qual scope s.heap.objs.size f cdv))->sp vs H Q E->
   ∃t,PSs (zDZ CX P w K mg base N qual scope f cdv A outer s H E) body t/\t { nx:=λ_ H'=>Q .non H',rt:=Q } (zD5 N vs) H) :
  FnOk P w K mg base CX (k+1) f (W.fnOf name qual params body scope dV kV doc pm an cdv ct) ps sp:=by
 refine⟨len,λA outer s H args us vs Q E hr e0 hb r cM=>?_⟩;have hl:=len _ _ _ _ cM;have KX:K.In s.heap:=e0.mod.kin.keeps λb o e=>(e0.bs b o e).1;have lim:s.heap.NoLimit:=e0.mod.nolimit.keeps λb o e=>(e0.bs b o e).1;have jG:∀y∈ps.zip us,scope.names.lookup y.1=some .local∨(scope.names.lookup y.1=some .cell/\((cellsFrom (s.heap.objs.size+1) scope.names []).lookup y.1).isSome=true):=λ⟨n,v⟩ hy=>by
  rcases S.par n (List.of_mem_zip hy).1 with q | q
  ·exact .inl q
  exact .inr ⟨q,W.cellsFrom_some _ _ _ (.inl q)⟩
 refine codeAny_call_function hr.depth (KX _ _ lk) rfl S.co S.gen rfl (W.codeRec_of KX aQ) (hb _ _ _ _ ?_);refine wpAny_newFunctionEnv_cells S.kind jG λenv he s1 x=>?_;subst he;refine⟨lim.keeps x.toInCall.keep,codeAny_func ?_⟩;obtain⟨t,ht,hq⟩:=aW A outer s H vs Q E (hr.deeper _) cM;have I:Inv (zDZ CX P w K mg base N qual scope f cdv A outer s H E) [] (zD5 N vs) H s1:=zHf S hr.hd e0 hl r x;refine wHq (ht [] s1 (zD5 N vs) H _ I hq) (λfl s' hs=>?_) λe s' hs=>hs;have fin:∀{σ':St} {H':Hp} {v:V} {u:Value},Inv (zDZ CX P w K mg base N qual scope f cdv A outer s H E) [] σ' H' s'->zBl v u->Q v H'->CE outer P w H s Q u s':=
  λ{σ' H' v u} J rv q=>⟨v,H',J.os,J.bare,J.base,J.hok,rv,q⟩
 cases fl with
 | ret u=>
  obtain⟨v,σ',H',J,rv,q⟩:=hs;exact fin J rv q
 | next=>
  obtain⟨σ',H',J,q⟩:=hs;exact fin (v:=V.non) (u:=Value.none) J rfl q
 | brk=>
  obtain⟨_,_,_,q⟩:=hs;exact wHI q
 | cont=>
  obtain⟨_,_,_,q⟩:=hs;exact wHI q
section
variable {X:Cx} {x:Str} {p pos:Pos} {e:Expr} {es:List Expr} {t:TA} {id T:String} {r:List V->Hp->VK->Prop}
def tCB (r:List V->Hp->VK->Prop) (t:TA):TE:=λσ H Q=>t σ H λvs H1=>r vs H1 Q
def zS (hc:zB6 X (.builtin id) r) (hg:Gl X x) (hm:X.mg x=none) (hv:bootBuiltins x=some (.builtin id)) (ha:PA X (e::es) t) (hn:x≠"__name__":=by decide) (cQ:(x == ("__debug__":Str))=false:=by decide)
  (he:starEach (e::es) X.env=(false,eval e X.env)::starEach es X.env:=by rfl) (aK:(backTo pos (starEach es X.env)).any (·.1)=false:=by rfl):PE X (.Call (.Name x p) (e::es) [] pos) (tCB r t):=by
 intro pins s σ H Q I h;refine wpAny_Call_Name_kw (zER I hg hm hv ?_ hn cQ);exact PyProof.Rows.callWith_builtin1 (thn (ha pos pins s σ H _ I h) λus s1 ⟨vs,H1,I1,r1,q1⟩=>hc pins s1 σ H1 vs us Q I1 r1 q1) he aK
def zCa (hc:zB6 X (.type T) r) (hg:Gl X x) (hm:X.mg x=none) (hv:bootBuiltins x=some (.type T)) (ha:PA X (e::es) t) (hn:x≠"__name__":=by decide) (cQ:(x == ("__debug__":Str))=false:=by decide)
  (he:starEach (e::es) X.env=(false,eval e X.env)::starEach es X.env:=by rfl) (aK:(backTo pos (starEach es X.env)).any (·.1)=false:=by rfl):PE X (.Call (.Name x p) (e::es) [] pos) (tCB r t):=by
 intro pins s σ H Q I h;refine wpAny_Call_Name_kw (zER I hg hm hv ?_ hn cQ);exact PyProof.Rows.callWith_type1 (thn (ha pos pins s σ H _ I h) λus s1 ⟨vs,H1,I1,r1,q1⟩=>hc pins s1 σ H1 vs us Q I1 r1 q1) he aK
end
end L2
namespace HT
open PySem PyProof.Rows
section
open PySem.SeqAt
open PySem.AutoSeq1 (wpAny_loadPart')
open PySem.MeetsSeq PySem.MeetsSeq2 PySem.MeetsSeq3
end
section
variable {prog:Program} {w:World} {A:Around} {E:Value->Shared->Prop} {s:Shared}
def sIx (n d:Nat):Option Int->Nat
 | none=>d
 | some v=>if v < 0 then (v+(n:Int)).toNat else min v.toNat n
def sIx_none (n d:Nat):sIx n d none=d:=rfl
def sIx_nat (n d k:Nat):sIx n d (some (k:Int))=min k n:=by show (if (k:Int) < 0 then ((k:Int)+(n:Int)).toNat else min (k:Int).toNat n)=min k n;rw[wGZ ∅,wHn]
theorem zPz (n d:Nat) (hd:d<=n) (o:Option Int):sIx n d o<=n:=by
 cases o with
 | none=>exact hd
 | some v=>
  show (if v < 0 then (v+(n:Int)).toNat else min v.toNat n)<=n;by_cases hv:v < 0
  ·rw[wG1 hv];omega
  rw[wGZ hv];exact Nat.min_le_right _ _
def zLu (v:Int) (n d:Nat):(if v < 0 then max (v+(n:Int)) 0 else min v (n:Int))=((sIx n d (some v):Nat):Int):=by
 show (if v < 0 then max (v+(n:Int)) 0 else min v (n:Int))=(((if v < 0 then (v+(n:Int)).toNat else min v.toNat n):Nat):Int);by_cases hv:v < 0
 ·simp only[wG1 hv];omega
 simp only[wGZ hv];omega
def zJw (lo hi:Option Int) (n:Nat):Builtin.Slice.sliceAdjust lo hi 1 (n:Int)=(((sIx n 0 lo:Nat):Int),((sIx n n hi:Nat):Int)):=by
 have h1:¬((1:Int) < 0):=by omega
 unfold Builtin.Slice.sliceAdjust;simp only[h1,if_false];refine Prod.ext ?_ ?_
 ·cases lo with
  | none=>rfl
  | some v=>exact zLu v n 0
 cases hi with
 | none=>rfl
 | some v=>exact zLu v n n
def zJd (i j:Nat):Builtin.Slice.slicePlaces (i:Int) (j:Int) 1=j-i:=by
 unfold Builtin.Slice.slicePlaces;have h1:(1:Int) > 0:=by omega
 simp only[h1,if_true,Int.ediv_one]
 split<;>omega
def zFv {v:Value} {o:Option Int} {Q:Option Int->Shared->Prop} (p:IsPart v o) (h:Q o s):wpAny (model prog w) A (Builtin.Slice.slicePartIndex v) Q E s:=by
 cases p with
 | none=>exact slicePart_none h
 | int i t=>exact slicePart_int h
def zEd {sl:Addr} {vl vu:Value} {lo hi:Option Int} {n:Nat} {Q:Int × Int × Nat->Shared->Prop} (hs:s.heap.IsSliceOf sl vl vu .none) (pl:IsPart vl lo) (pu:IsPart vu hi)
  (h:Q (((sIx n 0 lo:Nat):Int),1,sIx n n hi-sIx n 0 lo) s):wpAny (model prog w) A (Builtin.Slice.sliceApplied (.ref sl) (pure (n:Int))) Q E s:=by
 obtain⟨os,jB,hcs,iJ⟩:=id hs;unfold Builtin.Slice.sliceApplied Builtin.Slice.sliceFields;refine wGY (wGY (wId jB iJ (x:=vl) rfl (wGY (wId jB iJ (x:=vu) rfl (wGY (wId jB iJ (x:=.none) rfl (wG2 ?_)))))));refine wGY (slicePart_none ?_);show wpAny _ _ (if ((1:Int) == 0)=true then _ else _) _ _ s;rw[wGZ ⋯];refine wGY (zFv pl (wGY (zFv pu (wGY (wG2 ?_)))));show wpAny _ _ (match Builtin.Slice.sliceAdjust lo hi 1 (n:Int) with | (lo,hi)=>pure (lo,(1:Int),Builtin.Slice.slicePlaces lo hi 1)) _ _ s;rw[zJw lo hi n];show wpAny _ _ (pure (((sIx n 0 lo:Nat):Int),(1:Int),Builtin.Slice.slicePlaces ((sIx n 0 lo:Nat):Int) ((sIx n n hi:Nat):Int) 1)) _ _ s;rw[zJd];exact wG2 h
def zMf (xs:Array Value) (i k:Nat):((List.range k).filterMap λ(m:Nat)=>xs[((i:Int)+(m:Int)*1).toNat]?).toArray=((xs.toList.drop i).take k).toArray:=by
 have e:(λ(m:Nat)=>xs[((i:Int)+(m:Int)*1).toNat]?)=λm=>xs[i+m]?:=by
  funext m
  have:((i:Int)+(m:Int)*1).toNat=i+m:=by omega
  rw[this]
 rw[e];have:=pick_run xs i k;rw[List.filterMap_map] at this;have e2:((λx=>xs[x]?)∘λx=>i+x)=λm=>xs[i+m]?:=rfl;rw[e2] at this;rw[this]
theorem getItem_tuple_cut {t sl:Addr} {items:Array Value} {vl vu:Value} {lo hi:Option Int} {Q:Value->Shared->Prop} (ht:IsTup s.heap t items) (hs:s.heap.IsSliceOf sl vl vu .none) (pl:IsPart vl lo) (pu:IsPart vu hi)
  (hw:¬(sIx items.size 0 lo=0/\sIx items.size items.size hi=items.size))
  (h:Q (.ref s.heap.objs.size) { s with heap:=s.heap.push { cls:=.type "tuple",data:=.seq ((items.toList.drop (sIx items.size 0 lo)).take (sIx items.size items.size hi-sIx items.size 0 lo)).toArray } })
  (eN:items.size<=sizeLine):wpAny (model prog w) A (getItem (.ref t) (.ref sl)) Q E s:=by
 have cJ:sizeOk (.seq ((items.toList.drop (sIx items.size 0 lo)).take (sIx items.size items.size hi-sIx items.size 0 lo)).toArray):=by show ((items.toList.drop (sIx items.size 0 lo)).take (sIx items.size items.size hi-sIx items.size 0 lo)).toArray.size<=sizeLine;rw[wHh,wHk,wHP,wHt];omega
 have hj:sIx items.size items.size hi<=items.size:=zPz _ _ (wG5 _) hi;obtain⟨os,jB,hcs,iJ⟩:=id hs;have hTs:s.TypeIs (.ref sl) "slice":=⟨os,jB,hcs⟩;unfold getItem
 try with_reducible refine wHQ ?_
 first | refine wGY (wG2 ?_) | skip
 refine wGY (wpAny_sequenceKey ht.typeIs ⋯ ?_);refine wGY (wpAny_callSpecial?_slot (name:=Str.ofString "__getitem__") ht.typeIs PyProof.Rows.slot_tuple_getitem
  (wpAny_call_entry PyProof.Rows.slot_tuple_getitem ht.typeIs entry_tuple_getitem ?_ (args_tuple_getitem _ _)))
 show wpAny _ _ (Builtin.Tuple.tupleItemsOf (.ref t) >>= _) _ _ s;refine wGY (tupleItemsOf_ ht ?_);refine wGY (wpAny_typeOf hTs ?_);rw[wG1 ⋯];refine wGY (zEd hs pl pu ?_);have nZ:¬((((sIx items.size 0 lo:Nat):Int) == 0 && (1:Int) == 1 && (sIx items.size items.size hi-sIx items.size 0 lo) == items.size)=true):=by intro q;rw[wHw,wHw] at q;have q1:((sIx items.size 0 lo:Nat):Int)=0:=eq_of_beq q.1.1;have q2:sIx items.size items.size hi-sIx items.size 0 lo=items.size:=eq_of_beq q.2;exact hw ⟨by omega,by omega⟩
 show wpAny _ _ (if (((sIx items.size 0 lo:Nat):Int) == 0 && (1:Int) == 1 && (sIx items.size items.size hi-sIx items.size 0 lo) == items.size)=true then _ else _) _ _ s;rw[wGZ nZ,zMf]
 first
  | exact wGY (m:=Builtin.Tuple.tupleExact _) (wHL (wG2 ⟨_,rfl,wG2 h⟩) cJ)
  | exact wGY (m:=Builtin.Tuple.tupleExact _) (wHL (wGY (wG2 (wG2 ⟨_,rfl,wG2 h⟩))) cJ)
  | exact wGY (wGY (m:=Builtin.Tuple.tupleExact _) (wHL (wG2 (wG2 ⟨_,rfl,wG2 h⟩)) cJ))
  | exact wGY (wGY (m:=Builtin.Tuple.tupleExact _) (wHL (wG2 ⟨_,rfl,wG2 h⟩) cJ))
end
end HT
namespace L2
open PySem PySem.Spec PyProof.Rows
abbrev TO:=St->Hp->(Option Int->Hp->Prop)->Prop
def PO (X:Cx) (e:Option Expr) (t:TO):Prop:=
 ∀(pins:List (Addr × Obj)) (s:Shared) (σ:St) (H:Hp) (Q:Option Int->Hp->Prop),Inv X pins σ H s->t σ H Q->
  wpAny (model X.prog X.w) X.A (evalPart e X.env) (λu s'=>∃o H',Inv X pins σ H' s'/\IsPart u o/\Q o H') X.xe s
def zNG:TO:=λ_ H Q=>Q none H
inductive TPart (Q:Option Int->Hp->Prop) (x:V) (H1:Hp):Prop
 | mk (i:_):(x=.int i)->(Q (some i) H1)->TPart Q x H1
def zQ6 (t:TE):TO:=λσ H Q=>t σ H λx H1=>TPart Q x H1
def zCd {ns:List Int}:∀{us:List Value},zA7 (ns.map V.int) us->IntsAre us ns:=by
 induction ns with
 | nil=>intro us r;rw[List.map_nil] at r;cases r;exact .nil
 | cons n ns ih=>
  intro us r;rw[wHW] at r;cases r with
  | cons r1 r2=>
   obtain⟨t,e⟩:=r1;subst e;exact .cons n t (ih r2)
section
variable {X:Cx} {e:Expr} {te:TE} {lo hi:Option Expr} {tl th:TO} {pos p2:Pos}
def zED:PO X none zNG:=by intro pins s σ H Q I h;rw[evalPart_none];exact wG2 ⟨none,H,I,.none,h⟩
def zBC (h:PE X e te):PO X (some e) (zQ6 te):=by intro pins s σ H Q I hw;rw[evalPart_some];refine thn (h pins s σ H _ I hw) λu s1 aA=>?_;obtain⟨x,H1,I1,r1,q1⟩:=aA;obtain⟨i,rfl,q⟩:=q1;obtain⟨t,rfl⟩:=r1;exact⟨some i,H1,I1,.int i t,q⟩
def SlR (X:Cx) (r:V->Option Int->Option Int->Hp->VK->Prop):Prop:=
 ∀(pins:List (Addr × Obj)) (s:Shared) (σ:St) (H:Hp) (x:V) (v vl vu:Value) (lo hi:Option Int) (sl:Addr) (Q:VK),Inv X pins σ H s->zBl x v->s.heap.IsSliceOf sl vl vu .none->IsPart vl lo->IsPart vu hi->r x lo hi H Q->
  ∃T id,typeLookup (.type T) "__getitem__"=pure (some (.builtin id))/\s.TypeIs v T/\wpAny (model X.prog X.w) X.A (getItem v (.ref sl)) (EP X pins σ Q) X.xe s
def tSl (r:V->Option Int->Option Int->Hp->VK->Prop) (te:TE) (tl th:TO):TE:=λσ H Q=>te σ H λx H1=>tl σ H1 λl H2=>th σ H2 λu H3=>r x l u H3 Q
def zBK {r:V->Option Int->Option Int->Hp->VK->Prop} (hr:SlR X r) (he:PE X e te) (hl:PO X lo tl) (hu:PO X hi th):PE X (.Subscript e (.Slice lo hi none p2) pos) (tSl r te tl th):=by intro pins s σ H Q I h;refine Subscript_ (thn (he pins s σ H _ I h) λv s1 aA=>?_);obtain⟨x,H1,I1,r1,q1⟩:=aA;refine wpAny_Slice (thn (hl pins s1 σ H1 _ I1 q1) λvl s2 ⟨l,H2,I2,pl,q2⟩=>thn (hu pins s2 σ H2 _ I2 q2) λvu s3 aA=>?_);obtain⟨u,H3,I3,pu,q3⟩:=aA;rw[evalPart_none];refine wG2 ?_;have I4:Inv X pins σ H3 { s3 with heap:=s3.heap.push { cls:=.type "slice",data:=.fields #[vl,vu,.none] } }:=I3.kept (t':=s3.toks) λb ob q=>wG3 _ q;obtain⟨T,id,hT,ht,hg⟩:=hr pins { s3 with heap:=s3.heap.push { cls:=.type "slice",data:=.fields #[vl,vu,.none] } } σ H3 x v vl vu l u s3.heap.objs.size Q I4 r1 (Heap.IsSliceOf.new ..) pl pu q3;show wpAny (model X.prog X.w) X.A (subscriptTail e (.Slice lo hi none p2) v (.ref s3.heap.objs.size)) (EP X pins σ Q) X.xe { s3 with heap:=s3.heap.push { cls:=.type "slice",data:=.fields #[vl,vu,.none] } };exact tail_any (ops:=[.ref s3.heap.objs.size,v]) ht hT hg (by with_unfolding_all rfl)
def zD1 (xs:List V) (lo hi:Option Int):List V:=(xs.drop (HT.sIx xs.length 0 lo)).take (HT.sIx xs.length xs.length hi-HT.sIx xs.length 0 lo)
def zEX (xs:List V) (lo hi:Option Int):(zD1 xs lo hi).length<=xs.length:=by unfold zD1;rw[wHk,wHP];omega
def zRp (K:W.Frag):V->Option Int->Option Int->Hp->VK->Prop:=λx lo hi H Q=>∃a xs,x=.ref a/\SqT K H a xs/\
 ¬(HT.sIx xs.length 0 lo=0/\HT.sIx xs.length xs.length hi=xs.length)/\∀p,H p=none->Q (.ref p) (upd H p (.tup (zD1 xs lo hi)))
def zPp:SlR X (zRp X.K):=by
 intro pins s σ H x v vl vu lo hi sl Q I rx hs pl pu h;obtain⟨a,xs,rfl,hx,hw,q⟩:=h;cases rx;obtain⟨its,r,ht,hz⟩:=I.tuple hx;have aF:its.toArray.size=xs.length:=by rw[wHh];exact r.length.symm
 refine⟨"tuple",_,PyProof.Rows.slot_tuple_getitem.lookup,ht.typeIs,?_⟩;refine HT.getItem_tuple_cut ht hs pl pu (by rw[aF];exact hw) ?_ (by rw[aF];exact hz);rw[aF];refine⟨.ref s.heap.objs.size,_,I.laid (t':=s.toks) (o:=.tup (zD1 xs lo hi)) (λb ob q=>wG3 _ q) (wG5 _) ?_,rfl,q _ (I.hok.fresh (wG5 _))⟩;exact⟨wHe (zEX xs lo hi) hz,_,(r.drop (HT.sIx xs.length 0 lo)).take (HT.sIx xs.length xs.length hi-HT.sIx xs.length 0 lo),IsTup.new _ _⟩
end
def ixN (n:Nat) (i:Int):Option Nat:=if 0<=i then (if i < n then some i.toNat else none) else if -(n:Int)<=i then some (i+n).toNat else none
def atI {α:Type} (xs:List α) (i:Int):Option α:=(ixN xs.length i).bind λj=>xs[j]?
def zKU {n:Nat} {i:Int} {j:Nat} (h:ixN n i=some j):seqIndex? i n=some j/\j < n/\-(n:Int)<=i/\i < n:=by
 unfold ixN at h;by_cases h0:0<=i
 ·rw[wG1 h0] at h;by_cases h1:i < n
  ·rw[wG1 h1] at h;have e:i.toNat=j:=wG8 h;exact⟨by rw[seqIndex_of h0 h1,e],by omega,by omega,h1⟩
  rw[wGZ h1] at h;cases h
 rw[wGZ h0] at h;by_cases h1:-(n:Int)<=i
 ·rw[wG1 h1] at h;have e:(i+n).toNat=j:=wG8 h;exact⟨by rw[seqIndex_neg ∅ h1,e],by omega,h1,by omega⟩
 rw[wGZ h1] at h;cases h
def zGv {α:Type} {xs:List α} {i:Int} {v:α} (h:atI xs i=some v):∃j,seqIndex? i xs.length=some j/\xs[j]?=some v/\j < xs.length/\-(xs.length:Int)<=i/\i < xs.length:=by
 unfold atI at h;cases e:ixN xs.length i with
 | none=>rw[e] at h;cases h
 | some j=>
  rw[e] at h;obtain⟨h1,h2,h3,h4⟩:=zKU e;exact⟨j,h1,h,h2,h3,h4⟩
def zDM {α:Type} {xs:List α} {j:Nat} {v:α} (h:xs[j]?=some v):atI xs (j:Int)=some v:=by
 have hj:j < xs.length:=(wIi h).1;have e:ixN xs.length (j:Int)=some j:=by unfold ixN;rw[wG1 ∅,wG1 ∅];simp
 unfold atI;rw[e];exact h
def zIs (b:Expr):Prop:=∀o i,subscripted b false o i=operate [o,i] (getItem o i)
def IxR (X:Cx) (r:R2):Prop:=
 ∀(value slice:Expr) (pins:List (Addr × Obj)) (s:Shared) (σ:St) (H:Hp) (x y:V) (v u:Value) (Q:VK),Inv X pins σ H s->zBl x v->zBl y u->r x y H Q->
  subscripted slice false v u=operate [v,u] (getItem v u)->wpAny (model X.prog X.w) X.A (subscriptTail value slice v u) (EP X pins σ Q) X.xe s
def MtR (X:Cx) (id:String) (r:V->List V->Hp->VK->Prop):Prop:=
 ∀(pins:List (Addr × Obj)) (s:Shared) (σ:St) (H:Hp) (x:V) (xs:List V) (v:Value) (us:List Value) (Q:VK),Inv X pins σ H s->zBl x v->zA7 xs us->r x xs H Q->
  wpAny (model X.prog X.w) X.A (call (.builtin id) (v::us)) (EP X pins σ Q) X.xe s
section
variable {X:Cx} {a b:Expr} {ta tb:TE} {pos:Pos}
def zKy {r:R2} (hr:IxR X r) (ha:PE X a ta) (hb:PE X b tb) (hs:zIs b):PE X (.Subscript a b pos) (tOp r ta tb):=by intro pins s σ H Q I h;exact Subscript_ (zQZ ha hb I h λv u s2 x y H2 I2 rx ry q=>hr a b pins s2 σ H2 x y v u Q I2 rx ry q (hs _ _))
inductive RIxL (K:W.Frag) (x:V) (y:V) (H:Hp) (Q:VK):Prop
 | mk (p:_) (xs:_) (i:_) (v:_):(x=.ref p)->(y=.int i)->SqL K H p xs->(atI xs i=some v)->Q v H->RIxL K x y H Q
def zQw (K:W.Frag):R2:=λx y H Q=>RIxL K x y H Q
inductive RIxT (K:W.Frag) (x:V) (y:V) (H:Hp) (Q:VK):Prop
 | mk (p:_) (xs:_) (i:_) (v:_):(x=.ref p)->(y=.int i)->SqT K H p xs->(atI xs i=some v)->Q v H->RIxT K x y H Q
def zQL (K:W.Frag):R2:=λx y H Q=>RIxT K x y H Q
inductive RIxS (x:V) (y:V) (H:Hp) (Q:VK):Prop
 | mk (z:_) (i:_) (c:_):(x=.str z)->(y=.int i)->(z.length<=sizeLine)->(atI z.cps.toList i=some c)->(Q (.str ⟨#[c]⟩) H)->RIxS x y H Q
def zRG:R2:=λx y H Q=>RIxS x y H Q
def zO3:IxR X (zQw X.K):=by
 intro value slice pins s σ H x y v u Q I rx ry h hs;obtain⟨p,xs,i,z,rfl,rfl,hq,he,q⟩:=h;cases rx;obtain⟨t,rfl⟩:=ry;obtain⟨its,r,pl,hz⟩:=I.list hq;obtain⟨j,h1,h2,h3,h4,h5⟩:=zGv he;obtain⟨w,ew,bM⟩:=r.get h2;have hl:=r.length;have hn:=zDW;have fin:EP X pins σ Q w s:=⟨z,H,I,bM,q⟩;by_cases h0:0<=i
 ·have hj:i.toNat=j:=by rw[seqIndex_of h0 h5] at h1;exact wG8 h1
  exact item_listR pl.isList h0 ∅ (by rw[hj];simpa using ew) fin hs
 have hj:(i+(its.toArray.size:Int)).toNat=j:=by rw[seqIndex_neg ∅ h4] at h1;rw[wHh,← hl];exact wG8 h1
 exact subscriptTail_builtinR (x:=w) pl.isList.typeIs slot_list_getitem.lookup
  (wpAny_getItem_list_neg (Q:=λr s'=>r=w/\EP X pins σ Q r s') pl.isList ∅ (by rw[wHh]<;>omega) ∅ (by rw[hj];simpa using ew) ⟨rfl,fin⟩) hs
def zQa:IxR X (zQL X.K):=by
 intro value slice pins s σ H x y v u Q I rx ry h hs;obtain⟨p,xs,i,z,rfl,rfl,hq,he,q⟩:=h;cases rx;obtain⟨t,rfl⟩:=ry;obtain⟨its,r,pl,hz⟩:=I.tuple hq;obtain⟨j,h1,h2,h3,h4,h5⟩:=zGv he;obtain⟨w,ew,bM⟩:=r.get h2;have hl:=r.length;have hn:=zDW;have fin:EP X pins σ Q w s:=⟨z,H,I,bM,q⟩;exact subscriptTail_builtinR (x:=w) pl.typeIs slot_tuple_getitem.lookup
  (getItem_tuple (j:=j) (Q:=λr s'=>r=w/\EP X pins σ Q r s') pl ∅ ∅ (by rw[wHh,← hl];exact h1) (by simpa using ew) ⟨rfl,fin⟩) hs
def zKT:IxR X zRG:=by
 intro value slice pins s σ H x y v u Q I rx ry h hs;obtain⟨z,i,c,rfl,rfl,hz,he,q⟩:=h;obtain⟨t,rfl⟩:=rx;obtain⟨t',rfl⟩:=ry;obtain⟨j,h1,h2,h3,h4,h5⟩:=zGv he;have hl:z.cps.toList.length=z.length:=by simp[Str.length]
 rw[hl] at h1 h4 h5;have hn:=zDW;exact tail_any (typeIs_str s z t) slot_str_getitem.lookup (getItem_str (c:=c) (by have e1:decide (i < -(2 ^ 63:Int))=false:=wHy ∅;have e2:decide (i≥2 ^ 63)=false:=wHy ∅;rw[e1,e2,Bool.or_false]) (by rw[h1];simpa using h2) ⟨.str ⟨#[c]⟩,H,I.tok _,⟨_,rfl⟩,q⟩) hs
def zJk (its:List Value) (n j:Nat) (u:Value):Obj.mapSeq (·.setIfInBounds j u) { cls:=.type "list",data:=.seq its.toArray n }={ cls:=.type "list",data:=.seq (its.set j u).toArray n }:=by simp[Obj.mapSeq]
theorem Inv.lst {pins:List (Addr × Obj)} {σ:St} {H:Hp} {s:Shared} {p:Addr} {xs:List V} (I:Inv X pins σ H s) (h:H p=some (.lst xs)) :
  ∃(its:List Value) (n:Nat),zA7 xs its/\s.heap.get? p=some { cls:=.type "list",data:=.seq its.toArray n }/\xs.length<=sizeLine:=by
 obtain⟨z,its,n,r,e⟩:=I.hok p _ h;exact⟨its,n,r,e,z⟩
def Inv.lstUpd {pins:List (Addr × Obj)} {σ:St} {H:Hp} {s:Shared} {p:Addr} {xs ys:List V} {its its':List Value} {n n':Nat} {f:Obj->Obj} (I:Inv X pins σ H s) (h:H p=some (.lst xs))
  (ho:s.heap.get? p=some { cls:=.type "list",data:=.seq its.toArray n }) (hf:f { cls:=.type "list",data:=.seq its.toArray n }={ cls:=.type "list",data:=.seq its'.toArray n' }) (r:zA7 ys its') (hz:ys.length<=sizeLine) (t:Nat) :
  Inv X pins σ (upd H p (.lst ys)) { s with heap:=s.heap.update p f,toks:=t }:=by
 have e:(s.heap.update p f).get? p=some { cls:=.type "list",data:=.seq its'.toArray n' }:=by rw[wHS f ho (by rw[hf]<;>rfl),hf]
 refine I.write (x:=p) (e:=p) (by rw[h];trivial) (.inl rfl) (λb u hb q=>(wHu _ _ (Ne.symm hb)).trans q) ⟨_,e⟩ ?_;exact⟨hz,its',n',r,e⟩
inductive RSetL (o:V) (i:V) (v:V) (H:Hp) (Q:Hp->Prop):Prop
 | mk (p:_) (xs:_) (k:_) (j:_):(o=.ref p)->(i=.int k)->(H p=some (.lst xs))->(ixN xs.length k=some j)->(Q (upd H p (.lst (xs.set j v))))->RSetL o i v H Q
def zQK:V->V->V->Hp->(Hp->Prop)->Prop:=λo i v H Q=>RSetL o i v H Q
def zAG:zRi X zQK:=by
 intro pins s σ H o i v ov iv u Q I ro ri rv h;obtain⟨p,xs,k,j,rfl,rfl,hp,hj,q⟩:=h;cases ro;obtain⟨t,rfl⟩:=ri;obtain⟨its,n,r,ho,hz⟩:=I.lst hp;obtain⟨h1,h2,h3,h4⟩:=zKU hj;have hl:=r.length;have hn:=zDW;have I':Inv X pins σ (upd H p (.lst (xs.set j v))) { s with heap:=s.heap.update p (Obj.mapSeq (·.setIfInBounds j u)) }:=
  I.lstUpd hp ho (zJk its n j u) (r.set rv j) (by rw[List.length_set];exact hz) s.toks
 by_cases h0:0<=k
 ·have hk:k.toNat=j:=by rw[seqIndex_of h0 h4] at h1;exact wG8 h1
  exact W.ki_setAt ho h0 ∅ (by rw[wHh,← hl];exact h4) (by rw[hk];exact⟨_,I',q⟩)
 have hk:(k+(its.toArray.size:Int)).toNat=j:=by rw[seqIndex_neg ∅ h3] at h1;rw[wHh,← hl];exact wG8 h1
 exact W.ki_setBack ho ∅ (by rw[wHh,← hl];exact h3) ∅ (by rw[hk];exact⟨_,I',q⟩)
def zG5 (lo hi:Option Int) (n:Nat):(sliceBounds lo hi none n).1=((HT.sIx n 0 lo:Nat):Int)/\(sliceBounds lo hi none n).2.1=((HT.sIx n n hi:Nat):Int)/\(sliceBounds lo hi none n).2.2=1:=by
 refine⟨?_,?_,rfl⟩
 ·cases lo with
  | none=>simp[sliceBounds,HT.sIx]
  | some i=>
   simp only[sliceBounds,HT.sIx,Option.getD_none,show (1:Int) > 0 by decide,if_true];by_cases h:i < 0
   ·simp only[h,if_true]<;>omega
   simp only[h,if_false]<;>omega
 cases hi with
 | none=>simp[sliceBounds,HT.sIx]
 | some i=>
  simp only[sliceBounds,HT.sIx,Option.getD_none,show (1:Int) > 0 by decide,if_true];by_cases h:i < 0
  ·simp only[h,if_true]<;>omega
  simp only[h,if_false]<;>omega
def zFL (its:List Value) (lo hi:Option Int):slicePick its.toArray lo hi none=((its.drop (HT.sIx its.length 0 lo)).take (HT.sIx its.length its.length hi-HT.sIx its.length 0 lo)).toArray:=by obtain⟨h1,h2,h3⟩:=zG5 lo hi its.toArray.size;unfold slicePick;rw[h1,h2,h3];simp only[sliceRange_one,pick_run,wHh]<;>rfl
inductive RSlL (K:W.Frag) (x:V) (lo:Option Int) (hi:Option Int) (H:Hp) (Q:VK):Prop
 | mk (a:_) (xs:_):(x=.ref a)->SqL K H a xs->(∀p,H p=none->Q (.ref p) (upd H p (.lst (zD1 xs lo hi))))->RSlL K x lo hi H Q
def zRq (K:W.Frag):V->Option Int->Option Int->Hp->VK->Prop:=λx lo hi H Q=>RSlL K x lo hi H Q
def zNN:SlR X (zRq X.K):=by intro pins s σ H x v vl vu lo hi sl Q I rx hs pl pu h;obtain⟨a,xs,rfl,hx,q⟩:=h;cases rx;obtain⟨its,r,ht,hz⟩:=I.list hx;have aF:=r.length;refine⟨"list",_,slot_list_getitem.lookup,ht.isList.typeIs,?_⟩;refine wpAny_getItem_list_slice ht.isList hs pl pu .none (by simp) ?_ (by rw[wHh]<;>omega);rw[zFL,← aF];refine⟨.ref s.heap.objs.size,_,I.laid (t':=s.toks) (o:=.lst (zD1 xs lo hi)) (λb ob q=>wG3 _ q) (wG5 _) ?_,rfl,q _ (I.hok.fresh (wG5 _))⟩;exact⟨wHe (zEX xs lo hi) hz,_,0,(r.drop (HT.sIx xs.length 0 lo)).take (HT.sIx xs.length xs.length hi-HT.sIx xs.length 0 lo),wHb _ rfl⟩
def zGj:V->Bool
 | .non=>true
 | .bl _=>true
 | .int _=>true
 | .str _=>true
 | _=>false
def eqV:V->V->Bool
 | .non,.non=>true
 | .bl a,.bl b=>a == b
 | .bl a,.int b=>(if a then 1 else 0) == b
 | .int a,.bl b=>a == (if b then 1 else 0)
 | .int a,.int b=>a == b
 | .str a,.str b=>a == b
 | _,_=>false
def zQj {A:Around} {s:Shared} {y x:V} {u v:Value} (ry:zBl y u) (rx:zBl x v) (fy:zGj y=true) (fx:zGj x=true):SeqAt.EqAt A s u v (eqV y x):=by
 cases y with
 | non=>
  cases ry;cases x with
  | non=>cases rx;exact SeqAt.EqAt.same _
  | bl b=>cases rx;exact SeqAt.EqAt.none_bool b
  | int b=>obtain⟨t,rfl⟩:=rx;exact SeqAt.EqAt.none_int b t
  | str b=>obtain⟨t,rfl⟩:=rx;exact SeqAt.EqAt.none_str b t
  | _=>exact absurd (show false=true from fx) wHf
 | bl a=>
  cases ry;cases x with
  | non=>cases rx;exact SeqAt.EqAt.bool_none a
  | bl b=>cases rx;exact SeqAt.EqAt.bool_bool a b
  | int b=>obtain⟨t,rfl⟩:=rx;exact SeqAt.EqAt.bool_int a b t
  | str b=>obtain⟨t,rfl⟩:=rx;exact SeqAt.EqAt.bool_str a b t
  | _=>exact absurd (show false=true from fx) wHf
 | int a=>
  obtain⟨t',rfl⟩:=ry;cases x with
  | non=>cases rx;exact SeqAt.EqAt.int_none a t'
  | bl b=>cases rx;exact SeqAt.EqAt.int_bool a t' b
  | int b=>obtain⟨t,rfl⟩:=rx;exact SeqAt.EqAt.int_int a t' b t
  | str b=>obtain⟨t,rfl⟩:=rx;exact SeqAt.EqAt.int_str a t' b t
  | _=>exact absurd (show false=true from fx) wHf
 | str a=>
  obtain⟨t',rfl⟩:=ry;cases x with
  | non=>cases rx;exact SeqAt.EqAt.str_none a t'
  | bl b=>cases rx;exact SeqAt.EqAt.str_bool a t' b
  | int b=>obtain⟨t,rfl⟩:=rx;exact SeqAt.EqAt.str_int a t' b t
  | str b=>obtain⟨t,rfl⟩:=rx;exact SeqAt.EqAt.str_str a t' b t
  | _=>exact absurd (show false=true from fx) wHf
 | _=>exact absurd (show false=true from fy) wHf
def eqU (x:V) (u:Value):Bool:=match u with
 | .none=>eqV .non x
 | .bool b=>eqV (.bl b) x
 | .int i _=>eqV (.int i) x
 | .str z _=>eqV (.str z) x
 | _=>false
def zNx {x y:V} {u:Value} (r:zBl y u) (f:zGj y=true):eqU x u=eqV y x:=by
 cases y with
 | non=>cases r;rfl
 | bl b=>cases r;rfl
 | int i=>obtain⟨t,rfl⟩:=r;rfl
 | str z=>obtain⟨t,rfl⟩:=r;rfl
 | _=>exact absurd (show false=true from f) wHf
theorem zFb {x:V}:∀{xs:List V} {us:List Value},zA7 xs us->xs.all zGj=true->us.any (eqU x)=xs.any λy=>eqV y x
 | _,_,.nil,_=>rfl
 | y::xs,u::us,.cons r t,f=>by rw[List.all_cons,wHw] at f;rw[List.any_cons,List.any_cons,zNx r f.1,zFb t f.2]
theorem zDr {A:Around} {s:Shared} {x:V} {v:Value} (rx:zBl x v) (fx:zGj x=true):∀{xs:List V} {us:List Value},zA7 xs us->xs.all zGj=true->∀u∈us,SeqAt.EqAt A s u v (eqU x u)
 | _,_,.nil,_=>λu hu=>by cases hu
 | y::xs,u::us,.cons r t,f=>λu' hu=>by
  rw[List.all_cons,wHw] at f;rcases wIn hu with rfl | hu
  ·rw[zNx r f.1];exact zQj r rx f.1 fx
  exact zDr rx fx t f.2 u' hu
def inV (x:V) (xs:List V):Bool:=xs.any λy=>eqV y x
inductive RIn (K:W.Frag) (neg:Bool) (x:V) (y:V) (H:Hp) (Q:VK):Prop
 | mk (p:_) (xs:_):(y=.ref p)->((SqL K H p xs∨SqT K H p xs))->(zGj x=true)->(xs.all zGj=true)->(Q (.bl (if neg then !inV x xs else inV x xs)) H)->RIn K neg x y H Q
def rIn (K:W.Frag) (neg:Bool):R2:=λx y H Q=>RIn K neg x y H Q
def zK5:OpR X (compareOp .In) (rIn X.K false):=by
 intro pins s σ H x y v u Q I rx ry h;obtain⟨p,xs,rfl,hq,fx,fs,q⟩:=h;cases ry;rcases hq with hq | hq
 ·obtain⟨its,r,pl,hz⟩:=I.list hq;refine SeqAt.in_listAt (eqU x) pl.isList (λw hw=>zDr rx fx r fs w (by simpa using hw)) ⟨.bl _,H,I,rfl,?_⟩;rw[show its.toArray.any (eqU x)=its.any (eqU x) by simp,zFb r fs];exact q
 obtain⟨its,r,pl,hz⟩:=I.tuple hq;refine SeqAt.in_tupleAt (eqU x) pl (λw hw=>zDr rx fx r fs w (by simpa using hw)) ⟨.bl _,H,I,rfl,?_⟩;rw[show its.toArray.any (eqU x)=its.any (eqU x) by simp,zFb r fs];exact q
def zGN:OpR X (compareOp .NotIn) (rIn X.K true):=by
 intro pins s σ H x y v u Q I rx ry h;obtain⟨p,xs,rfl,hq,fx,fs,q⟩:=h;cases ry;rcases hq with hq | hq
 ·obtain⟨its,r,pl,hz⟩:=I.list hq;refine SeqAt.notIn_listAt (eqU x) pl.isList (λw hw=>zDr rx fx r fs w (by simpa using hw)) ⟨.bl _,H,I,rfl,?_⟩;rw[show its.toArray.any (eqU x)=its.any (eqU x) by simp,zFb r fs];exact q
 obtain⟨its,r,pl,hz⟩:=I.tuple hq;refine SeqAt.notIn_tupleAt (eqU x) pl (λw hw=>zDr rx fx r fs w (by simpa using hw)) ⟨.bl _,H,I,rfl,?_⟩;rw[show its.toArray.any (eqU x)=its.any (eqU x) by simp,zFb r fs];exact q
inductive RLen (K:W.Frag) (xs:List V) (H:Hp) (Q:VK):Prop
 | mk (p:_) (ys:_):(xs=[.ref p])->((SqL K H p ys∨SqT K H p ys))->(Q (.int ys.length) H)->RLen K xs H Q
def zHs:zB6 X (.builtin "len") (λxs H Q=>RLen X.K xs H Q):=by
 intro pins s σ H xs us Q I r h;obtain⟨p,ys,rfl,hq,q⟩:=h;obtain⟨u,rfl,rx⟩:=zH6 r;cases rx;have hn:=zDW;rcases hq with hq | hq
 ·obtain⟨its,r',pl,hz⟩:=I.list hq;have aF:=r'.length;exact Calls.call_len_list pl.isList (by simp only[wHh]<;>omega) ⟨.int ys.length,H,I.tok _,⟨s.toks+1,by rw[wHh,aF]⟩,q⟩
 obtain⟨its,r',pl,hz⟩:=I.tuple hq;have aF:=r'.length;exact len_tuple pl (by simp only[wHh]<;>omega) ⟨.int ys.length,H,I.tok _,⟨s.toks+1,by rw[wHh,aF]⟩,q⟩
inductive RLenS (xs:List V) (H:Hp) (Q:VK):Prop
 | mk (z:_):(xs=[.str z])->(z.length<=sizeLine)->(Q (.int z.length) H)->RLenS xs H Q
def zHr:zB6 X (.builtin "len") (λxs H Q=>RLenS xs H Q):=by intro pins s σ H xs us Q I r h;obtain⟨z,rfl,hz,q⟩:=h;obtain⟨u,rfl,t,rfl⟩:=zH6 r;have hn:=zDW;exact len_str ∅ ⟨.int z.length,H,I.tok _,⟨_,rfl⟩,q⟩
inductive RListOf (K:W.Frag) (xs:List V) (H:Hp) (Q:VK):Prop
 | mk (p:_) (ys:_):(xs=[.ref p])->((SqL K H p ys∨SqT K H p ys))->(∀l,H l=none->Q (.ref l) (upd H l (.lst ys)))->RListOf K xs H Q
def zHq:zB6 X (.type "list") (λxs H Q=>RListOf X.K xs H Q):=by
 intro pins s σ H xs us Q I r h;obtain⟨p,ys,rfl,hq,q⟩:=h;obtain⟨u,rfl,rx⟩:=zH6 r;cases rx;have fin:∀(its:List Value),zA7 ys its->ys.length<=sizeLine->∀(h':Heap) (c':Nat),(∀b o',s.heap.get? b=some o'->h'.get? b=some o')->
   h'.get? s.heap.objs.size=some { cls:=.type "list",dict:=none,data:=.seq its.toArray c',slots:=#[] }->EP X pins σ Q (.ref s.heap.objs.size) { s with heap:=h' }:=λits r' hz h' c' kp e=>
  ⟨.ref s.heap.objs.size,_,I.laid (t':=s.toks) kp (wG5 _) (show ObjOk X.prog X.w _ h' _ (.lst ys) from ⟨hz,its,c',r',e⟩),rfl,q _ (I.hok.fresh (wG5 _))⟩
 rcases hq with hq | hq
 ·obtain⟨its,r',pl,hz⟩:=I.list hq;have aF:=r'.length;obtain⟨o,ho,hc,n,hd⟩:=pl.isList;exact call_list_seq p (.inl rfl) ho hc hd (λh' c' kp e=>fin its r' hz h' c' kp e) (by simp only[wHh]<;>omega)
 obtain⟨its,r',pl,hz⟩:=I.tuple hq;have aF:=r'.length;obtain⟨o,ho,hc,n,hd⟩:=pl;exact call_list_seq p (.inr rfl) ho hc hd (λh' c' kp e=>fin its r' hz h' c' kp e) (by simp only[wHh]<;>omega)
def tyV (K:W.Frag) (T:String) (x:V) (H:Hp):Prop:=match x with
 | .str _=>T = "str"
 | .int _=>T = "int"
 | .ref p=>(T = "list"/\∃xs,SqL K H p xs)∨(T = "tuple"/\∃o,K.lookup p=some o/\o.cls=.type "tuple"/\o.dict=none)∨
   (T = "dict"/\((∃aG,H p=some (.dK aG))∨∃aG,H p=some (.dT aG)))∨(T = "set"/\∃S n,H p=some (.set S n))
 | _=>False
def zMY {pins:List (Addr × Obj)} {σ:St} {H:Hp} {s:Shared} {T:String} {x:V} {v:Value} (I:Inv X pins σ H s) (r:zBl x v) (ty:tyV X.K T x H) :
  s.TypeIs v T/\∀a,v=.ref a->∃ob,s.heap.get? a=some ob/\ob.dict=none:=by
 cases x with
 | str z=>
  obtain⟨t,rfl⟩:=r;cases (show T = "str" from ty);exact⟨typeIs_str s z t,λ_ e=>nomatch e⟩
 | int i=>
  obtain⟨t,rfl⟩:=r;cases (show T = "int" from ty);exact⟨typeIs_int s i t,λ_ e=>nomatch e⟩
 | ref p=>
  cases r;rcases ty with ⟨rfl,xs,hq⟩ | ⟨rfl,o,hk,hc,hd⟩ | ⟨rfl,hk⟩ | ⟨rfl,S,n,hk⟩
  ·obtain⟨its,_,pl,_⟩:=I.list hq;refine⟨pl.isList.typeIs,λa e=>?_⟩;cases e;obtain⟨o,n,e,c,hd,_⟩:=pl;exact⟨o,e,hd⟩
  ·refine⟨⟨o,I.kIn p o hk,hc⟩,λa e=>?_⟩;cases e;exact⟨o,I.kIn _ o hk,hd⟩
  ·have z:∃o,s.heap.get? p=some o/\o.ExactDict:=by
    rcases hk with ⟨aG,hk⟩ | ⟨aG,hk⟩
    ·obtain⟨_,_,_,_,o,_,_,e,ex,_⟩:=I.hok p _ hk;exact⟨o,e,ex⟩
    obtain⟨_,_,_,_,o,_,_,e,ex,_⟩:=I.hok p _ hk;exact⟨o,e,ex⟩
   obtain⟨o,e,ex⟩:=z;refine⟨⟨o,e,ex.1⟩,λa e2=>?_⟩;cases e2;exact⟨o,e,ex.2.1⟩
  obtain⟨o,_,_,_,e,ex,_⟩:=I.hok p _ hk;refine⟨⟨o,e,ex.1⟩,λa e2=>?_⟩;cases e2;exact⟨o,e,ex.2.1⟩
 | _=>exact wHI ty
def zRA (K:W.Frag) (T:String) (r:V->List V->Hp->VK->Prop) (to:TE):TE:=λσ H Q=>to σ H λx H1=>tyV K T x H1/\r x [] H1 Q
def tBM (K:W.Frag) (T:String) (r:V->List V->Hp->VK->Prop) (to:TE) (t:TA):TE:=λσ H Q=>to σ H λx H1=>tyV K T x H1/\t σ H1 λxs H2=>r x xs H2 Q
variable {o e:Expr} {es:List Expr} {to:TE} {t:TA} {name:Str} {apos aB:Pos} {T id:String} {r:V->List V->Hp->VK->Prop}
def zPI (pa:PlainAttrs T) (slot:Slot T name id) (jv:typeOf (.builtin id)=pure (.type "method_descriptor")) (hm:MtR X id r) (ho:PE X o to)
  (bQ:attributeBase o name X.env (eval o X.env)=eval o X.env:=by rfl) (bP:(apos.endLine == aB.line)=true:=by rfl):PE X (.Call (.Attribute o name apos) [] [] aB) (zRA X.K T r to):=by
 intro pins s σ H Q I h;refine wpAny_Call_method0_late bQ bP (thn (ho pins s σ H _ I h) λv s1 aA=>?_);obtain⟨x,H1,I1,r1,ty,q1⟩:=aA;obtain⟨h1,h2⟩:=zMY I1 r1 ty;exact⟨T,id,pa,slot,jv,h1,h2,Calls.callWith_builtin rfl (PySem.evalArgs_none (hm pins s1 σ H1 x [] v [] Q I1 r1 .nil q1))⟩
def zOo (pa:PlainAttrs T) (slot:Slot T name id) (jv:typeOf (.builtin id)=pure (.type "method_descriptor")) (hm:MtR X id r) (ho:PE X o to) (ha:PA X (e::es) t)
  (bQ:attributeBase o name X.env (eval o X.env)=eval o X.env:=by rfl)
  (gH:((backTo aB (starEach (e::es) X.env)).all (λx=>!x.1) && (backToKw aB (keywordEach [] X.env)).all (λx=>x.1.isSome)
   && decide ((e::es).length+([]:List Keyword).length+(if ([]:List Keyword).isEmpty then 0 else 1) < 30))=true:=by rfl)
  (bP:(apos.endLine == aB.line)=true:=by rfl) (hs:starEach (e::es) X.env=(false,eval e X.env)::starEach es X.env:=by rfl) (aU:(backTo aB (starEach es X.env)).any (·.1)=false:=by rfl) :
  PE X (.Call (.Attribute o name apos) (e::es) [] aB) (tBM X.K T r to t):=by
 intro pins s σ H Q I h;refine wpAny_Call_method_late bQ gH bP rfl (thn (ho pins s σ H _ I h) λv s1 aA=>?_);obtain⟨x,H1,I1,r1,ty,q1⟩:=aA;obtain⟨h1,h2⟩:=zMY I1 r1 ty;refine⟨T,id,pa,slot,jv,h1,h2,?_⟩;have hA:=ha aB pins s1 σ H1 _ I1 q1;rw[hs] at hA ⊢;refine Calls.callWith_builtin (by show (false || (backTo aB (starEach es X.env)).any (·.1))=false;rw[aU]<;>rfl) (Calls.evalArgs_plain ?_);exact thn hA λus s2 ⟨vs,H2,I2,r2,q2⟩=>hm pins s2 σ H2 x vs v us Q I2 r1 r2 q2
end
def MtM (X:Cx) (id:String) (r:V->List V->Hp->VK->Prop):Prop:=
 ∀(pins:List (Addr × Obj)) (s:Shared) (σ:St) (H:Hp) (x:V) (xs:List V) (v:Value) (us:List Value) (Q:VK),Inv X pins σ H s->zBl x v->zA7 xs us->r x xs H Q->
  wpAny (model X.prog X.w) X.A (call (.builtin id) (v::us)) (EP X pins σ Q) X.xe s
def zA7.one:∀{x:V} {us:List Value},zA7 [x] us->∃u,us=[u]/\zBl x u:=by
 intro x us h;cases h with
 | cons r h=>
  cases h;exact⟨_,rfl,r⟩
def zA7.two:∀{x y:V} {us:List Value},zA7 [x,y] us->∃u v,us=[u,v]/\zBl x u/\zBl y v:=by
 intro x y us h;cases h with
 | cons r h=>
  cases h with
  | cons q h=>
   cases h;exact⟨_,_,rfl,r,q⟩
def zA7.zero:∀{us:List Value},zA7 [] us->us=[]
 | _,.nil=>rfl
theorem zA7.eraseIdx:∀{xs:List V} {us:List Value} (i:Nat),zA7 xs us->zA7 (xs.eraseIdx i) (us.eraseIdx i)
 | _,_,_,.nil=>.nil
 | _,_,0,.cons _ t=>t
 | _,_,i+1,.cons r t=>.cons r (zA7.eraseIdx i t)
def zA7.reverse {xs:List V} {us:List Value} (h:zA7 xs us):zA7 xs.reverse us.reverse:=by
 induction h with
 | nil=>exact .nil
 | cons r t ih=>rw[List.reverse_cons,List.reverse_cons];exact zA7.append ih (.cons r .nil)
theorem zA7.rep {xs:List V} {us:List Value} (h:zA7 xs us):∀k:Nat,zA7 (List.replicate k xs).flatten (List.replicate k us).flatten
 | 0=>.nil
 | k+1=>by rw[wHV,wHV,wIb,wIb];exact zA7.append h (zA7.rep h k)
theorem zHk (its:List Value):∀(k:Nat) (aE:List Value),
  List.foldl (λx1 x2=>x1++x2) aE.toArray (List.replicate k its.toArray)=(aE++(List.replicate k its).flatten).toArray
 | 0,aE=>by simp
 | k+1,aE=>by
  have e:aE.toArray++its.toArray=(aE++its).toArray:=by simp
  have e2:(aE++its)++(List.replicate k its).flatten=aE++(List.replicate (k+1) its).flatten:=by rw[wHV,wIb,wHD]
  rw[← e2,← zHk its k (aE++its),← e,wHV,List.foldl_cons]
section
variable {X:Cx} {pins:List (Addr × Obj)} {σ:St} {H:Hp} {s:Shared} {l:Addr} {xs ys:List V}
def Inv.lset {its its':List Value} {n:Nat} {f:Array Value->Array Value} {t':Nat} (I:Inv X pins σ H s) (hH:H l=some (.lst xs))
  (e:s.heap.get? l=some { cls:=.type "list",data:=.seq its.toArray n }) (hf:f its.toArray=its'.toArray) (hv:zA7 ys its') (hz:ys.length<=sizeLine) :
  Inv X pins σ (upd H l (.lst ys)) { s with heap:=s.heap.update l (Obj.mapSeq f),toks:=t' }:=by
 have q:=PySem.IsL.update e f;rw[hf] at q;refine I.write (x:=l) (e:=l) (by rw[hH];exact trivial) (.inl rfl) (λb' u hb hu=>(wHu s.heap (Obj.mapSeq f) (Ne.symm hb)).trans hu) ⟨_,q⟩ ?_;exact⟨hz,its',_,hv,q⟩
def Inv.lnew {its:List Value} {t':Nat} (I:Inv X pins σ H s) (hv:zA7 ys its) (hz:ys.length<=sizeLine) :
  Inv X pins σ (upd H s.heap.objs.size (.lst ys)) { s with heap:=s.heap.push { cls:=.type "list",data:=.seq its.toArray },toks:=t' }:=
 I.laid (λ_ _ q=>wG3 _ q) (wG5 _) ⟨hz,its,0,hv,wHb _ rfl⟩
def Inv.fresh (I:Inv X pins σ H s):H s.heap.objs.size=none:=I.hok.fresh (wG5 _)
def Inv.lstM (I:Inv X pins σ H s) (hH:H l=some (.lst xs)):xs.length<=sizeLine/\∃(its:List Value) (n:Nat),zA7 xs its/\xs.length=its.length/\s.heap.get? l=some { cls:=.type "list",data:=.seq its.toArray n }:=by obtain⟨z,its,n,r,e⟩:=I.hok l _ hH;exact⟨z,its,n,r,r.length,e⟩
def zMv {n:Nat} (h:n<=sizeLine):Builtin.List.listTooLong n=false:=by unfold Builtin.List.listTooLong;exact wHy ∅
end
section
variable {X:Cx}
inductive RApp (x:V) (vs:List V) (H:Hp) (Q:VK):Prop
 | mk (l:_) (xs:_) (y:_):(x=.ref l)->(vs=[y])->(H l=some (.lst xs))->(xs.length < sizeLine)->(Q .non (upd H l (.lst (xs++[y]))))->RApp x vs H Q
def zOg:V->List V->Hp->VK->Prop:=λx vs H Q=>RApp x vs H Q
def zAx:MtM X "list.append" zOg:=by intro pins s σ H x vs v us Q I rx rv h;obtain⟨l,xs,y,rfl,rfl,hH,hz,q⟩:=h;cases rx;obtain⟨u,rfl,ru⟩:=rv.one;obtain⟨z,its,n,r,hl,e⟩:=I.lstM hH;refine call_meets wHG ⟨_,e,rfl⟩ F.entry_list_append (F.args_list_append_2 _ _) (PySem.list_append l its.toArray n u (by rw[wHh];omega)) ⟨e,?_⟩;refine⟨.non,_,I.lset (its':=its++[u]) hH e (by simp) (r.append (.cons ru .nil)) ?_,rfl,q⟩;rw[wG7,wHM];omega
inductive RClear (x:V) (vs:List V) (H:Hp) (Q:VK):Prop
 | mk (l:_) (xs:_):(x=.ref l)->(vs=[])->(H l=some (.lst xs))->(Q .non (upd H l (.lst [])))->RClear x vs H Q
def zP3:V->List V->Hp->VK->Prop:=λx vs H Q=>RClear x vs H Q
def zM1:MtM X "list.clear" zP3:=by intro pins s σ H x vs v us Q I rx rv h;obtain⟨l,xs,rfl,rfl,hH,q⟩:=h;cases rx;have hus:=rv.zero;subst hus;obtain⟨z,its,n,r,hl,e⟩:=I.lstM hH;refine call_meets F.slot_list_clear ⟨_,e,rfl⟩ F.entry_list_clear (F.args_list_clear_1 _) (AutoSeq1.list_clear_list_0 l its.toArray n (by rw[wHh];omega)) ⟨e,?_⟩;exact⟨.non,_,I.lset (its':=[]) (ys:=[]) hH e rfl .nil (wHK _),rfl,q⟩
inductive RCat (x:V) (y:V) (H:Hp) (Q:VK):Prop
 | mk (l:_) (b:_) (xs:_) (zs:_):(x=.ref l)->(y=.ref b)->(H l=some (.lst xs))->(H b=some (.lst zs))->(xs.length+zs.length<=sizeLine)->(∀p,H p=none->Q (.ref p) (upd H p (.lst (xs++zs))))->RCat x y H Q
def zRH:R2:=λx y H Q=>RCat x y H Q
def zBL:OpR X (binaryOp .Add) zRH:=by
 intro pins s σ H x y v u Q I rx ry h;obtain⟨l,b,xs,zs,rfl,rfl,hH,hB,hz,q⟩:=h;cases rx;cases ry;obtain⟨z,its,n,r,hl,e⟩:=I.lstM hH;obtain⟨z2,dF,n2,r2,eB,e2⟩:=I.lstM hB;refine PySem.P.add_list e e2 ?_ (by rw[wHh,wHh];omega);have ea:its.toArray++dF.toArray=(its++dF).toArray:=by simp
 rw[ea];exact⟨.ref _,_,I.lnew (t':=s.toks) (r.append r2) (by rw[wG7];omega),rfl,q _ I.fresh⟩
inductive RRep (x:V) (y:V) (H:Hp) (Q:VK):Prop
 | mk (l:_) (k:_) (xs:_):(x=.ref l)->(y=.int k)->(H l=some (.lst xs))->(-(2 ^ 63)<=k)->(k < 2 ^ 63)->(xs.length*k.toNat<=sizeLine/\
 ∀p,H p=none->Q (.ref p) (upd H p (.lst (List.replicate k.toNat xs).flatten)))->RRep x y H Q
def zRF:R2:=λx y H Q=>RRep x y H Q
def zO2 {α:Type} (xs:List α) (k:Nat):(List.replicate k xs).flatten.length=k*xs.length:=by
 induction k with
 | zero=>simp
 | succ k ih=>rw[wHV,wIb,wG7,ih,Nat.succ_mul,Nat.add_comm]
theorem zGM:OpR X (binaryOp .Mult) zRF:=by
 intro pins s σ H x y v u Q I rx ry h;obtain⟨l,k,xs,rfl,rfl,hH,h1,h2,hz,q⟩:=h;cases rx;obtain⟨t,rfl⟩:=ry;obtain⟨z,its,n,r,hl,e⟩:=I.lstM hH;have aF:its.toArray.size*k.toNat<=sizeLine:=by rw[wHh,← hl];exact hz
 have oF:¬its.toArray.size*k.toNat > (2 ^ 63-1) / 8:=by
  have:(sizeLine:Nat)<=(2 ^ 63-1) / 8:=by decide
  omega
 have cP:¬(!Builtin.List.listFitsIndex k)=true:=by rw[fitsIndex_both h1 h2];exact wHf
 have jF:¬Builtin.List.listTooLong (its.toArray.size*k.toNat)=true:=by rw[zMv aF];exact wHf
 have og:List.foldl (λx1 x2=>x1++x2) #[] (List.replicate (if its.toArray.isEmpty=true then 0 else k.toNat) its.toArray)=(List.replicate k.toNat its).flatten.toArray:=by
  have f0:∀m:Nat,List.foldl (λx1 x2=>x1++x2) #[] (List.replicate m its.toArray)=(List.replicate m its).flatten.toArray:=λm=>by have:=zHk its m [];rw[List.nil_append] at this;exact this
  rw[f0];cases its with
  | nil=>simp
  | cons a r'=>rw[wGZ (by simp)]
 refine wpAny_binaryOp_repeat_ref (T:="list") (U:="int") ⋯ ⟨_,e,rfl⟩ (λs'=>typeIs_int s' k t) noFill_list_mul F.fills_int_mul F.slot_int_rmul repeat_list F.slot_int_index.lookup
  (call_meets F.slot_int_rmul (typeIs_int s k t) F.entry_int_rmul (F.args_int_rmul_2 _ _) (int___rmul___int_list k t l its.toArray n)
   ⟨e,rfl,⟨_,e,rfl⟩,call_meets F.slot_list_mul ⟨_,e,rfl⟩ F.entry_list_mul (F.args_list_mul_2 _ _) (AutoListH.list___mul___list_int_3 l its.toArray n k t cP oF jF) ⟨e,?_⟩⟩)
 rw[og];exact⟨.ref _,_,I.lnew (t':=s.toks) (r.rep k.toNat) (by rw[zO2,Nat.mul_comm];exact hz),rfl,q _ I.fresh⟩
end
end L2
namespace Att
open PySem PySem.W PySem.Calls PyProof.Rows
def zET {P:Params} {h:Heap}:∀(ns:List Int) (vs:List Value),WellAll P h vs (ns.map WData.int)->IntsAre vs ns:=by
 intro ns
 induction ns with
 | nil=>
  intro vs w;rw[List.map_nil] at w;cases w;exact .nil
 | cons n ns ih=>
  intro vs w;rw[wHW] at w;cases w with
  | cons a b=>
   cases a;exact .cons _ _ (ih _ b)
def zJS {l:OpenLaw} {n:Nat} (hn:l.most=some n) {P:Params} {h:Heap} {args:List WData} {vals:List Value}
  (eP:l.row.toRowW.claim.pre args=true) (iB:WellAll P h vals args) :
  ∃a vs ns,vals=[Value.ref a]/\args=[WData.list (ns.map WData.int)]/\h.get? a=some { cls:=.type "list",data:=.seq vs.toArray }/\IntsAre vs ns/\ns.length<=n:=by
 have hsh:WShape.hasAll [] args [.list .int]=true:=(pre_splitW eP).1;have hc:l.pre.holds [] { args:=args }=true:=(pre_splitW eP).2;obtain⟨d,r,rfl,h1,h2⟩:=hasAllW_cons hsh;obtain rfl:=hasAllW_nil h2;obtain⟨xs,rfl,h3⟩:=hasW_list h1;obtain⟨ns,rfl⟩:=items_int h3;have aF:ns.length<=n:=by
  unfold OpenLaw.pre at hc;have h4:(WTm.not (.lt (.lit (.int (n:Int))) (.len (.arg 0)))).holds [] { args:=[.list (ns.map .int)] }=true:=by have h4:=(holds_andW hc).1;rw[hn] at h4;exact h4
  have h5:=condW_of h4 (w_not (w_lt w_lit (w_len_list (w_arg rfl))));rw[wGX] at h5;refine Nat.le_of_not_lt λq=>?_;have q':(n:Int) < ((ns.length:Nat):Int):=by omega
  first
   | (rw[wHB q'] at h5;exact absurd h5 ⋯)
   | (simp at h5;omega)
 cases iB with
 | cons w1 w2=>
  cases w2;cases w1 with
  | list ho eX=>exact⟨_,_,ns,rfl,rfl,ho,zET ns _ eX,aF⟩
def zKr (l:OpenLaw) (args:List WData):l.row.toRowW.claim.post args (.bool true) args=true:=
 postW_of (r:=l.row.toRowW) (X:=(true == true))
  (show WShape.has [] (.bool true) .bool=true by first | rfl | decide | simp[WShape.has,WShape.arms,WShape.armsAll])
  (show (WTm.eq .res (.lit (.bool true))).value [] { args:=args,res:=some (.bool true),after:=args }=some (.bool (true == true)) from w_eq_bool (w_res rfl) w_lit) rfl
def attach_call {l:OpenLaw} {n:Nat} {q:Program} {loose:List Str} {XP:(Str->Option Value)->Heap->Prop} {YP:World->Heap->Prop} {d:DefRec}
  (hn:l.most=some n) (jK:d.params.defaults=[])
  (call:∀(w:World) (s₀ s₁:Shared) (mg mb:Str->Option Value) (fa:Addr) (o:Obj) (pm cd doc:Value) (a:Addr) (vs:List Value) (ns:List Int),
   Ground q loose [] XP w s₀ mg mb s₁.heap->YP w s₁.heap->
   s₁.heap.get? fa=some o->o.data=.func (docDef d.name d.params d.body d.scope pm cd doc)->s₁.heap.CodeRec cd d.name->mg d.name=some (.ref fa)->
   s₁.heap.get? a=some { cls:=.type "list",data:=.seq vs.toArray }->IntsAre vs ns->ns.length<=n->s₁.gens=#[]->
   codeAny (model l.prog w) callerA (.call (.ref fa) ⟨[.ref a],[]⟩) (λr s'=>r=.ok (.ret (.bool true))/\OldK s₁.heap s'.heap/\s'.os=s₁.os/\AllBare s'.gens) s₁) :
  WalkO q loose XP YP l.row.toRowW d [] (λf vs=>PySem.call f vs):=by
 intro w s₀ s₁ mg mb G Y fa o pm cd doc dV kV ho hd aQ hD om hg args vals as eP hlay hrd iB hlo;obtain rfl:dV=.none:=Dflts.none hD jK;obtain rfl:kV=.none:=Dflts.noKw hD;obtain⟨a,vs,ns,rfl,rfl,gD,dN,aF⟩:=zJS hn eP iB;refine enter_call (codeAny_mono (call w s₀ s₁ mg mb fa o pm cd doc a vs ns G Y ho (fd_plain hd) aQ om gD dN aF hg) λr s' hq=>?_);obtain⟨rfl,h2,h3,h4⟩:=hq;exact⟨.inl ⟨.bool true,.bool true,[],rfl,λ_=>rfl,.bool true,zKr l _,λ_=>⟨List.Pairwise.nil,λ_ hm=>(nomatch hm)⟩⟩,h2,h3,h4⟩
end Att
namespace L2
open PySem PySem.Spec PyProof.Rows
theorem zDg:∀{vs:List Value} {ns:List Int},IntsAre vs ns->zA7 (ns.map V.int) vs
 | _,_,.nil=>.nil
 | _,_,.cons n t h=>.cons ⟨t,rfl⟩ (zDg h)
def zRj (H:Hp):Prop:=∀b,H b=none∨∃o xs,H b=some (.frz o (.lst xs))
def zM7 {P:Program} {w:World} {K:W.Frag} {mg mb:Str->Option Value} {CX:CXT} {k:Nat} {fa a:Addr} {fd:FuncData} {x:Str} {sp:Sp} {s₁:Shared} {vs:List Value} {ns:List Int}
  (KX:K.In s₁.heap) (cO:s₁.heap.Ns mainGlobals mg) (hb:s₁.heap.Ns builtinsNs mb) (hbb:∀x:Str,x≠"__name__"->mb x=bootBuiltins x) (ou:s₁.heap.NoLimit) (iF:s₁.heap.NoSeer) (hg:s₁.gens=#[])
  (ha:s₁.heap.get? a=some { cls:=.type "list",data:=.seq vs.toArray }) (hi:IntsAre vs ns) (hl:ns.length<=sizeLine) (hr:Room k callerA)
  (F:∀base:Heap,K.In base->base.Ns mainGlobals mg->FnOk P w K mg base CX k fa fd [x] sp) (jQ:∀(s:Shared) (u:Value),BindsTo s fd ⟨[u],[]⟩ [(x,u)])
  (cM:∀H:Hp,zRj H->SqL K H a (ns.map V.int)->sp [.ref a] H (λv _=>v=.bl true) λ_ _ _=>False)
  (oP:∀H e s',CX [] H s₁ (λ_ _ _=>False) e s'->False) :
  codeAny (model P w) callerA (.call (.ref fa) ⟨[.ref a],[]⟩) (λr s'=>r=.ok (.ret (.bool true))/\OldK s₁.heap s'.heap/\s'.os=s₁.os/\AllBare s'.gens) s₁:=by
 have rv:=zDg hi;have nD:=hi.length;have core:∀H:Hp,zRj H->SqL K H a (ns.map V.int)->HOk P w H s₁.heap->(∀b,H b≠none->b=a)->(H a≠none->K.lookup a=none)->
   codeAny (model P w) callerA (.call (.ref fa) ⟨[.ref a],[]⟩) (λr s'=>r=.ok (.ret (.bool true))/\OldK s₁.heap s'.heap/\s'.os=s₁.os/\AllBare s'.gens) s₁:=by
  intro H hO hS hok hA hK;have bJ:∀{b:Addr} {o:Obj},s₁.heap.get? b=some o->H b=none->(zMB s₁.heap H).get? b=some o:=λe n=>zMA e n;have jo:∀{b:Addr} {o:Obj} {es:Array DictEntry} {ep:Nat},s₁.heap.get? b=some o->o.data=.dict es ep->H b=none:=λ{b o es ep} e d=>by
   cases q:H b with
   | none=>rfl
   | some u=>
    have e':b=a:=hA b (by rw[q];simp);subst e';rw[ha] at e;cases e;have d':Data.seq vs.toArray _=Data.dict es ep:=d;cases d'
  have fA:∀{b:Addr} {m:Str->Option Value},s₁.heap.Ns b m->(zMB s₁.heap H).Ns b m:=λ{b m} ⟨o,es,ep,e,d,r⟩=>⟨o,es,ep,bJ e (jo e d),d,r⟩;have hKb:K.In (zMB s₁.heap H):=λb o e=>bJ (KX b o e) (by
   cases q:H b with
   | none=>rfl
   | some u=>
    have e':b=a:=hA b (by rw[q];simp);subst e';rw[hK (by rw[q];simp)] at e;cases e)
  have hM:Mod K mg (zMB s₁.heap H):=⟨hKb,fA cO,⟨mb,fA hb,hbb⟩,let ⟨mc,h1,h2⟩:=ou;⟨mc,fA h1,h2⟩,
   let ⟨mc,h1,h2⟩:=iF.statics;⟨mc,fA h1,h2⟩,let ⟨mm,h1,h2⟩:=iF.mods;⟨mm,fA h1,h2⟩,⟨mb,fA hb,hbb⟩,
   let ⟨g',bm,ob,h1,h2,h3,h4,h5⟩:=iF.main;⟨g',bm,ob,fA h1,h2,bJ h3 (by
    cases q:H bm with
    | none=>rfl
    | some u=>
     have e':bm=a:=hA bm (by rw[q];simp);subst e';rw[ha] at h3;cases h3;have h4':Value.type "list"=Value.type "module":=h4;exact absurd (Value.type.inj h4') ⋯),h4,h5⟩⟩
  have e0:Env0 P w K mg (zMB s₁.heap H) callerA [] s₁ H:=⟨rfl,hM,λb o e=>zOv e,wIf (zLb _ _),trivial,λb hb=>absurd (show b∈([]:List Addr) from hb) (by simp),hok,.of_eq hg⟩;refine codeAny_mono ((F _ hKb (fA cO)).run callerA [] s₁ H ⟨[.ref a],[]⟩ [.ref a] [.ref a] _ _ hr e0 (jQ s₁ (.ref a)) (.cons rfl .nil) (cM H hO hS)) λr s' h=>?_;cases r with
  | error e=>exact (oP H e s' h).elim
  | ok fl=>
   cases fl with
   | next=>exact wHI h
   | brk=>exact wHI h
   | cont=>exact wHI h
   | ret u=>
    obtain⟨v,H',os,bare,un,nV,r',q⟩:=h;have q':v=.bl true:=q;subst q';obtain rfl:u=Value.bool true:=r';refine⟨rfl,OldK.of_keep λb o e=>?_,os,bare⟩;cases q:H b with
    | none=>exact un.keep b o e q (by intro z;exact absurd (show b∈([]:List Addr) from z) (by simp)) (by simp)
    | some u=>
     rcases hO b with z | ⟨ob,xs,z⟩
     ·rw[q] at z;cases z
     have z2:=un.frzs b ob _ z;obtain⟨e1,_⟩:=hok b _ z;obtain⟨e2,_⟩:=nV b _ z2;rw[e] at e1;cases e1;exact e2
 cases hk:K.lookup a with
 | some o=>
  have e:=KX a o hk;rw[ha] at e;cases e;refine core (λ_=>none) (λ_=>.inl rfl) (.inr ⟨_,vs.toArray,_,hk,rfl,rfl,rfl,by rw[wHh,nD];exact hl,by simpa using rv⟩) (λb u z=>by have z':(none:Option HO)=some u:=z;cases z') (λb z=>absurd rfl z) λz=>absurd rfl z
 | none=>
  refine core (λb=>if b=a then some (.frz { cls:=.type "list",data:=.seq vs.toArray } (.lst (ns.map V.int))) else none) (λb=>?_) (.inl (.inr ⟨{ cls:=.type "list",data:=.seq vs.toArray },wG1 rfl⟩)) (λb u z=>?_) (λb z=>?_) λ_=>hk
  ·by_cases hb:b=a
   ·exact .inr ⟨_,_,wG1 hb⟩
   exact .inl (wGZ hb)
  ·by_cases hb:b=a
   ·have z':=(wG1 hb).symm.trans z;cases z';subst hb;exact⟨ha,by rw[wGX];exact hl,vs,_,rv,ha⟩
   have z':=(wGZ hb).symm.trans z;cases z'
  by_cases hb:b=a
  ·exact hb
  exact absurd (wGZ hb) z
abbrev KOf {K:W.Frag} {h:Heap} (_:K.In h):W.Frag:=K
def zNC {l:PySem.W.OpenLaw} {n k:Nat} {q:Program} {loose:List Str} {XP:(Str->Option Value)->Heap->Prop} {YP:World->Heap->Prop} {d:DefRec} {K:Params->W.Frag} {CX:World->CXT} {sp:World->Sp} {x:Str}
  (hn:l.most=some n) (kS:n<=sizeLine) (jK:d.params.defaults=[]) (hq:importsNone q=true) (hr:Room k callerA)
  (hY:∀(w:World) (h:Heap),YP w h->(K w.params).In h)
  (F:∀(w:World) (mg:Str->Option Value) (fa:Addr) (h:Heap),(K w.params).In h->h.Ns mainGlobals mg->mg d.name=some (.ref fa)->
   ∃fd:FuncData,(∀(s:Shared) (u:Value),BindsTo s fd ⟨[u],[]⟩ [(x,u)])/\
    ∀base:Heap,(K w.params).In base->base.Ns mainGlobals mg->FnOk l.prog w (K w.params) mg base (CX w) k fa fd [x] (sp w))
  (cM:∀(w:World) (H:Hp) (a:Addr) (ns:List Int),ns.length<=n->zRj H->SqL (K w.params) H a (ns.map V.int)->sp w [.ref a] H (λv _=>v=.bl true) λ_ _ _=>False)
  (oP:∀(w:World) (H:Hp) (s:Shared) (e:Value) (s':Shared),CX w [] H s (λ_ _ _=>False) e s'->False) :
  PySem.W.WalkO q loose XP YP l.row.toRowW d [] (λf vs=>PySem.call f vs):=by
 refine Att.attach_call hn jK λw s₀ s₁ mg mb fa o pm cd doc a vs ns G Y ho hd aQ om gD dN aF hg=>?_;have KX:=hY w _ Y;obtain⟨fd,hb,hF⟩:=F w mg fa _ KX G.T.g om;exact zM7 KX G.T.g G.T.b G.T.builtins G.T.nolimit (G.T.seer hq) hg gD dN (wHe aF kS) hr hF hb (λH hO hS=>cM w H a ns aF hO hS) λH e s'=>oP w H s₁ e s'
def zBI (s:Stmt) (j:Nat):Stmt:=match s with
 | .ClassDef _ _ _ body _ _ _ _ _ _ _=>body.getD j (.Pass ⟨0,0,0,0⟩)
 | _=>.Pass ⟨0,0,0,0⟩
def zBV (s:Stmt):Arguments:=match s with
 | .FunctionDef _ a _ _ _ _ _ _ _ _=>a
 | _=>{ posonlyargs:=[],args:=[],vararg:=none,kwonlyargs:=[],kw_defaults:=[],kwarg:=none,defaults:=[] }
def zBf (s:Stmt):List Stmt:=match s with
 | .FunctionDef _ _ b _ _ _ _ _ _ _=>b
 | _=>[]
def zM (s:Stmt):Scope:=match s with
 | .FunctionDef _ _ _ _ _ _ sc _ _ _=>sc
 | _=>{ kind:=.function,names:=[],isGenerator:=false,isCoroutine:=false }
abbrev CX0:CXT:=λ_ _ _ _ _ _=>False
abbrev E0:XK:=λ_ _ _=>False
def zC9 {X:Cx}:zDy CX0 X E0:=λ_ _ _ _ _ _ _ h=>h.elim
structure Fun (K:W.Frag) (x qual:Str) (st:Stmt) (f:Addr) (fd:FuncData):Prop where
 ex:∃(oc:Value) (od:Option Addr) (kV doc pm:Value) (an:Option Addr) (cdv ct:Value) (dX:Array (Option Value)),
  fd=W.fnOf x qual (zBV st) (zBf st) (zM st) .none kV doc pm an cdv ct/\K.lookup f=some ⟨oc,od,.func fd,dX⟩/\W.codeIn K cdv qual=true
 kp:W.keepIn K (.ref f)=true
section
variable {P:Program} {w:World} {K:W.Frag} {mg:Str->Option Value} {base:Heap}
def Fun.ok {x qual:Str} {st:Stmt} {f:Addr} {fd:FuncData} {N ps:List Str} {k:Nat} {sp:Sp} (F:Fun K x qual st f fd) (S:FnScope N ps (zM st)) (len:∀vs H Q E,sp vs H Q E->vs.length=ps.length)
  (aW:∀(cdv:Value) (A:Around) (outer:List Env) (s:Shared) (H:Hp) (vs:List V) (Q:VK) (E:XK),Room k (A.deeper (envOfC qual (zM st) s.heap.objs.size f cdv))->sp vs H Q E->
   ∃t,PSs (zDZ CX0 P w K mg base N qual (zM st) f cdv A outer s H E).nox (zBf st) t/\t { nx:=λ_ H'=>Q .non H',rt:=Q } (zD5 N vs) H):FnOk P w K mg base CX0 (k+1) f fd ps sp:=by
 obtain⟨oc,od,kV,doc,pm,an,cdv,ct,dX,rfl,lk,aQ⟩:=F.ex;refine zQh lk aQ S len λA outer s H vs Q E hr cM=>?_;obtain⟨t,h,q⟩:=aW cdv A outer s H vs Q E hr cM;exact⟨t,h.nox,q⟩
def Fun.binds {x qual:Str} {st:Stmt} {f:Addr} {fd:FuncData} {ps:List Str} (F:Fun K x qual st f fd)
  (h:∀(kV doc pm:Value) (an:Option Addr) (cdv ct:Value) (us:List Value),us.length=ps.length->bindArgs (W.fnOf x qual (zBV st) (zBf st) (zM st) .none kV doc pm an cdv ct) ⟨us,[]⟩=pure (ps.zip us)):zAg K fd ps []:=by
 obtain⟨oc,od,kV,doc,pm,an,cdv,ct,dX,rfl,lk,aQ⟩:=F.ex;exact .all (h kV doc pm an cdv ct)
def zQg {x qual:Str} {st:Stmt} {f:Addr} {oc:Value} {od an:Option Addr} {dX:Array (Option Value)} {kV doc pm cdv ct:Value} (l:K.lookup f=some ⟨oc,od,.func (W.fnOf x qual (zBV st) (zBf st) (zM st) .none kV doc pm an cdv ct),dX⟩)
  (c:W.codeIn K cdv qual=true) (k:W.keepIn K (.ref f)=true):Fun K x qual st f (W.fnOf x qual (zBV st) (zBf st) (zM st) .none kV doc pm an cdv ct):=⟨⟨oc,od,kV,doc,pm,an,cdv,ct,dX,rfl,l,c⟩,k⟩
end
def zAm {n:Nat} (h:n<=1000):n < sizeLine:=wHF h ⋯
section
variable {X:Cx}
def pv (i:Nat) {x:Str} {pos:Pos} (hN:X.N[i]?=some x:=by rfl) (hv:Vis X.env.scope x:=by first | exact Or.inl rfl | exact Or.inr (Or.inl rfl) | exact Or.inr (Or.inr rfl)) (hd:(x == ("__debug__":Str))=false:=by decide)
  (aQ:(x == ("__classdict__":Str))=false:=by decide):PE X (.Name x pos) (zRm i):=zPE hN hv hd aQ
end
def zCf {A B:Prop} (h:B):if false=true then A else B:=by rw[wGZ wHf];exact h
def zGx {A B:Prop} (h:A):if true=true then A else B:=by rw[wG1 rfl];exact h
def zCw {c A B:Prop} [Decidable c] (h1:c->A) (h2:¬c->B):if c then A else B:=by
 by_cases h:c
 ·rw[wG1 h];exact h1 h
 rw[wGZ h];exact h2 h
def zAf (H H':Hp):Prop:=∀b o,H b=some o->H' b=some o
def zAf.refl (H:Hp):zAf H H:=λ_ _ h=>h
def zAf.trans {H H1 H2:Hp} (a:zAf H H1) (b:zAf H1 H2):zAf H H2:=λc o h=>b c o (a c o h)
def zAf.free {H H':Hp} (e:zAf H H') {l:Addr} (h:H' l=Option.none):H l=Option.none:=by
 cases q:H l with
 | none=>rfl
 | some o=>
  rw[e l o q] at h;cases h
def zAf.seq {K:W.Frag} {H H':Hp} {a:Addr} {xs:List V} (e:zAf H H') (h:SqL K H a xs):SqL K H' a xs:=by
 rcases h with (h | ⟨o,h⟩) | h
 ·exact .inl (.inl (e _ _ h))
 ·exact .inl (.inr ⟨o,e _ _ h⟩)
 exact .inr h
def Sm (i:Int):Prop:=i.natAbs < 2 ^ 9000
def Sm.log {i:Int} (h:Sm i):i.natAbs.log2 < 9000:=by
 by_cases h0:i.natAbs=0
 ·rw[h0];nofun
 exact (Nat.log2_lt h0).mpr h
def zP8:(10:Nat) ^ 200 < 2 ^ 9000:=by nofun
def Sm.of {i:Int} (h:i.natAbs<=10 ^ 200):Sm i:=wHF h zP8
def Sm.bits {i:Int} (h:Sm i):Builtin.Int.intBits i<=2 ^ 20:=by
 have e:(2:Nat) ^ 20=1048576:=by decide
 have l:=h.log;unfold Builtin.Int.intBits
 split
 ·exact wHK _
 rw[e];omega
section
variable {X:Cx}
def zMl:OpR X (binaryOp .FloorDiv) (rI (λ_ j=>0 < j/\Sm j) λi j=>.int (i / j)):=opI λi j _ _ _ _ _ hc q=>by have h1:(0:Int) < j:=hc.1;exact floordiv_int ∅ (by rw[Int.fdiv_eq_ediv_of_nonneg i ∅];exact q) (.inl (PyProof.noPylong_of_log2 hc.2.log))
inductive RIsI (K:W.Frag) (xs:List V) (H:Hp) (Q:VK):Prop
 | mk (x:_) (n:_) (t:_) (b:_):(xs=[x,.ty n])->TyOf K H x t->(W.kitOne K t (.type n)=some b)->(Q (.bl b) H)->RIsI K xs H Q
def zIq:zB6 X (.builtin "isinstance") (λxs H Q=>RIsI X.K xs H Q):=by intro pins s σ H xs us Q I r h;obtain⟨x,n,t,b,rfl,ty,e,q⟩:=h;obtain⟨u,w',rfl,r1,r2⟩:=zLD r;cases (show w'=Value.type n from r2);exact zKW I r1 ty e λtk=>⟨.bl b,H,I.tok _,rfl,q⟩
end
def zNq {p A B:Prop} [Decidable p] (h:p) (k:A):if decide p=true then A else B:=by rw[wG1 (wHB h)];exact k
def zNp {p A B:Prop} [Decidable p] (h:¬p) (k:B):if decide p=true then A else B:=by rw[wGZ (by rw[wHy h];exact wHf)];exact k
def zDK {p A B:Prop} [Decidable p] (h:p) (k:B):if (!decide p)=true then A else B:=by rw[wGZ (by rw[wHB h];exact wHf)];exact k
def zO7 {p A B:Prop} [Decidable p] (h:¬p) (k:A):if (!decide p)=true then A else B:=by rw[wG1 (by rw[wHy h];rfl)];exact k
def vi {x y:Int} (h:x=y):V.int x=V.int y:=congrArg _ h
def zC {H:Hp} {p:Addr} (h:H p=none) (o:HO):zAf H (upd H p o):=λb u q=>by rw[zO (zP q h)];exact q
def small {n:Nat} (h:n<=1000):n<=sizeLine:=wH9 (zAm h)
def Bd (n:Nat) (i:Int):Prop:=i.natAbs<=n
def Bd.mul {m n:Nat} {a b:Int} (h:Bd m a) (k:Bd n b):Bd (m*n) (a*b):=by unfold Bd at *;rw[wIc];exact Nat.mul_le_mul h k
def Bd.add {m n:Nat} {a b:Int} (h:Bd m a) (k:Bd n b):Bd (m+n) (a+b):=by unfold Bd at *;omega
def Bd.sub {m n:Nat} {a b:Int} (h:Bd m a) (k:Bd n b):Bd (m+n) (a-b):=by unfold Bd at *;omega
def Bd.mono {m n:Nat} {a:Int} (h:Bd m a) (k:m<=n):Bd n a:=wHe h k
def Bd.sm {n:Nat} {a:Int} (h:Bd n a) (k:n<=10 ^ 200):Sm a:=Sm.of (wHe h k)
def zA8:(2:Nat)<=sizeLine:=by decide
def gI (t b:Int):Int:=(Nat.gcd t.natAbs b.natAbs:Nat)
def zDY {t b:Int} (hb:b≠0):0 < gI t b:=by have:0 < Nat.gcd t.natAbs b.natAbs:=Nat.gcd_pos_of_pos_right _ ∅;unfold gI;omega
def zII {t b:Int}:gI t b*(t / gI t b)=t:=Int.mul_ediv_cancel' (Int.ofNat_dvd_left.mpr (Nat.gcd_dvd_left _ _))
def zHj {t b:Int}:gI t b*(b / gI t b)=b:=Int.mul_ediv_cancel' (Int.ofNat_dvd_left.mpr (Nat.gcd_dvd_right _ _))
def zLe {t b:Int} (hb:b≠0):Nat.gcd (t / gI t b).natAbs (b / gI t b).natAbs=1:=by
 have h1:(gI t b).natAbs*(t / gI t b).natAbs=t.natAbs:=by rw[← wIc,zII]
 have h2:(gI t b).natAbs*(b / gI t b).natAbs=b.natAbs:=by rw[← wIc,zHj]
 have h3:(gI t b).natAbs=Nat.gcd t.natAbs b.natAbs:=by unfold gI;omega
 have h4:Nat.gcd t.natAbs b.natAbs=(gI t b).natAbs*Nat.gcd (t / gI t b).natAbs (b / gI t b).natAbs:=by rw[← Nat.gcd_mul_left,h1,h2]
 have h5:0 < (gI t b).natAbs:=by have:=zDY (t:=t) hb;omega
 rw[h3] at h4 h5;exact (Nat.eq_of_mul_eq_mul_left h5 (by rw[Nat.mul_one];exact h4)).symm
def zLf {t b:Int} {n:Nat} (hb:b≠0) (h:Bd n t):Bd n (t / gI t b):=by
 have h1:(gI t b).natAbs*(t / gI t b).natAbs=t.natAbs:=by rw[← wIc,zII]
 have h5:0 < (gI t b).natAbs:=by have:=zDY (t:=t) hb;omega
 exact wHe (wHe (Nat.le_mul_of_pos_left _ h5) (wIf h1)) h
def zLg {t b:Int} {n:Nat} (hb:b≠0) (h:Bd n b):Bd n (b / gI t b):=by
 have h1:(gI t b).natAbs*(b / gI t b).natAbs=b.natAbs:=by rw[← wIc,zHj]
 have h5:0 < (gI t b).natAbs:=by have:=zDY (t:=t) hb;omega
 exact wHe (wHe (Nat.le_mul_of_pos_left _ h5) (wIf h1)) h
def zHi {t b:Int} (hb:0 < b):0 < b / gI t b:=by
 have h1:=zHj (t:=t) (b:=b);have h2:=zDY (t:=t) (b:=b) ∅;by_cases z:0 < b / gI t b
 ·exact z
 have:gI t b*(b / gI t b)<=0:=Int.mul_nonpos_of_nonneg_of_nonpos ∅ ∅;omega
structure Frac (n:Nat) (x y:Int):Prop where
 pos:0 < y
 one:Nat.gcd x.natAbs y.natAbs=1
 tb:Bd n x
 bb:Bd n y
def Frac.mono {m n:Nat} {x y:Int} (h:Frac m x y) (k:m<=n):Frac n x y:=⟨h.pos,h.one,h.tb.mono k,h.bb.mono k⟩
def Frac.made {n:Nat} {t b:Int} (hb:0 < b) (ht:Bd n t) (oM:Bd n b):Frac n (t / gI t b) (b / gI t b):=
 ⟨zHi hb,zLe ∅,zLf ∅ ht,zLg ∅ oM⟩
def zQC (t:TS):TS:=λD σ H=>∃M:St->Hp->Prop,t { D with nx:=M } σ H/\∀σ' H',M σ' H'->D.nx σ' H'
def zGG {X:Cx} {st:Stmt} {t:TS} (h:PS X st t):PS X st (zQC t):=by
 intro pins s σ H D I hw;obtain⟨M,h1,h2⟩:=hw;refine thn (h pins s σ H _ I h1) λf s1 q=>?_;cases f with
 | next=>obtain⟨σ',H',I',m⟩:=q;exact⟨σ',H',I',h2 _ _ m⟩
 | ret v=>exact q
 | brk=>exact q
 | cont=>exact q
def zAL (env:Env):List (Str × NameKind)->List (Str × Addr)->List (Str × Addr)
 | [],aE=>aE
 | (n,k)::r,aE=>if k=.free then zAL env r (match env.cells.lookup n with | some c=>(n,c)::aE | none=>aE) else zAL env r aE
theorem zFB (env:Env):∀(l:List (Str × NameKind)) (aE:List (Str × Addr)),(∀y∈l,y.2=.free->∃c,env.cells.lookup y.1=some c)->
  (forIn l aE λx cs=>if (x.2 == NameKind.free)=true then do let a ← cellOf env x.1;pure (ForInStep.yield ((x.1,a)::cs)) else pure (ForInStep.yield cs):Sem (List (Str × Addr)))=pure (zAL env l aE)
 | [],aE,_=>rfl
 | (n,k)::r,aE,h=>by
  have hr:=λaE=>zFB env r aE λy hy=>h y (wHR _ hy);rw[List.forIn_cons];by_cases hk:k=.free
  ·subst hk;obtain⟨c,hc⟩:=h (n,.free) wH4 rfl;have e1:cellOf env n=pure c:=by unfold cellOf;rw[show env.cells.lookup n=some c from hc]
   have e2:zAL env ((n,NameKind.free)::r) aE=zAL env r ((n,c)::aE):=by simp only[zAL,if_true];rw[show env.cells.lookup n=some c from hc]
   rw[e2,← hr];simp[e1]
  have e2:zAL env ((n,k)::r) aE=zAL env r aE:=by simp only[zAL,wGZ hk]
  have hb:(k == NameKind.free)=false:=by simpa using hk
  rw[e2,← hr];simp[hb]
theorem zEY {scope:Scope} {env:Env} (h:∀y∈scope.names,y.2=.free->∃c,env.cells.lookup y.1=some c):closureFor scope env=pure (zAL env scope.names []):=by have:=zFB env scope.names [] h;unfold closureFor;simpa using this
theorem zCK (env:Env) (x:Str) (c:Addr):∀(l:List (Str × NameKind)) (aE:List (Str × Addr)),(∀z d,aE.lookup z=some d->env.cells.lookup z=some d)->(zAL env l aE).lookup x=some c->env.cells.lookup x=some c
 | [],aE,h,e=>h x c e
 | (n,k)::r,aE,h,e=>by
  by_cases hk:k=.free
  ·subst hk;simp only[zAL,if_true] at e;cases q:env.cells.lookup n with
   | none=>rw[q] at e;exact zCK env x c r aE h e
   | some d=>
    rw[q] at e;refine zCK env x c r _ (λz d' hz=>?_) e;rw[List.lookup_cons] at hz;cases hb:z == n with
    | true=>rw[hb] at hz;cases hz;rw[beq_iff_eq.mp hb];exact q
    | false=>rw[hb] at hz;exact h z d' hz
  simp only[zAL,wGZ hk] at e;exact zCK env x c r aE h e
theorem zDL (env:Env) (x:Str):∀(l:List (Str × NameKind)) (aE:List (Str × Addr)),(∃c,aE.lookup x=some c)->∃c,(zAL env l aE).lookup x=some c
 | [],_,h=>h
 | (n,k)::r,aE,h=>by
  by_cases hk:k=.free
  ·subst hk;simp only[zAL,if_true];refine zDL env x r _ ?_;cases q:env.cells.lookup n with
   | none=>exact h
   | some d=>
    show ∃c,List.lookup x ((n,d)::aE)=some c;rw[List.lookup_cons];cases hb:x == n with
    | true=>exact⟨_,rfl⟩
    | false=>exact h
  simp only[zAL,wGZ hk];exact zDL env x r aE h
theorem zCL (env:Env) (x:Str):∀(l:List (Str × NameKind)) (aE:List (Str × Addr)),(x,NameKind.free)∈l->(∃c,env.cells.lookup x=some c)->∃c,(zAL env l aE).lookup x=some c
 | [],_,h,_=>by simp at h
 | (n,k)::r,aE,h0,hc=>by
  rcases wIn h0 with e | h
  ·cases e;obtain⟨c,q⟩:=hc;simp only[zAL,if_true];refine zDL env x r _ ?_;rw[q];exact⟨c,by rw[List.lookup_cons];simp⟩
  by_cases hk:k=.free
  ·subst hk;simp only[zAL,if_true];exact zCL env x r _ h hc
  simp only[zAL,wGZ hk];exact zCL env x r aE h hc
def zH3 (env:Env) (y:Str × NameKind):Str × NameKind:=if (y.2 == NameKind.free && env.scope.kind == .function && env.kindOf y.1 == some .cell)=true then (y.1,NameKind.cell) else y
def zLZ (env:Env) (y:Str × NameKind):(zH3 env y).1=y.1:=by unfold zH3;split<;>rfl
def zLY (env:Env) (y:Str × NameKind) (h:y.2≠.cell) (k:(zH3 env y).2=.cell∨(zH3 env y).2=.free):y.2=.free:=by
 unfold zH3 at k
 split at k
 ·rename_i hb
  simp only[wHw,beq_iff_eq] at hb;exact hb.1.1
 rcases k with z | z
 ·exact absurd z h
 exact z
def zKh (env:Env) (y:Str × NameKind) (h:y.2=.free):(zH3 env y).2=.cell∨(zH3 env y).2=.free:=by
 unfold zH3
 split
 ·exact .inl rfl
 exact .inr h
theorem zBH (env:Env) (x:Str):∀(names:List (Str × NameKind)),(names.map (zH3 env)).lookup x=(names.find? λy=>x == y.1).map λy=>(zH3 env y).2
 | []=>rfl
 | y::r=>by
  rw[wHW,List.find?_cons];obtain⟨n,k⟩:=y;have e:zH3 env (n,k)=(n,(zH3 env (n,k)).2):=by have:=zLZ env (n,k);exact Prod.ext this rfl
  rw[e,List.lookup_cons];cases hb:x == n with
  | true=>simp only[hb];rfl
  | false=>simp only[hb];exact zBH env x r
def zDS {env:Env} {k':NameKind} {x:Str} (bE:k'=.cell∨k'=.free) {names:List (Str × NameKind)} (hc:∀y∈names,y.2≠.cell) (h:(names.map (zH3 env)).lookup x=some k'):(x,NameKind.free)∈names:=by
 rw[zBH] at h;cases q:names.find? (λy=>x == y.1) with
 | none=>rw[q] at h;cases h
 | some y=>
  rw[q] at h;have e:(zH3 env y).2=k':=wG8 h;have hm:=List.mem_of_find?_eq_some q;have hx:x=y.1:=by simpa using List.find?_some q
  have hf:=zLY env y (hc y hm) (by rw[e];exact bE);rw[hx,← hf];exact hm
def zGF {env:Env} {x:Str} {names:List (Str × NameKind)} (h:(names.find? λy=>x == y.1).map (·.2)=some NameKind.free):(names.map (zH3 env)).lookup x=some .cell∨(names.map (zH3 env)).lookup x=some .free:=by
 rw[zBH];cases q:names.find? (λy=>x == y.1) with
 | none=>rw[q] at h;cases h
 | some y=>
  rw[q] at h;have e:y.2=.free:=wG8 h;rcases zKh env y e with z | z
  ·exact .inl (congrArg some z)
  exact .inr (congrArg some z)
def zIj {x:Str} {names:List (Str × NameKind)} (h:(names.find? λy=>x == y.1).map (·.2)=some NameKind.free):(x,NameKind.free)∈names:=by
 cases q:names.find? (λy=>x == y.1) with
 | none=>rw[q] at h;cases h
 | some y=>
  rw[q] at h;have e:y.2=.free:=wG8 h;have hx:x=y.1:=by simpa using List.find?_some q
  rw[hx,← e];exact List.mem_of_find?_eq_some q
def zMR (mp:List (Option Nat)) (σ:St):St:=mp.map λo=>o.bind λj=>(σ[j]?).join
structure BlkOk (X:Cx) (scope:Scope) (N':List Str) (mp:List (Option Nat)):Prop where
 nocell:∀y∈scope.names,y.2≠.cell
 kind:scope.kind=.function
 names:∀y∈scope.names,y.2=.local->scope.names.lookup y.1=some .local
 free:∀y∈scope.names,y.2=.free->X.env.kindOf y.1=some .cell∨X.env.kindOf y.1=some .free
 len:mp.length=N'.length
 slot:∀(i j:Nat) (x:Str),mp[i]?=some (some j)->N'[i]?=some x->X.N[j]?=some x/\(scope.names.find? λy=>x == y.1).map (·.2)=some NameKind.free
def zHu (osc:Scope) (N:List Str) (scope:Scope) (N':List Str) (mp:List (Option Nat)):Bool:=
 scope.kind == .function && decide (mp.length=N'.length) &&
 scope.names.all (λy=>y.2 != .cell && (y.2 != .local || scope.names.lookup y.1 == some .local) && (y.2 != .free || osc.names.lookup y.1 == some .cell || osc.names.lookup y.1 == some .free)) &&
 (mp.zip N').all λy=>match y.1 with | none=>true | some j=>N[j]? == some y.2 && (scope.names.find? λz=>y.2 == z.1).map (·.2) == some NameKind.free
def BlkOk.of {X:Cx} {scope:Scope} {N':List Str} {mp:List (Option Nat)} (h:zHu X.env.scope X.N scope N' mp=true):BlkOk X scope N' mp:=by
 unfold zHu at h;simp only[wHw] at h;obtain⟨⟨⟨h1,h2⟩,h3⟩,h4⟩:=h;have a3:=List.all_eq_true.mp h3;have a4:=List.all_eq_true.mp h4;refine⟨λy hy=>?_,by simpa using h1,λy hy hl=>?_,λy hy hf=>?_,wHm h2,λi j x hm hN=>?_⟩
 ·have:=a3 y hy;simp only[wHw,bne_iff_ne] at this;exact this.1.1
 ·have:=a3 y hy;simp only[wHw,Bool.or_eq_true,bne_iff_ne,beq_iff_eq] at this;exact this.1.2.resolve_left λz=>z hl
 ·have:=a3 y hy;simp only[wHw,Bool.or_eq_true,bne_iff_ne,beq_iff_eq] at this;rcases this.2 with (z | z) | z
  ·exact absurd hf z
  ·exact .inl z
  exact .inr z
 have hz:(mp.zip N')[i]?=some (some j,x):=by rw[List.getElem?_zip_eq_some];exact⟨hm,hN⟩
 have:=a4 _ (wHA hz);simp only[wHw,beq_iff_eq] at this;exact this
def Cx.blk (X:Cx) (scope:Scope) (N':List Str) (C:Addr) (s3:Shared) (H3:Hp) (fp:List Addr) (pins:List (Addr × Obj)):Cx:=
 { X with env:=compEnvC scope (zAL X.env scope.names []) C X.env,N:=N',s₀:=s3,H₀:=H3,outer:=X.stack,ex:=fp,fn:=λ_=>false,pn:=X.pn++pins,xe:=λ_ _=>False }
section
variable {X:Cx} {scope:Scope} {N':List Str} {mp:List (Option Nat)} {C:Addr} {s3:Shared} {H3:Hp} {fp:List Addr} {pins:List (Addr × Obj)} {σ:St}
def BlkOk.cells (B:BlkOk X scope N' mp) (ok:X.Ok):∀y∈scope.names,y.2=.free->∃c,X.env.cells.lookup y.1=some c:=λy hy hf=>ok.has _ (B.free y hy hf)
def zCt {x:Str} {c:Addr} (h:(zAL X.env scope.names []).lookup x=some c):X.env.cells.lookup x=some c:=zCK X.env x c scope.names [] (λ_ _ z=>by simp at z) h
def BlkOk.ok (B:BlkOk X scope N' mp) (I:Inv X pins σ H3 s3) (hC:s3.heap.objs.size<=C) (hf:∀b∈fp,zEh X pins H3 b) (kX:∀b∈fp,b < s3.heap.objs.size):(X.blk scope N' C s3 H3 fp pins).Ok where
 mod:=I.ok.mod
 kind:=B.kind
 glob:=I.ok.glob
 blt:=I.ok.blt
 above:=hC
 inj:=λx y c h1 h2=>I.ok.inj x y c (zCt h1) (zCt h2)
 has:=λx h=>by
  have hm:(x,NameKind.free)∈scope.names:=by
   rcases h with h | h
   ·exact zDS (.inl rfl) B.nocell h
   exact zDS (.inr rfl) B.nocell h
  exact zCL X.env x scope.names [] hm (B.cells I.ok _ hm rfl)
 cab:=λ_ _ h=>by cases h
 hd:=I.ok.hd
 frames:=I.ok.frames
 stk:=.inl rfl
 exf:=λb hb=>⟨wHg (wHi (kX b hb) hC),λx c e=>(hf b hb).2.2.2.2.1 x c (zCt e)⟩
 bs:=I.bs
 bsz:=wHe I.ok.bsz I.sz
 noex:=λb o e hb=>by
  rcases (hf b hb).2.2.2.1 with z | z
  ·exact I.ok.noex b o e z
  exact absurd (wHi (wHa (I.ok.bs b o e).1) z) (Nat.lt_irrefl _)
 exfs:=λb hb hz=>by
  rcases wIn (I.stkSub b hz) with e | e
  ·exact (hf b hb).2.1 e
  exact (hf b hb).2.2.1 e
 funs:=I.stack
 frf:=I.stkFree
def BlkOk.inv (B:BlkOk X scope N' mp) (I:Inv X pins σ H3 s3) (hC:s3.heap.objs.size=C) (hf:∀b∈fp,zEh X pins H3 b) (kX:∀b∈fp,b < s3.heap.objs.size) {h4:Heap} {t':Nat} {m4:Str->Option Value}
  (k:∀b o,s3.heap.get? b=some o->h4.get? b=some o) (hn:h4.Ns C m4):Inv (X.blk scope N' C s3 H3 fp pins) [] (zMR mp σ) H3 { s3 with heap:=h4,toks:=t' } where
 ok:=B.ok I (wIf hC) hf kX
 os:=rfl
 bare:=I.bare
 base:=Un.kept k
 loc:=⟨m4,hn,λi x v e1 e2 _=>by
  unfold zMR at e2;rw[wG6] at e2;cases em:mp[i]? with
  | none=>rw[em] at e2;cases e2
  | some o=>
   rw[em] at e2;cases o with
   | none=>cases e2
   | some j=>
    have fN:(σ[j]?).join=some v:=wG8 e2;obtain⟨hx,iF⟩:=B.slot i j x em e1;have hm:=zIj iF;have hv:σ[j]?=some (some v):=by
     cases q:σ[j]? with
     | none=>rw[q] at fN;cases fN
     | some z=>rw[q] at fN;exact congrArg some fN
    have kf:=B.free _ hm rfl;obtain⟨m,_,hl⟩:=I.loc;obtain⟨u,r,q⟩:=hl j x v hx hv (.inr kf);rcases q with ⟨ql,_⟩ | ⟨_,c,hc,bF⟩
    ·rcases kf with z | z<;>(rw[ql] at z;cases z)
    obtain⟨c',jP⟩:=zCL X.env x scope.names [] hm ⟨c,hc⟩;have:c'=c:=by have:=zCt jP;rw[hc] at this;exact (wG8 this).symm
    subst this;obtain⟨oc,kQ,hd⟩:=bF;exact⟨u,r,.inr ⟨zGF iF,c',jP,oc,k _ _ kQ,hd⟩⟩⟩
 cell:=λx c e=>by obtain⟨v,o,ho,hd⟩:=I.cell x c (zCt e);exact⟨v,o,k _ _ ho,hd⟩
 free:=I.hok.fresh (wIf hC)
 freeC:=λx c e=>I.freeC x c (zCt e)
 pin:=λp hp=>by
  rw[wHx] at hp;obtain⟨a,b,c,d,e⟩:=I.pin p hp;refine⟨k _ _ a,b,wHg (wHi (wHa a) (wIf hC)),λz=>?_,e⟩;rcases wIn (I.stkSub p.1 z) with w | w
  ·exact c w
  exact d w
 hok:=I.hok.kept k
 len:=by unfold zMR;rw[wGX];exact B.len
def PIf (X:Cx) (ifs:List Expr) (t:TT):Prop:=
 ∀(pins:List (Addr × Obj)) (s:Shared) (σ:St) (H:Hp) (Q:Bool->Hp->Prop),Inv X pins σ H s->t σ H Q->
  wpAny (model X.prog X.w) X.A (forIn ifs true λc r=>if r=true then do let ok ← isTrue c X.env (eval c X.env);pure (ForInStep.yield ok) else pure (ForInStep.yield r)) (TP X pins σ Q) X.xe s
def zAs {X:Cx}:PIf X [] (λ_ H Q=>Q true H):=λ_ _ _ H _ I h=>wpAny_tests_nil ⟨H,I,h⟩
def zC8 {X:Cx} {c:Expr} {t:TT} (h:PT X c t):PIf X [c] t:=λpins s σ H Q I hw=>wpAny_tests_one (h pins s σ H Q I hw)
def zDP (l:Addr) (J:It) (g:TG) (tt:TT) (te:TE) (fin:Hp->Prop) (σ0:St) (H0:Hp):Prop:=
 ∃W:Nat->Nat->St->Hp->Prop,(∃m,W 0 m σ0 H0)/\∀i m σ H,W i m σ H->(J.stop i H/\fin H)∨(J.go i H/\∃N:St->Hp->Prop,(∀σ' H',N σ' H'->∃m',m' < m/\W (i+1) m' σ' H')/\
  ∀x H',J.yld i H x H'->g x σ H' λσ2 H2=>tt σ2 H2 λb H3=>if b=true then te σ2 H3 λv H4=>∃xs,H4 l=some (.lst xs)/\xs.length < sizeLine/\N σ2 (upd H4 l (.lst (xs++[v]))) else N σ2 H3)
def zIw (mp:List (Option Nat)) (wi:TI) (g:TG) (tt:TT) (te:TE) (σ:St) (H:Hp) (fin:Addr->Hp->Prop):Prop:=
 wi σ H λJ H1=>∀l,H1 l=none->zDP l J g tt te (fin l) (zMR mp σ) (upd H1 l (.lst []))
def zEh.blk {H:Hp} {b:Addr} (I:Inv X pins σ H3 s3) (hC:s3.heap.objs.size<=C) (f:zEh X pins H3 b) (hb:b∈fp) (hl:b < s3.heap.objs.size) (n:H b=none):zEh (X.blk scope N' C s3 H3 fp pins) [] H b:=by
 obtain⟨_,f1,f2,f3,f4,f5⟩:=f;refine⟨n,wHg (wHi hl hC),λz=>?_,.inl hb,λx c e=>f4 x c (zCt e),λp hp=>f5 p (by rwa [wHx] at hp)⟩;rcases wIn (I.stkSub b z) with w | w
 ·exact f1 w
 exact f2 w
def zHm {use:Option (Value->Sem Unit)} {Qo:Value->Shared->Prop} {elt tg iter:Expr} {ifs:List Expr} {pos p0:Pos} {wi:TI} {g:TG} {tt:TT} {te:TE} {H:Hp} {s:Shared} {fin:Addr->Hp->Prop} (B:BlkOk X scope N' mp) (hc:X.calm=true) (hi:PI X tg iter wi)
  (hg:∀C s3 H3 fp pins,PG (X.blk scope N' C s3 H3 fp pins) tg g) (eR:∀C s3 H3 fp pins,PIf (X.blk scope N' C s3 H3 fp pins) ifs tt) (he:∀C s3 H3 fp pins,PE (X.blk scope N' C s3 H3 fp pins) elt te)
  (hs:∀x,foldedSetIterable iter X.env x=pure x) (I:Inv X pins σ H s) (h:zIw mp wi g tt te σ H fin)
  (gG:∀(l C:Addr) (H':Hp) (s':Shared) (m:Str->Option Value),s'.heap.Ns C m->Inv X pins σ H' s'->zEh X pins H' C->fin l H'->compPost (model X.prog X.w) X.A X.xe use Qo (.ref l) C (.ok .next) s') :
  wpAny (model X.prog X.w) X.A (comprehension (.ListComp elt [⟨tg,iter,ifs,0⟩] scope pos) scope X.env p0 (newList []) false (eval iter X.env) use) Qo X.xe s:=by
 refine wpAny_comprehension_free (use:=use) rfl hs (zEY (B.cells I.ok)) B.kind B.names (thn (hi pins s σ H _ I h) λv s1 h1=>thn h1 λiA s2 h2=>?_);obtain⟨it,fp,tn,J,H2,e,I2,T,dA,f2,hl⟩:=h2;subst e;obtain⟨W,⟨m0,w0⟩,turn⟩:=hl _ I2.fresh;refine wHL ?_;have I3:=I2.lnew (its:=[]) (t':=s2.toks) .nil (wHK _);obtain⟨s3,gC⟩:∃s3:Shared,s3={ s2 with heap:=s2.heap.push { cls:=.type "list",data:=.seq ([]:List Value).toArray } }:=⟨_,rfl⟩;have I3:Inv X pins σ (upd H2 s2.heap.objs.size (.lst [])) s3:=by rw[gC];exact I3
 have jt:∀b o,s2.heap.get? b=some o->s3.heap.get? b=some o:=λb o q=>by rw[gC];exact wG3 _ q
 have aD:∀b∈fp,b < s2.heap.objs.size:=λb hb=>by obtain⟨o,q,_⟩:=T.obj _ _ dA b hb;exact wHa q
 have dM:∀b∈fp,b < s3.heap.objs.size:=λb hb=>by obtain⟨o,q,_⟩:=T.obj _ _ dA b hb;exact wHa (jt _ _ q)
 have f3:∀b∈fp,zEh X pins (upd H2 s2.heap.objs.size (.lst [])) b:=λb hb=>by have f:=f2 b hb;exact⟨by rw[zO (wHg (aD b hb))];exact f.1,f.2⟩
 show wpAny _ _ (newFunctionEnv scope X.env.globals (zAL X.env scope.names []) [] X.env.qual none .none (some X.env)) _ _ { s2 with heap:=s2.heap.push { cls:=.type "list",data:=.seq ([]:List Value).toArray } };rw[← gC];refine wpAny_newFunctionEnv B.nocell (λy hy=>by simp at hy) (λh4 oh mV=>?_) B.kind;have jr:∀b o,s3.heap.get? b=some o->h4.get? b=some o:=λb o q=>mV.extBut b o (wHg (wHa q)) (wG3 _ q);have I4:=B.inv I3 rfl f3 dM (t':=s3.toks+([]:List (Str × Value)).length) jr oh;have iX:tn 0 h4:=T.keep _ _ _ dA λb _ o q=>jr b o (jt b o q);have gQ:∀{H':Hp},(∀b∈fp,H' b=none)->∀b∈fp,zEh (X.blk scope N' s3.heap.objs.size s3 (upd H2 s2.heap.objs.size (.lst [])) fp pins) [] H' b:=λhn b hb=>zEh.blk I3 (wG5 _) (f3 b hb) hb (dM b hb) (hn b hb);have loop:codeAny (model X.prog X.w) X.A (.compLoop (.ListComp elt [⟨tg,iter,ifs,0⟩] scope pos) 0 (.ref it) (.ref s2.heap.objs.size) (compEnvC scope (zAL X.env scope.names []) s3.heap.objs.size X.env))
   (compPost (model X.prog X.w) X.A X.xe use Qo (.ref s2.heap.objs.size) s3.heap.objs.size) { s3 with heap:=h4,toks:=s3.toks+([]:List (Str × Value)).length }:=by
  refine codeAny_loop rfl (λn s'=>∃i σ' H',Inv (X.blk scope N' s3.heap.objs.size s3 (upd H2 s2.heap.objs.size (.lst [])) fp pins) [] σ' H' s'/\tn i s'.heap/\(∀b∈fp,H' b=none)/\W i n σ' H') (λn s' hI=>?_) m0 ⟨0,_,_,I4,iX,λb hb=>(f3 b hb).1,w0⟩;obtain⟨i,σ',H',I',aT,jS,w'⟩:=hI;refine wpAny_noted ?_;rw[compTurn_list];refine wGY (wpAny_standAt (wGY ?_));rcases turn i n σ' H' w' with ⟨stop,qn⟩ | ⟨go,N,hN,step⟩
  ·refine thn (T.done (X.blk scope N' s3.heap.objs.size s3 (upd H2 s2.heap.objs.size (.lst [])) fp pins) rfl rfl rfl hc i [] s' σ' H' _ I' (gQ jS) aT stop) λr s5 aA=>?_;obtain⟨hr,I5⟩:=aA;subst hr;obtain⟨m5,n5,_⟩:=I5.loc;refine wG2 (gG _ _ H' s5 m5 n5 (I3.call' (ch:=fp) I5.os I5.base I5.hok I5.bare λb hb=>?_) (I3.fpOk (wG5 _) I5.free) qn);obtain⟨_,g1,_,g3,g4,g5⟩:=f3 b hb;exact⟨g3,g1,g4,g5⟩
  refine thn (T.item (X.blk scope N' s3.heap.objs.size s3 (upd H2 s2.heap.objs.size (.lst [])) fp pins) rfl rfl rfl hc i [] s' σ' H' _ I' (gQ jS) aT go) λr s5 aA=>?_;obtain⟨u,hr,h5⟩:=aA;subst hr;refine wGY (thn h5 λ_ s6 aA=>?_);obtain⟨x,H6,I6,r6,y6,fT,oU⟩:=aA;have qi:=I6.pinned (gQ oU) (T.obj _ _ fT);have keep:∀{σ7:St} {H7:Hp} {s7:Shared},Inv (X.blk scope N' s3.heap.objs.size s3 (upd H2 s2.heap.objs.size (.lst [])) fp pins) ([]++zF0 fp s6.heap) σ7 H7 s7->N σ7 H7->
    ∃m,m < n/\∃i σ' H',Inv (X.blk scope N' s3.heap.objs.size s3 (upd H2 s2.heap.objs.size (.lst [])) fp pins) [] σ' H' s7/\tn i s7.heap/\(∀b∈fp,H' b=none)/\W i m σ' H':=λ{σ7 H7 s7} I7 n7=>by
   obtain⟨m',hm,w7⟩:=hN σ7 H7 n7;have pin:=λ(b:Addr) (hb:b∈fp) (o:Obj) (q:s6.heap.get? b=some o)=>I7.pin (b,o) (wHp _ (wHp _ (zCH hb q)));refine⟨m',hm,i+1,σ7,H7,I7.unpinned,T.keep _ _ _ fT λb hb o q=>(pin b hb o q).1,λb hb=>?_,w7⟩;obtain⟨o,q,_⟩:=T.obj _ _ fT b hb;exact (pin b hb o q).2.1
  refine wGY (wHq (hg _ _ _ _ _ _ s6 σ' H6 x u _ qi r6 (step x H6 y6)) (λ_ s7 ⟨σ7,H7,I7,q7⟩=>?_) λ_ _ z=>z.elim);refine wGY (wHq (eR _ _ _ _ _ _ s7 σ7 H7 _ I7 q7) (λok s8 ⟨H8,I8,q8⟩=>?_) λ_ _ z=>z.elim);cases ok with
  | false=>exact wG2 ⟨rfl,keep I8 q8⟩
  | true=>
   refine wGY (wGY (wHq (he _ _ _ _ _ _ s8 σ7 H8 _ I8 q8) (λy s9 ⟨v9,H9,I9,r9,xs,e9,z9,q9⟩=>?_) λ_ _ z=>z.elim));refine wGY (wHq (zAx (X:=(X.blk scope N' s3.heap.objs.size s3 (upd H2 s2.heap.objs.size (.lst [])) fp pins)) _ s9 σ7 H9 (.ref s2.heap.objs.size) [v9] (.ref s2.heap.objs.size) [y] (λ_ H'=>N σ7 H') I9 rfl (.cons r9 .nil) ⟨_,xs,v9,rfl,rfl,e9,z9,q9⟩) (λ_ cI ⟨_,fj,I10,_,q10⟩=>?_) λ_ _ z=>z.elim);exact wG2 (wG2 ⟨rfl,keep I10 q10⟩)
 exact codeAny_compStart_list loop (T.self _ 0 _ _ _ iX loop)
def zQD (mp:List (Option Nat)) (wi:TI) (g:TG) (tt:TT) (te:TE):TE:=λσ H Q=>zIw mp wi g tt te σ H λl H'=>Q (.ref l) H'
def zAq {elt tg iter:Expr} {ifs:List Expr} {pos:Pos} {wi:TI} {g:TG} {tt:TT} {te:TE} (N':List Str) (mp:List (Option Nat)) (hk:zHu X.env.scope X.N scope N' mp=true) (hc:X.calm=true) (hi:PI X tg iter wi)
  (hg:∀C s3 H3 fp pins,PG (X.blk scope N' C s3 H3 fp pins) tg g) (eR:∀C s3 H3 fp pins,PIf (X.blk scope N' C s3 H3 fp pins) ifs tt) (he:∀C s3 H3 fp pins,PE (X.blk scope N' C s3 H3 fp pins) elt te)
  (hs:∀x,foldedSetIterable iter X.env x=pure x:=by intro _;rfl):PE X (.ListComp elt [⟨tg,iter,ifs,0⟩] scope pos) (zQD mp wi g tt te):=by
 intro pins s σ H Q I h;rw[eval_ListComp];refine zHm (use:=none) (BlkOk.of hk) hc hi hg eR he hs I h λl C H' s' m hn I' f q=>?_;refine⟨m,hn,λh' sb=>⟨.ref l,H',?_,rfl,q⟩⟩;obtain⟨f0,f1,f2,f3,f4,f5⟩:=f;exact I'.turned (t':=s'.toks) (λb o hb e=>sb.extBut b o hb e) f0 f1 f3 f4 f5
def zP0 (mp:List (Option Nat)) (wi:TI) (g:TG) (tt:TT) (te:TE) (g2:TG):TS:=λD σ H=>zIw mp wi g tt te σ H λl H'=>g2 (.ref l) σ H' D.nx
def zDF {x:Str} {elt tg iter:Expr} {ifs:List Expr} {pos px dB:Pos} {wi:TI} {g g2:TG} {tt:TT} {te:TE} (N':List Str) (mp:List (Option Nat)) (hk:zHu X.env.scope X.N scope N' mp=true) (hc:X.calm=true) (hi:PI X tg iter wi)
  (hg:∀C s3 H3 fp pins,PG (X.blk scope N' C s3 H3 fp pins) tg g) (eR:∀C s3 H3 fp pins,PIf (X.blk scope N' C s3 H3 fp pins) ifs tt) (he:∀C s3 H3 fp pins,PE (X.blk scope N' C s3 H3 fp pins) elt te)
  (h2:PG X (.Name x px) g2) (nO:swapsWith (.ListComp elt [⟨tg,iter,ifs,0⟩] scope pos) (some (.Name x px)) dB.line X.env=pure true:=by rfl)
  (hs:∀x,foldedSetIterable iter X.env x=pure x:=by intro _;rfl):PS X (.Assign [.Name x px] (.ListComp elt [⟨tg,iter,ifs,0⟩] scope pos) dB) (zP0 mp wi g tt te g2):=by
 intro pins s σ H D I h;rw[exec_Assign_Name_used _ _ _ _ nO];refine wGY (wpAny_standAt (wGY ?_));show wpAny _ _ (comprehension (.ListComp elt [⟨tg,iter,ifs,0⟩] scope pos) scope X.env (firstIterPos [⟨tg,iter,ifs,0⟩] pos) (newList []) false (eval iter X.env) (some (assign (.Name x px) X.env)) >>= λ_=>pure PUnit.unit) _ _ s;refine wGY (thn (zHm (use:=some (assign (.Name x px) X.env)) (Qo:=λ_ s'=>SP X pins D .next s') (BlkOk.of hk) hc hi hg eR he hs I h λl C H' s' m hn I' f q=>?_) λ_ s' q=>wG2 (wG2 q));show wpAny _ _ (assign (.Name x px) X.env (.ref l)) _ _ s';obtain⟨o,es,ep,ho,hr⟩:=id hn;obtain⟨f0,f1,f2,f3,f4,f5⟩:=f;have I2:Inv X (pins++[(C,o)]) σ H' s':=I'.pins_of λp hp=>by
  rcases wIm hp with z | z
  ·exact I'.pin p (wHp _ z)
  have e:p=(C,o):=by simpa using z
  subst e;exact⟨ho,f0,f1,f2,λv z=>by rw[hr.1] at z;cases z⟩
 refine thn (h2 _ s' σ H' (.ref l) (.ref l) _ I2 rfl q) λ_ s7 aA=>?_;obtain⟨σ7,H7,I7,q7⟩:=aA;have p7:=I7.pin (C,o) (wHp _ (wHp _ (by simp)));refine⟨m,⟨o,es,ep,p7.1,hr⟩,λh' sb=>⟨σ7,H7,?_,q7⟩⟩;exact I7.unpinned.turned (t':=s7.toks) (λb o hb e=>sb.extBut b o hb e) p7.2.1 f1 f3 f4 f5
end
section
variable {X:Cx} {pins:List (Addr × Obj)} {σ:St} {H:Hp} {s:Shared}
def Inv.turnNew {ch:List Addr} {T:Addr} {o:HO} {h':Heap} {t':Nat} (I:Inv X pins σ H s) (hf:∀b∈ch,zEh X pins H b) (hT:s.heap.objs.size<=T) (k:∀b u,b∉ch->s.heap.get? b=some u->h'.get? b=some u)
  (new:ObjOk X.prog X.w (upd H T o) h' T o):Inv X pins σ (upd H T o) { s with heap:=h',toks:=t' }:=by
 have fresh:H T=none:=I.hok.fresh hT;have neT:∀b u,s.heap.get? b=some u->b≠T:=λb u e=>wHg (wHi (wHa e) hT);have dD:∀b u,H b=some u->b∉ch:=λb u e hb=>by rw[(hf b hb).1] at e;cases e
 refine I.step (g':=s.gens) (d':=s.drawn) (ch:=ch) (λb hb=>?_) (λb u _ _ hc e _=>k b u hc e) (λb u _ _ hc e _=>⟨u.slots,k b u hc e⟩) (λb u hc e n=>by rw[zO (neT b u e)];exact n)
  (λb u hc e=>⟨u,k b u hc e⟩) (λb xs e=>by rw[zO (zP e fresh)];exact e) (λb u xs e=>by rw[zO (zP e fresh)];exact e) (λb ps e=>⟨#[],by rw[zO (zP e fresh),e];simp⟩) (λm hm=>?_) (λb u e=>?_) I.bare
 ·obtain⟨_,f1,_,f3,f4,f5⟩:=hf b hb;exact⟨f3,f1,f4,f5⟩
 ·obtain⟨ob,es,ep,ho,r⟩:=hm;exact⟨ob,es,ep,k _ ob (λz=>(hf _ z).2.1 rfl) ho,r⟩
 by_cases hb:b=T
 ·subst hb;rw[zB] at e;cases e;exact new
 rw[zO hb] at e;refine (I.hok b u e).stay (λc v hc q=>k c v ?_ q) (λc q=>by rw[zO (zP q fresh)];exact q) λc xs q=>by rw[zO (zP q fresh)];exact q
 rcases hc with rfl | hc
 ·exact dD _ _ e
 exact dD _ _ hc
def Inv.turnAll {ch:List Addr} {h':Heap} {t':Nat} (I:Inv X pins σ H s) (hf:∀b∈ch,zEh X pins H b) (k:∀b u,b∉ch->s.heap.get? b=some u->h'.get? b=some u):Inv X pins σ H { s with heap:=h',toks:=t' }:=by
 have dD:∀b u,H b=some u->b∉ch:=λb u e hb=>by rw[(hf b hb).1] at e;cases e
 refine I.step (g':=s.gens) (d':=s.drawn) (ch:=ch) (λb hb=>?_) (λb u _ _ hc e _=>k b u hc e) (λb u _ _ hc e _=>⟨u.slots,k b u hc e⟩) (λb u hc e n=>n)
  (λb u hc e=>⟨u,k b u hc e⟩) (λb xs e=>e) (λb u xs e=>e) (λb ps e=>⟨#[],by rw[e];simp⟩) (λm hm=>?_) (λb u e=>?_) I.bare
 ·obtain⟨_,f1,_,f3,f4,f5⟩:=hf b hb;exact⟨f3,f1,f4,f5⟩
 ·obtain⟨ob,es,ep,ho,r⟩:=hm;exact⟨ob,es,ep,k _ ob (λz=>(hf _ z).2.1 rfl) ho,r⟩
 refine (I.hok b u e).stay (λc v hc q=>k c v ?_ q) (λ_ q=>q) λ_ _ q=>q;rcases hc with rfl | hc
 ·exact dD _ _ e
 exact dD _ _ hc
theorem zGH (ns:List Int):∀k,k<=ns.length->preSum (λi=>ns.getD i 0) k=(ns.take k).sum
 | 0,_=>by simp[preSum]
 | k+1,h=>by
  have e:ns.take (k+1)=ns.take k++[ns.getD k 0]:=by rw[List.take_add_one,wG4,wG0 (show k < ns.length by omega)];rfl
  rw[e,List.sum_append];have:=zGH ns k ∅;show preSum (λi=>ns.getD i 0) k+ns.getD k 0=_;rw[this];simp
inductive RSum (K:W.Frag) (xs:List V) (H:Hp) (Q:VK):Prop
 | mk (p:Addr) (ns:List Int):(xs=[.ref p])->(SqL K H p (ns.map V.int))->(Q (.int ns.sum) H)->RSum K xs H Q
def zMM (hc:X.calm=true):zB6 X (.builtin "sum") (λxs H Q=>RSum X.K xs H Q):=by
 intro pins s σ H xs us Q I r h;obtain⟨p,ns,rfl,hS,q⟩:=h;obtain⟨u,rfl,ru⟩:=r.one;cases ru;obtain⟨its,rv,pl,hz⟩:=I.list hS;have hi:IntsAre its ns:=zCd rv;have hn:its.length=ns.length:=hi.length;have hp:p < s.heap.objs.size:=by obtain⟨o,n,e,_⟩:=pl;exact wHa e
 refine call_sum_walkAnyS (wpAny_pyIter_list pl.isList ?_);refine⟨s.heap.objs.size,_,_,_,_,_,_,λi=>ns.getD i 0,rfl,(Walks.list (A:=X.A.in1) (show X.A.in1.handled=none from I.ok.hd hc) s.heap.objs.size p (wHg hp) its.toArray).toS,⟨⟨_,wHb _ rfl,rfl,rfl⟩,pl.isList.push _⟩,λb hb=>?_,λi v hv=>?_,λs' t' hm=>?_⟩
 ·rw[wHT];rcases wIn hb with e | hb
  ·subst e;exact wHY _
  rw[wIj hb];exact wH1 hp
 ·exact IntsAre.int_at hi i v (by simpa using hv)
 obtain⟨h',g',d',fk,nk⟩:=s';have eg:g'=s.gens:=hm.gens;have ed:d'=s.drawn:=hm.drawn;have eo:nk=s.os:=hm.os;subst eg ed eo;have e:preSum (λi=>ns.getD i 0) its.toArray.size=ns.sum:=by rw[wHh,hn,zGH ns ns.length (wG5 _),wHo]
 rw[e];exact⟨.int ns.sum,H,I.kept λb o q=>hm.heap b o (λz=>by rw[wIj z] at q;exact absurd (wHa q) (Nat.lt_irrefl _)) (wG3 _ q),⟨_,rfl⟩,q⟩
def Ite (K:W.Frag) (a:Addr):It:=
 ⟨λi H=>∃xs x,SqL K H a xs/\xs[i]?=some x,λi H v H'=>∃T x,v=.ref T/\H T=none/\H'=upd H T (.tup [.int (i:Int),x])/\∀xs,SqL K H a xs->xs[i]?=some x,λi H=>∃xs,SqL K H a xs/\xs.length<=i⟩
def zJF {P:Program} {w:World} {K:W.Frag} {es:List Expr} {k:Nat} {pos:Pos} (a e it:Addr) (aI:e≠it):Turn P w K (.Tuple es k pos) (Ite K a) [e,it] e (λi h=>∃old,IsEnum h e it i old/\h.IsListIter it a i) where
 mem:=by simp
 obj:=λi h st b hb=>by
  obtain⟨old,he,o,hit,hc,hd⟩:=st;rcases wIn hb with z | z
  ·subst z;exact⟨_,he,λv z=>by cases z⟩
  rw[wIj z];exact⟨o,hit,λv z=>by rw[hd] at z;cases z⟩
 keep:=λi h h' st kp=>by obtain⟨old,he,hit⟩:=st;exact⟨old,kp e (by simp) _ he,hit.at λo q=>kp it (by simp) o q⟩
 item:=by
  intro X hP hw hK hc i pins s σ H E I hf st hg;subst hP hw hK;obtain⟨xs,x,hq,hx⟩:=hg;obtain⟨its,rv,p,hz⟩:=I.list hq;obtain⟨u,hu,ru⟩:=rv.get hx;obtain⟨old,he,hit⟩:=st;refine wpAny_pyNext_enum_item he hit p.isList (x:=u) (by simpa using hu) aI λh1 eo o7 ht eN kp=>⟨_,rfl,?_⟩;refine wpAny_letOwnedTupleGo_enum eo λh2 he2 cH=>?_;have tne:s.heap.objs.size≠e:=Nat.ne_of_gt (wHa he);have tni:s.heap.objs.size≠it:=by obtain⟨o,q,_⟩:=hit;exact Nat.ne_of_gt (wHa q)
  have I2:Inv X pins σ (upd H s.heap.objs.size (.tup [.int (i:Int),x])) { s with heap:=h2,toks:=s.toks+1 }:=by
   refine I.turnNew hf (wG5 _) (λb o hb q=>?_) ⟨zA8,[.int i s.toks,u],.cons ⟨_,rfl⟩ (.cons ru .nil),?_⟩
   ·simp only[wHN,wHE,or_false,not_or] at hb;exact cH.extBut b o hb.1 (kp b o hb.1 hb.2 q)
   exact⟨_,cH.extBut _ _ tne ht,rfl,_,rfl⟩
  refine⟨.ref s.heap.objs.size,_,I2,rfl,⟨_,x,rfl,I.fresh,rfl,λys hy=>by rw[I.list_inj hy hq];exact hx⟩,⟨u,?_,o7.extBut cH.extBut (Ne.symm aI)⟩,λb hb=>?_⟩
  ·exact he2
  have nb:b≠s.heap.objs.size:=by
   rcases wIn hb with z | z
   ·rw[z];exact Ne.symm tne
   rw[wIj z];exact Ne.symm tni
  rw[zO nb];exact (hf b hb).1
 done:=by intro X hP hw hK hc i pins s σ H E I hf st hg;subst hP hw hK;obtain⟨xs,hq,hx⟩:=hg;obtain⟨its,rv,p,hz⟩:=I.list hq;obtain⟨old,he,hit⟩:=st;have hl:=rv.length;refine wpAny_pyNext_enum_end (I.ok.hd hc) he hit p.isList (by simp;omega) λh' eb=>⟨rfl,I.turnAll (t':=s.toks) hf λb o hb q=>eb b o (λz=>hb (by simp[z])) q⟩
 self:=λA i s Q E st h=>by obtain⟨old,he,hit⟩:=st;have hT:s.TypeIs (.ref e) "enumerate":=⟨_,he,rfl⟩;exact wpAny_pyIter_enum he h
inductive IEnum (K:W.Frag) (vs:List V) (H1:Hp) (R:It->Hp->Prop):Prop
 | mk (a:_) (xs:_):(vs=[.ref a])->SqL K H1 a xs->(R (Ite K a) H1)->IEnum K vs H1 R
def zQU (K:W.Frag) (ta:TA):TI:=λσ H R=>ta σ H λvs H1=>IEnum K vs H1 R
def zKv {a:Expr} {ta:TA} {p pos:Pos} {es:List Expr} {k:Nat} {tp:Pos} (hg:Gl X "enumerate") (hm:X.mg "enumerate"=none) (ha:PA X [a] ta) (hs:starEach [a] X.env=[(false,eval a X.env)]:=by rfl) :
  PI X (.Tuple es k tp) (.Call (.Name "enumerate" p) [a] [] pos) (zQU X.K ta):=by
 intro pins s σ H R I h;refine Call_ (zER I hg hm boot_enumerate (PyProof.Rows.callWith_type1 (thn (ha pos pins s σ H _ I h) λus s1 ⟨vs,H1,I1,r1,q1⟩=>?_) hs rfl));obtain⟨l,xs,e,hq,q⟩:=q1;subst e;obtain⟨u,rfl,ru⟩:=r1.one;cases ru;obtain⟨its,rv,pl,hz⟩:=I1.list hq;refine call_enumerate_list pl.isList λh' he hit eN kp=>?_;have I2:Inv X pins σ H1 { s1 with heap:=h' }:=I1.kept (t':=s1.toks) kp;refine wpAny_pyIter_enum he ⟨s1.heap.objs.size+1,[s1.heap.objs.size+1,s1.heap.objs.size],_,_,H1,rfl,I2,zJF l _ _ (Nat.succ_ne_self _),⟨_,he,hit⟩,λb hb=>?_,q⟩;rcases wIn hb with z | z
 ·subst z;exact I1.fpOk (Nat.le_succ _) (I1.hok.fresh (Nat.le_succ _))
 rw[wIj z];exact I1.fpOk (wG5 _) (I1.hok.fresh (wG5 _))
def Itz (K:W.Frag) (a b:Addr):It:=
 ⟨λi H=>∃xs ys x y,SqL K H a xs/\SqL K H b ys/\xs[i]?=some x/\ys[i]?=some y,
  λi H v H'=>∃T x y,v=.ref T/\H T=none/\H'=upd H T (.tup [x,y])/\(∀xs,SqL K H a xs->xs[i]?=some x)/\∀ys,SqL K H b ys->ys[i]?=some y,
  λi H=>∃xs ys,SqL K H a xs/\SqL K H b ys/\(xs.length<=i∨ys.length<=i)⟩
def zLE {P:Program} {w:World} {K:W.Frag} {es:List Expr} {k:Nat} {pos:Pos} {z TI TO i1 i2 l1 l2:Addr} (D:ZipApart z TI TO i1 i2 l1 l2) :
  Turn P w K (.Tuple es k pos) (Itz K l1 l2) [z,TI,TO,i1,i2] z (λi h=>IsZip h z TI TO .none/\IsPair h TI (.ref i1) (.ref i2)/\(∃a b,IsPair h TO a b)/\h.IsListIter i1 l1 i/\h.IsListIter i2 l2 i) where
 mem:=by simp
 obj:=λi h st b hb=>by
  obtain⟨hz,dP,⟨c,d,eG⟩,⟨o1,h1,c1,d1⟩,⟨o2,h2,c2,d2⟩⟩:=st;simp only[wHN,wHE,or_false] at hb;rcases hb with e | e | e | e | e<;>subst e
  ·exact⟨_,hz,λv z=>by cases z⟩
  ·exact⟨_,dP,λv z=>by cases z⟩
  ·exact⟨_,eG,λv z=>by cases z⟩
  ·exact⟨_,h1,λv z=>by rw[d1] at z;cases z⟩
  exact⟨_,h2,λv z=>by rw[d2] at z;cases z⟩
 keep:=λi h h' st kp=>by obtain⟨hz,dP,⟨c,d,eG⟩,h1,h2⟩:=st;exact⟨kp z (by simp) _ hz,kp TI (by simp) _ dP,⟨c,d,kp TO (by simp) _ eG⟩,h1.at λo q=>kp i1 (by simp) o q,h2.at λo q=>kp i2 (by simp) o q⟩
 item:=by
  intro X hP hw hK hc i pins s σ H E I hf st hg;subst hP hw hK;obtain⟨xs,ys,x,y,hq,hr,hx,hy⟩:=hg;obtain⟨its,rv,p,_⟩:=I.list hq;obtain⟨dF,kI,p2,_⟩:=I.list hr;obtain⟨u,hu,ru⟩:=rv.get hx;obtain⟨v,hv,rv'⟩:=kI.get hy;obtain⟨hz,dP,⟨c,d,eG⟩,h1,h2⟩:=st;refine wpAny_pyNext_zip_item D hz dP eG h1 h2 p.isList p2.isList (x:=u) (y:=v) (by simpa using hu) (by simpa using hv) λh' b1 b2 b3 b4 b5 b6 kp=>⟨_,rfl,?_⟩;refine wpAny_letOwnedTupleGo_zip b1 λh2' hz2 cH=>?_;have lt:∀{c o},s.heap.get? c=some o->s.heap.objs.size≠c:=λe=>Nat.ne_of_gt (wHa e);have n1:s.heap.objs.size≠i1:=by obtain⟨_,e,_⟩:=h1;exact lt e
  have n2:s.heap.objs.size≠i2:=by obtain⟨_,e,_⟩:=h2;exact lt e
  have I2:Inv X pins σ (upd H s.heap.objs.size (.tup [x,y])) { s with heap:=h2' }:=by
   refine I.turnNew (t':=s.toks) hf (wG5 _) (λb o hb q=>?_) ⟨zA8,[u,v],.cons ru (.cons rv' .nil),?_⟩
   ·simp only[wHN,wHE,or_false,not_or] at hb;exact cH.extBut b o hb.1 (kp b o hb.1 hb.2.2.1 hb.2.2.2.1 hb.2.2.2.2 q)
   exact⟨_,cH.extBut _ _ (lt hz) b5,rfl,_,rfl⟩
  refine⟨.ref s.heap.objs.size,_,I2,rfl,⟨_,x,y,rfl,I.fresh,rfl,λzs kL=>by rw[I.list_inj kL hq];exact hx,λzs kL=>by rw[I.list_inj kL hr];exact hy⟩,
   ⟨hz2,cH.extBut _ _ D.TIz (kp _ _ D.TIz D.TITO D.TIi1 D.TIi2 dP),⟨u,v,cH.extBut _ _ D.TOz b2⟩,b3.extBut cH.extBut D.i1z,b4.extBut cH.extBut D.i2z⟩,λb hb=>?_⟩
  have nb:b≠s.heap.objs.size:=by
   simp only[wHN,wHE,or_false] at hb;rcases hb with e | e | e | e | e<;>rw[e]
   ·exact Ne.symm (lt hz)
   ·exact Ne.symm (lt dP)
   ·exact Ne.symm (lt eG)
   ·exact Ne.symm n1
   exact Ne.symm n2
  rw[zO nb];exact (hf b hb).1
 done:=by intro X hP hw hK hc i pins s σ H E I hf st hg;subst hP hw hK;obtain⟨xs,ys,hq,hr,hx⟩:=hg;obtain⟨its,rv,p,_⟩:=I.list hq;obtain⟨dF,kI,p2,_⟩:=I.list hr;obtain⟨hz,dP,⟨c,d,eG⟩,h1,h2⟩:=st;have e1:=rv.length;have e2:=kI.length;refine wpAny_pyNext_zip_end (I.ok.hd hc) D hz dP eG h1 h2 p.isList p2.isList (by rcases hx with z | z;exact .inl (by simp;omega);exact .inr (by simp;omega)) λh' kp=>⟨rfl,I.turnAll (t':=s.toks) hf λb o hb q=>?_⟩;simp only[wHN,wHE,or_false,not_or] at hb;exact kp b o hb.1 hb.2.2.1 hb.2.2.2.1 hb.2.2.2.2 q
 self:=λA i s Q E st h=>wpAny_pyIter_zip st.1 h
inductive IZip (K:W.Frag) (vs:List V) (H1:Hp) (R:It->Hp->Prop):Prop
 | mk (a:_) (b:_) (xs:_) (ys:_):(vs=[.ref a,.ref b])->SqL K H1 a xs->SqL K H1 b ys->(R (Itz K a b) H1)->IZip K vs H1 R
def zRN (K:W.Frag) (ta:TA):TI:=λσ H R=>ta σ H λvs H1=>IZip K vs H1 R
def zJ2 {n l1 l2:Nat} (h1:l1 < n) (h2:l2 < n):ZipApart (n+4) (n+2) (n+3) n (n+1) l1 l2:=by constructor<;>(show (_:Nat)≠_;omega)
def zI2 {a b:Expr} {ta:TA} {p pos:Pos} {es:List Expr} {k:Nat} {tp:Pos} (hg:Gl X "zip") (hm:X.mg "zip"=none) (ha:PA X [a,b] ta) (hs:starEach [a,b] X.env=[(false,eval a X.env),(false,eval b X.env)]:=by rfl) (jx:starEach [b] X.env=[(false,eval b X.env)]:=by rfl) :
  PI X (.Tuple es k tp) (.Call (.Name "zip" p) [a,b] [] pos) (zRN X.K ta):=by
 intro pins s σ H R I h;refine Call_ (zER I hg hm boot_zip (PyProof.Rows.callWith_type1 (thn (ha pos pins s σ H _ I h) λus s1 ⟨vs,H1,I1,r1,q1⟩=>?_) (by rw[hs,jx]) (by rw[jx];rfl)));obtain⟨l1,l2,xs,ys,e,hq,hr,q⟩:=q1;subst e;obtain⟨u,v,rfl,ru,rv⟩:=r1.two;cases ru;cases rv;obtain⟨its,rv1,p1,_⟩:=I1.list hq;obtain⟨dF,kI,p2,_⟩:=I1.list hr;have n1:l1 < s1.heap.objs.size:=by obtain⟨o,n,e,_⟩:=p1;exact wHa e
 have n2:l2 < s1.heap.objs.size:=by obtain⟨o,n,e,_⟩:=p2;exact wHa e
 refine call_zip_2 p1.isList p2.isList λh' hz dP eG h1 h2 eN kp=>?_;have I2:Inv X pins σ H1 { s1 with heap:=h' }:=I1.kept (t':=s1.toks) kp;have D:ZipApart (s1.heap.objs.size+4) (s1.heap.objs.size+2) (s1.heap.objs.size+3) s1.heap.objs.size (s1.heap.objs.size+1) l1 l2:=zJ2 n1 n2;refine wpAny_pyIter_zip hz ⟨_,[s1.heap.objs.size+4,s1.heap.objs.size+2,s1.heap.objs.size+3,s1.heap.objs.size,s1.heap.objs.size+1],_,_,H1,rfl,I2,zLE D,⟨hz,dP,⟨_,_,eG⟩,h1,h2⟩,λb hb=>?_,q⟩;have le:s1.heap.objs.size<=b:=by simp only[wHN,wHE,or_false] at hb;rcases hb with e | e | e | e | e<;>rw[e]<;>first | exact wG5 _ | exact Nat.le_add_right _ _
 exact I1.fpOk le (I1.hok.fresh le)
end
def zAT {l:Addr} {lo:Int} {n:Nat} {g:TG} {tt:TT} {te:TE} {fin:Hp->Prop} {σ0:St} {H0:Hp} (Pv:Nat->St->Hp->Prop) (h0:Pv 0 σ0 H0)
  (hs:∀i σ H,i < n->Pv i σ H->g (.int (lo+i)) σ H λσ2 H2=>tt σ2 H2 λb H3=>if b=true then te σ2 H3 λv H4=>∃xs,H4 l=some (.lst xs)/\xs.length < sizeLine/\Pv (i+1) σ2 (upd H4 l (.lst (xs++[v]))) else Pv (i+1) σ2 H3)
  (hd:∀σ H,Pv n σ H->fin H):zDP l (Itr lo n) g tt te fin σ0 H0:=by
 refine⟨λi m σ H=>m=n-i/\i<=n/\Pv i σ H,⟨n,by simp,wHK _,h0⟩,?_⟩;rintro i m σ H ⟨rfl,hi,p⟩;by_cases aD:i < n
 ·refine .inr ⟨aD,Pv (i+1),λσ' H' p'=>⟨n-(i+1),by omega,rfl,aD,p'⟩,λx H' y=>?_⟩;obtain⟨e,y⟩:=y;subst e y;exact hs i σ _ aD p
 have e:i=n:=by omega
 subst e;exact .inl ⟨wG5 _,hd σ H p⟩
def zAr {K:W.Frag} {a l:Addr} {ys:List V} {g:TG} {tt:TT} {te:TE} {fin:Hp->Prop} {σ0:St} {H0:Hp} (Pv:Nat->St->Hp->Prop) (h0:Pv 0 σ0 H0) (hl:∀i σ H,i<=ys.length->Pv i σ H->SqL K H a ys)
  (hs:∀i x σ H,ys[i]?=some x->Pv i σ H->g x σ H λσ2 H2=>tt σ2 H2 λb H3=>if b=true then te σ2 H3 λv H4=>∃xs,H4 l=some (.lst xs)/\xs.length < sizeLine/\Pv (i+1) σ2 (upd H4 l (.lst (xs++[v]))) else Pv (i+1) σ2 H3)
  (hd:∀σ H,Pv ys.length σ H->fin H):zDP l (Itl K a) g tt te fin σ0 H0:=by
 refine⟨λi m σ H=>m=ys.length-i/\i<=ys.length/\Pv i σ H,⟨ys.length,by simp,wHK _,h0⟩,?_⟩;rintro i m σ H ⟨rfl,hi,p⟩;have q:=hl i σ H hi p;by_cases aD:i < ys.length
 ·refine .inr ⟨⟨ys,ys[i],q,by simp[aD]⟩,Pv (i+1),λσ' H' p'=>⟨ys.length-(i+1),by omega,rfl,aD,p'⟩,λx H' y=>?_⟩;obtain⟨e,y⟩:=y;subst e;exact hs i x σ _ (y ys q) p
 have e:i=ys.length:=by omega
 subst e;exact .inl ⟨⟨ys,q,wG5 _⟩,hd σ H p⟩
def zLs {K:W.Frag} {a l:Addr} {ys:List V} {g:TG} {tt:TT} {te:TE} {fin:Hp->Prop} {σ0:St} {H0:Hp} (Pv:Nat->St->Hp->Prop) (h0:Pv 0 σ0 H0) (hl:∀i σ H,i<=ys.length->Pv i σ H->SqL K H a ys)
  (hs:∀i x σ H T,ys[i]?=some x->Pv i σ H->H T=none->g (.ref T) σ (upd H T (.tup [.int (i:Int),x])) λσ2 H2=>tt σ2 H2 λb H3=>if b=true then te σ2 H3 λv H4=>∃xs,H4 l=some (.lst xs)/\xs.length < sizeLine/\Pv (i+1) σ2 (upd H4 l (.lst (xs++[v]))) else Pv (i+1) σ2 H3)
  (hd:∀σ H,Pv ys.length σ H->fin H):zDP l (Ite K a) g tt te fin σ0 H0:=by
 refine⟨λi m σ H=>m=ys.length-i/\i<=ys.length/\Pv i σ H,⟨ys.length,by simp,wHK _,h0⟩,?_⟩;rintro i m σ H ⟨rfl,hi,p⟩;have q:=hl i σ H hi p;by_cases aD:i < ys.length
 ·refine .inr ⟨⟨ys,ys[i],q,by simp[aD]⟩,Pv (i+1),λσ' H' p'=>⟨ys.length-(i+1),by omega,rfl,aD,p'⟩,λx H' y=>?_⟩;obtain⟨T,z,e1,e2,e3,y⟩:=y;subst e1 e3;exact hs i z σ _ T (y ys q) p e2
 have e:i=ys.length:=by omega
 subst e;exact .inl ⟨⟨ys,q,wG5 _⟩,hd σ H p⟩
def zOC {K:W.Frag} {a b:Addr} {xs ys:List V} {g:TG} {tb:TS} {D:Ends} {σ:St} {H:Hp} (he:xs.length=ys.length) (Pv:Nat->St->Hp->Prop) (h0:Pv 0 σ H) (hl:∀i σ H,i<=xs.length->Pv i σ H->SqL K H a xs/\SqL K H b ys)
  (hs:∀i x y σ H T,xs[i]?=some x->ys[i]?=some y->Pv i σ H->H T=none->g (.ref T) σ (upd H T (.tup [x,y])) λσ2 H2=>tb { D with nx:=Pv (i+1),ct:=Pv (i+1),bk:=D.nx } σ2 H2) (hd:∀σ H,Pv xs.length σ H->D.nx σ H) :
  ∃W:Nat->Nat->St->Hp->Prop,(∃m,W 0 m σ H)/\∀i m σ H,W i m σ H->
   ((Itz K a b).stop i H/\D.nx σ H)∨((Itz K a b).go i H/\∃N:St->Hp->Prop,(∀σ' H',N σ' H'->∃m',m' < m/\W (i+1) m' σ' H')/\∀x H',(Itz K a b).yld i H x H'->g x σ H' λσ2 H2=>tb { D with nx:=N,ct:=N,bk:=D.nx } σ2 H2):=by
 refine⟨λi m σ H=>m=xs.length-i/\i<=xs.length/\Pv i σ H,⟨xs.length,by simp,wHK _,h0⟩,?_⟩;rintro i m σ H ⟨rfl,hi,p⟩;obtain⟨q,r⟩:=hl i σ H hi p;by_cases aD:i < xs.length
 ·refine .inr ⟨⟨xs,ys,xs[i],ys[i]' ∅,q,r,by simp[aD],by simp[show i < ys.length by omega]⟩,Pv (i+1),λσ' H' p'=>⟨xs.length-(i+1),by omega,rfl,aD,p'⟩,λx H' y=>?_⟩;obtain⟨T,z,z',e1,e2,e3,y1,y2⟩:=y;subst e1 e3;exact hs i z z' σ _ T (y1 xs q) (y2 ys r) p e2
 have e:i=xs.length:=by omega
 subst e;exact .inl ⟨⟨xs,ys,q,r,.inl (wG5 _)⟩,hd σ H p⟩
def zY {H H':Hp} {c:Addr} (e:zAf H H') (h:H c=none) (o:HO):zAf H (upd H' c o):=λb u q=>by rw[zO (zP q h)];exact e b u q
def zAf.none {H H':Hp} (e:zAf H H') {c:Addr} (h:H' c=Option.none):H c=Option.none:=e.free h
def zAf.tup {K:W.Frag} {H H':Hp} {a:Addr} {xs:List V} (e:zAf H H') (h:SqT K H a xs):SqT K H' a xs:=by
 rcases h with (h | ⟨o,h⟩) | h
 ·exact .inl (.inl (e _ _ h))
 ·exact .inl (.inr ⟨o,e _ _ h⟩)
 exact .inr h
def zAB {n:Nat} (h:n < 1000):n < sizeLine:=zAm (wH9 h)
def zFD {ns:List Int} {k:Int} (h0:0<=k) (h:k < (ns.length:Int)):atI (ns.map V.int) k=some (.int (ns.getD k.toNat 0)):=by
 have hk:k.toNat < ns.length:=by omega
 have ek:k=((k.toNat:Nat):Int):=by omega
 have q:atI (ns.map V.int) ((k.toNat:Nat):Int)=some (.int (ns.getD k.toNat 0)):=zDM (by rw[wG6,wG0 hk,wG4,wG0 hk];rfl);rw[← ek] at q;exact q
def zBb {xs:List V} {k:Int} {v:V} (h0:0<=k) (h:xs[k.toNat]?=some v):atI xs k=some v:=by
 have ek:k=((k.toNat:Nat):Int):=by omega
 have q:=zDM h;rw[← ek] at q;exact q
def zNo {n:Nat} {k:Int} (h0:0<=k) (h:k < n):ixN n k=some k.toNat:=by unfold ixN;rw[wG1 h0,wG1 h]
theorem zO4 {ns:List Int} {k:Int} (h0:0<=k) (h:k < (ns.length:Int)):ixN (ns.map V.int).length k=some k.toNat:=by rw[wGX];exact zNo h0 h
def zLR {ns:List Int} {j:Nat} {x:Int}:(ns.map V.int).set j (.int x)=(ns.set j x).map V.int:=by rw[List.map_set]
theorem zCg {ns:List Int} {x:Int}:ns.map V.int++[.int x]=(ns++[x]).map V.int:=by rw[wG9];rfl
section
variable {X:Cx}
def zEZ:zB6 X (.builtin "sorted") (λxs H Q=>∃(p:Addr) (ns:List Int),xs=[.ref p]/\SqL X.K H p (ns.map V.int)/\ns.length < 64/\∀(l:Addr) (ms:List Int),H l=none->ms.Perm ns->ms.Pairwise (·<=·)->Q (.ref l) (upd H l (.lst (ms.map V.int)))):=by
 intro pins s σ H xs us Q I r h;obtain⟨p,ns,rfl,hS,h64,q⟩:=h;obtain⟨u,rfl,ru⟩:=r.one;cases ru;obtain⟨its,rv,pl,hz⟩:=I.list hS;have hi:IntsAre its ns:=zCd rv;have hn:its.length=ns.length:=hi.length;refine sorted_ints pl.isList hi ∅ λout ms h1 h2 h3=>?_;obtain⟨e,he⟩:=sortedAll_at s.heap its out;have hl:H (s.heap.objs.size+1)=none:=I.hok.fresh (Nat.le_succ _);refine⟨.ref (s.heap.objs.size+1),upd H (s.heap.objs.size+1) (.lst (ms.map V.int)),I.laid (o:=.lst (ms.map V.int)) (t':=s.toks) (λb o q=>sortedAll_old q) (Nat.le_succ _) ⟨?_,out.toList,e,zDg h1,?_⟩,rfl,q _ ms hl h2 h3⟩
 ·rw[wGX,h2.length_eq];rw[wGX] at hz;exact hz
 rw[he]
theorem zO5 (K:W.Frag) (h:X.K=K:=by rfl):IxR X (zQL K):=by subst h;exact zQa
def zM8 (K:W.Frag) (h:X.K=K:=by rfl):IxR X (zQw K):=by subst h;exact zO3
def zAw (K:W.Frag) {es:List Expr} {k:Nat} {t:TGs} {n:Nat} {pos:Pos} (hc:X.calm=true) (h:PGs X es t)
  (hn:(assignEach es X.env).length=n:=by rfl) (bT:(assignEach es X.env).findIdx? (·.1)=none:=by rfl) (hK:X.K=K:=by rfl):PG X (.Tuple es k pos) (zRu K n t):=by subst hK;exact zPC hc h hn bT
def zAi (K:W.Frag) (h:X.K=K:=by rfl):zB6 X (.builtin "len") (λxs H Q=>RLen K xs H Q):=by subst h;exact zHs
def zLz (K:W.Frag) (hc:X.calm=true) (h:X.K=K:=by rfl):zB6 X (.builtin "sum") (λxs H Q=>RSum K xs H Q):=by subst h;exact zMM hc
def zPN (K:W.Frag) (h:X.K=K:=by rfl):OpR X (compareOp .In) (rIn K false):=by subst h;exact zK5
def zK6 (K:W.Frag) (h:X.K=K:=by rfl):OpR X (compareOp .NotIn) (rIn K true):=by subst h;exact zGN
end
abbrev zEg (xs:List Nat):Prop:=xs.Pairwise (· < ·)
def zEk {xs:Array Nat} (h:zEg xs.toList) {i j:Nat} (gF:i < j) (hj:j < xs.size):xs[i]' ∅ < xs[j]:=by have:=List.pairwise_iff_getElem.mp h i j (by simp;omega) (by simpa using hj) gF;simpa using this
structure Cut (xs:Array Nat) (j b:Nat):Prop where
 le:b<=xs.size
 lo:∀i,(h:i < xs.size)->i < b->xs[i] < j
 hi:∀i,(h:i < xs.size)->b<=i->j<=xs[i]
theorem zGu {xs:Array Nat} {j:Nat} (h:zEg xs.toList):∀(aL lo hi:Nat),lo<=hi->hi<=xs.size->hi-lo<=aL->(∀i,(q:i < xs.size)->i < lo->xs[i] < j)->(∀i,(q:i < xs.size)->hi<=i->j<=xs[i])->
  Cut xs j (SetTable.below.go xs j aL lo hi)
 | 0,lo,hi,h1,h2,h3,h4,h5=>by
  have e:lo=hi:=by omega
  subst e;exact⟨h2,h4,h5⟩
 | aL+1,lo,hi,h1,h2,h3,h4,h5=>by
  unfold SetTable.below.go;by_cases c:lo < hi
  ·rw[wG1 c];have hm:(lo+hi) / 2 < xs.size:=by omega
   have eg:xs.getD ((lo+hi) / 2) j=xs[(lo+hi) / 2]:=by simp[Array.getD,hm]
   dsimp only;rw[eg];by_cases d:xs[(lo+hi) / 2] < j
   ·rw[wG1 d];refine zGu h aL _ _ ∅ h2 ∅ (λi q bA=>?_) h5;by_cases e:i=(lo+hi) / 2
    ·subst e;exact d
    exact Nat.lt_trans (zEk h (show i < (lo+hi) / 2 by omega) hm) d
   rw[wGZ d];refine zGu h aL _ _ ∅ ∅ ∅ h4 λi q bA=>?_;by_cases e:i=(lo+hi) / 2
   ·subst e;omega
   have:=zEk h (show (lo+hi) / 2 < i by omega) q;omega
  rw[wGZ c];have e:lo=hi:=by omega
  subst e;exact⟨h2,h4,h5⟩
def zFa {xs:Array Nat} {j:Nat} (h:zEg xs.toList):Cut xs j (SetTable.below xs j):=
 zGu h _ _ _ (wHK _) (wG5 _) ∅ (λi _ hi=>by omega) (λi q hi=>by omega)
def zHg {xs:Array Nat} {j:Nat} (h:zEg xs.toList) (hn:xs[SetTable.below xs j]?≠some j):zEg (SetTable.insertAt xs (SetTable.below xs j) j).toList:=by
 have c:=zFa (j:=j) h;generalize SetTable.below xs j=b at c hn;rw[SetTable.toList_insertAt];unfold zEg;rw[List.pairwise_append];have hd:∀y∈xs.toList.drop b,j < y:=λy hy=>by
  obtain⟨i,hi,rfl⟩:=List.mem_iff_getElem.mp hy;rw[wHP,wHt] at hi;rw[List.getElem_drop,Array.getElem_toList];have h1:=c.hi (b+i) ∅ ∅;by_cases z:i=0
  ·subst z;have hb:b < xs.size:=by omega
   have:xs[b]?=some xs[b]:=wHO hb;rw[this] at hn;have h2:xs[b]≠j:=λe=>hn (by rw[e]);have h3:j<=xs[b]:=by simpa using h1
   show j < xs[b];omega
  have hb:b < xs.size:=by omega
  have h0:=c.hi b hb (wG5 _);have:=zEk h (show b < b+i by omega) ∅;omega
 have ht:∀y∈xs.toList.take b,y < j:=λy hy=>by obtain⟨i,hi,rfl⟩:=List.mem_iff_getElem.mp hy;rw[wHk,wHt] at hi;rw[List.getElem_take,Array.getElem_toList];exact c.lo i ∅ ∅
 refine⟨List.Pairwise.sublist (List.take_sublist _ _) h,List.pairwise_cons.mpr ⟨hd,List.Pairwise.sublist (List.drop_sublist _ _) h⟩,λy hy z hz=>?_⟩;rcases wIn hz with e | hz
 ·subst e;exact ht y hy
 exact Nat.lt_trans (ht y hy) (hd z hz)
structure Tab (t:SetTable) (led:Bool):Prop where
 led:t.led=led
 rise:t.plain=true->zEg t.place.toList/\t.dummies=#[]
theorem zIT {t:SetTable} {j:Nat} (h:t.slot j=.empty):t.place[SetTable.below t.place j]?≠some j:=by intro e;unfold SetTable.slot at h;simp[e] at h
def zLd (j:Nat):SetTable.has #[] j=false:=by unfold SetTable.has;simp
def zG4 {t:SetTable} {j:Nat} (h:t.dummies=#[]):t.slot j≠.dummy:=by
 intro e;unfold SetTable.slot at e;rw[h] at e;simp only[zLd] at e
 split at e<;>simp at e
theorem zEC {t:SetTable} {f:Nat->Int} {hh:Int} (hd:t.dummies=#[]):∀(aL:Nat) (p:SetTable.Probe) {j:Nat} {d:Option Nat},p.dummy=none->SetTable.probe.go t f hh aL p=some (.empty j d)->t.slot j=.empty/\d=none
 | 0,p,j,d,_,e=>by unfold SetTable.probe.go at e;cases e
 | aL+1,p,j,d,hp,e=>by
  unfold SetTable.probe.go at e;have adv:∀p:SetTable.Probe,p.dummy=none->(t.advance p).dummy=none:=λp h=>by unfold SetTable.advance;split<;>exact h
  cases q:t.slot p.j with
  | empty=>
   rw[q] at e;have e':SetTable.Met.empty p.j p.dummy=.empty j d:=wG8 e
   injection e' with e1 e2
   subst e1;exact⟨q,by rw[← e2];exact hp⟩
  | dummy=>exact absurd q (zG4 hd)
  | live i=>
   rw[q] at e;dsimp only at e
   split at e
   ·cases e
   exact zEC hd aL _ (adv p hp) e
def zJs {t:SetTable} {hh:Int} {j:Nat} {b:Bool} (hd:t.dummies=#[]) (e:t.freeSlot hh=some (j,b)):t.slot j=.empty:=by
 unfold SetTable.freeSlot at e;cases q:t.probe (λ_=>hh+1) hh (t.probeStart hh) with
 | none=>rw[q] at e;cases e
 | some m=>
  rw[q] at e;cases m with
  | candidate a b c=>cases e
  | empty i d=>
   have:=zEC hd _ _ rfl (show SetTable.probe.go t _ _ _ _=some (.empty i d) from q);obtain⟨h1,h2⟩:=this;subst h2;have e':(i,false)=(j,b):=wG8 e
   injection e' with e1 _
   subst e1;exact h1
def Tab.standIn {t:SetTable} {led:Bool} (h:Tab t led) (n:Nat):Tab (t.standIn n) led:=⟨h.led,λz=>by cases z⟩
def Tab.orStandIn {t:SetTable} {led:Bool} (h:Tab t led) (n:Nat):Tab (t.orStandIn n) led:=by
 unfold SetTable.orStandIn
 split
 ·exact h
 exact h.standIn n
def Tab.off {t:SetTable} {led:Bool} (h:Tab t led):Tab { t with plain:=false } led:=⟨h.led,λz=>by cases z⟩
def Tab.put {t:SetTable} {led:Bool} (h:Tab t led) {hh:Int} {j:Nat} {b:Bool} (e:t.freeSlot hh=some (j,b)):Tab (t.put j).1 led:=by refine⟨h.led,λz=>?_⟩;have z':t.plain=true:=z;obtain⟨h1,h2⟩:=h.rise z';refine⟨zHg h1 (zIT (zJs h2 e)),?_⟩;show (if SetTable.has t.dummies j=true then _ else t.dummies)=_;rw[h2,zLd];rfl
def Tab.layNew {t:SetTable} {led:Bool} (h:Tab t led) (es:Array (Int × Value)) (hh:Int) (x:Value):Tab (layNew t es hh x).2.1 led:=by
 unfold PySem.layNew;cases q:t.freeSlot hh with
 | none=>exact h.standIn _
 | some p=>
  obtain⟨j,b⟩:=p;exact (h.put q).orStandIn _
theorem zEP (g:Nat->Option Nat):∀l:List Nat,((l.filterMap λj=>(g j).map (j,·)).map (·.1))=l.filter λj=>(g j).isSome
 | []=>rfl
 | j::r=>by
  rw[List.filterMap_cons,List.filter_cons];cases q:g j with
  | none=>simpa using zEP g r
  | some i=>simpa using zEP g r
def Tab.relayAll {t:SetTable} {led:Bool} (h:Tab t led) (es:Array (Int × Value)) (n:Nat):Tab (relayAll t es n).2.1 led:=by
 unfold PySem.relayAll;cases q:t.relaid (es.map (·.1)) n with
 | none=>exact h.standIn _
 | some p=>
  obtain⟨t',order⟩:=p;dsimp only
  split
  ·unfold SetTable.relaid SetTable.laid at q;cases r:SetTable.layClean (SetTable.sizeAbove n-1) (es.map (·.1)) with
   | none=>rw[r] at q;cases q
   | some owner=>
    rw[r] at q;have e:=wG8 q
    injection e with e1 _
    subst e1;refine⟨h.led,λz=>⟨?_,rfl⟩⟩;show zEg ((((List.range _).filterMap λj=>(owner.getD j none).map (j,·)).map (·.1)).toArray).toList;rw[List.toList_toArray,zEP];exact List.Pairwise.filter _ List.pairwise_lt_range
  exact h.standIn _
def zCe (w:World):Bool:=w.params.followText "set-order"
def zDJ (es:List (Int × Value)):List Int:=es.map λe=>numOf e.2
def EsI (es:List (Int × Value)):Prop:=∀e∈es,e.1=hashInt (numOf e.2)/\∃tk,e.2=.int (numOf e.2) tk
def zFr (w:World) (h:Heap) (a:Addr) (ks:List Int):Prop:=
 ∃o es ep t,h.get? a=some o/\o.ExactSet/\o.data=.set es ep t/\EsI es.toList/\zDJ es.toList=ks/\ks.Nodup/\es.size < scanBound/\t.fits es.size=true/\Tab t (!zCe w)
def zFr.at {w:World} {h h':Heap} {a:Addr} {ks:List Int} (x:zFr w h a ks) (k:∀o,h.get? a=some o->h'.get? a=some o):zFr w h' a ks:=
 let ⟨o,es,ep,t,e,r⟩:=x;⟨o,es,ep,t,k o e,r⟩
section
variable {prog:Program} {w:World} {A:Around} {E:Value->Shared->Prop} {s:Shared} {a:Addr}
def EsI.elems {es:List (Int × Value)} (h:EsI es):ElemsOf (intKind prog w) es:=λe he=>by
 obtain⟨h1,tk,h2⟩:=h e he;refine⟨⟨numOf e.2,?_,h1⟩,?_⟩
 ·rw[h2];exact intKind_is _ _ _ _
 rw[h2];rfl
def EsI.perm {l l':List (Int × Value)} (h:EsI l) (p:l'.Perm l):EsI l':=λe he=>h e (p.mem_iff.mp he)
def zLi {es:List (Int × Value)} {x:Int} (h:EsI es) (e:es.findIdx? (λe=>(intKind prog w).is x e.2)=none):x∉zDJ es:=by intro hm;obtain⟨y,hy,e1⟩:=List.mem_map.mp hm;have q:=List.findIdx?_eq_none_iff.mp e y hy;obtain⟨_,tk,e2⟩:=h y hy;rw[e2,e1] at q;rw[intKind_is] at q;cases q
def zLh {es:List (Int × Value)} {x:Int} {j:Nat} (h:EsI es) (e:es.findIdx? (λe=>(intKind prog w).is x e.2)=some j):x∈zDJ es:=by
 obtain⟨hj,hp,_⟩:=List.findIdx?_eq_some_iff_getElem.mp e;obtain⟨_,tk,e2⟩:=h es[j] (wHs hj);refine List.mem_map.mpr ⟨es[j],wHs hj,?_⟩;have q:(intKind prog w).is (numOf es[j].2) es[j].2=true:=by have:=intKind_is prog w (numOf es[j].2) tk;rw[← e2] at this;exact this
 exact (intKind prog w).inj _ _ _ q hp
def zIH {b:Bool} {s₁:Shared} {Q':Unit->Shared->Prop} (q:Q' PUnit.unit s₁):wpAny (model prog w) A (match b with | true=>rule "set.scan.the-table-gave-way" | false=>pure PUnit.unit) Q' E s₁:=by
 cases b
 ·exact wG2 q
 exact wpAny_rule q
def zFr.store {h:Heap} {o:Obj} {es:Array (Int × Value)} {ep:Nat} {t:SetTable} (ho:h.get? a=some o) (hex:o.ExactSet) (hd:o.data=.set es ep t) {bR:Array (Int × Value)} {t':SetTable} {bN:List Int}
  (h1:EsI bR.toList) (h2:zDJ bR.toList=bN) (h3:bN.Nodup) (h4:bR.size < scanBound) (h5:t'.fits bR.size=true) (h6:Tab t' (!zCe w)) :
  (h.update a (Obj.putSet bR t')).get? a=some { o with data:=.set bR (ep+1) t' }/\zFr w (h.update a (Obj.putSet bR t')) a bN:=by
 have g:(h.update a (Obj.putSet bR t')).get? a=some { o with data:=.set bR (ep+1) t' }:=by
  have q:=wHS (Obj.putSet bR t') ho (by rw[putSet_of bR t' hd];rfl)
  rwa [putSet_of bR t' hd] at q
 exact⟨g,_,bR,ep+1,t',g,hex,rfl,h1,h2,h3,h4,h5,h6⟩
def zNT {x:Int} {tk:Tok} {ks:List Int} {Q:Bool->Shared->Prop} (hS:zFr w s.heap a ks) (room:ks.length+1 < scanBound)
  (h:∀(h':Heap) (bN:List Int) (b:Bool),Heap.SameBut a s.heap h'->zFr w h' a bN->(∀y,y∈bN↔y∈ks∨y=x)->bN.length<=ks.length+1->Q b { s with heap:=h' }) :
  wpAny (model prog w) A (setAddHashed a (.int x tk) (hashInt x)) Q E s:=by
 obtain⟨o,es,ep,t,ho,hex,hd,jI,kU,hnd,hb,hf,ht⟩:=id hS;have lk:ks.length=es.size:=by rw[← kU];unfold zDJ;rw[wGX,wHt]
 unfold setAddHashed setAddHashedIn;refine wHQ (wGY (wpAny_setState_of ho hd hf ?_));dsimp only;rw[byScan_of (knd:=intKind prog w) (x:=.int x tk) rfl hb jI.elems,wG1 rfl];unfold setAddByScan;refine wGY (wGY (wpAny_rule (wGY (wpAny_setScan_of (knd:=intKind prog w) (k:=x) (intKind_is _ _ _ _) ho hd hf jI.elems ?_))));cases hr:es.toList.findIdx? (λe=>(intKind prog w).is x e.2) with
 | some j=>
  have hx:x∈ks:=by rw[← kU];exact zLh jI hr
  refine wG2 (wG2 ?_);exact h s.heap ks false (Heap.SameBut.refl a s.heap) hS (λy=>⟨.inl,λz=>z.elim id λe=>e ▸ hx⟩) (Nat.le_succ _)
 | none=>
  have hx:x∉ks:=by rw[← kU];exact zLi jI hr
  dsimp only;have hp:=layNew_perm t es (hashInt x) (.int x tk);have cP:=layNew_fits t es (hashInt x) (.int x tk);have eM:=ht.layNew es (hashInt x) (.int x tk);show wpAny _ _ (match layNew t es (hashInt x) (.int x tk) with | (es,t,wasDummy,gave)=>_) _ _ s;generalize layNew t es (hashInt x) (.int x tk)=L at hp cP eM;obtain⟨aX,t1,dm,gv⟩:=L;dsimp only at hp cP eM ⊢;rw[Array.toList_push] at hp;have oB:EsI (es.toList++[(hashInt x,.int x tk)]):=λe he=>by
   rcases wIm he with z | z
   ·exact jI e z
   rw[wIj z];exact⟨rfl,tk,rfl⟩
  have jH:EsI aX.toList:=oB.perm hp;have kp:(zDJ aX.toList).Perm (ks++[x]):=by have:=hp.map λe:Int × Value=>numOf e.2;rw[wG9] at this;rw[← kU];exact this
  have jD:(zDJ aX.toList).Nodup:=kp.nodup_iff.mpr (by rw[List.nodup_append];exact⟨hnd,by simp,λy hy z hz=>by rw[wIj hz];exact λe=>hx (e ▸ hy)⟩);have sz1:aX.size=es.size+1:=by rw[← wHt,hp.length_eq,wG7,wHt];rfl
  have cW:aX.size < scanBound:=by omega
  have fin:∀(h':Heap) (bN:List Int),Heap.SameBut a s.heap h'->zFr w h' a bN->bN.Perm (ks++[x])->Q true { s with heap:=h' }:=λh' bN h1 h2 h3=>
   h h' bN true h1 h2 (λy=>by rw[h3.mem_iff,List.mem_append,List.mem_singleton]) (by rw[h3.length_eq,wG7];exact wG5 _)
  refine wGY (zIH ?_);have rest:∀t2:SetTable,t2.fits aX.size=true->Tab t2 (!zCe w)->wpAny (model prog w) A (do
    storeSet a aX t2
    if (!dm && t2.tooFull)=true then do
      (match (relayAll t2 aX (SetTable.grown aX.size)).2.2 with | true=>rule "set.scan.the-table-gave-way" | false=>pure PUnit.unit)
      storeSet a (relayAll t2 aX (SetTable.grown aX.size)).1 (relayAll t2 aX (SetTable.grown aX.size)).2.1
      pure (some true)
     else pure (some true)) (λr s'=>wpAny (model prog w) A (match r with | some added=>pure added | none=>setAddHashedIn a (.int x tk) (hashInt x) 99999) Q E s') E s:=λt2 f2 b2=>by
   refine wGY (wpAny_storeSet_of ho hd ?_ (fits_of_scanBound cW));obtain⟨g1,S1⟩:=zFr.store (w:=w) ho hex hd jH rfl jD cW f2 b2;have sb1:=Heap.SameBut.update s.heap a (Obj.putSet aX t2)
   split
   ·have rp:=relayAll_perm t2 aX (SetTable.grown aX.size);have rf:=relayAll_fits t2 aX (SetTable.grown aX.size);have rt:=b2.relayAll aX (SetTable.grown aX.size);generalize relayAll t2 aX (SetTable.grown aX.size)=R at rp rf rt;obtain⟨es2,t3,g2⟩:=R;dsimp only at rp rf rt ⊢;have kp2:=rp.map λe:Int × Value=>numOf e.2;have sz2:es2.size=aX.size:=by rw[← wHt,rp.length_eq,wHt]
    refine wGY (zIH (wGY (wpAny_storeSet_of g1 rfl ?_ (fits_of_scanBound ∅))));obtain⟨_,S2⟩:=zFr.store (w:=w) g1 hex rfl (jH.perm rp) rfl (kp2.nodup_iff.mpr jD) ∅ rf rt;exact wG2 (wG2 (fin _ _ (sb1.trans (Heap.SameBut.update _ a _)) S2 (kp2.trans kp)))
   exact wG2 (wG2 (fin _ _ sb1 S1 kp))
  split
  ·refine wGY ?_;rw[hashByValue_scannable 8 (x:=.int x tk) rfl];refine wG2 ?_;exact rest _ cP eM
  refine wGY (wG2 ?_);exact rest _ cP eM
end
section
variable {prog:Program} {w:World} {A:Around} {E:Value->Shared->Prop} {s:Shared}
abbrev zLS (w:World):Obj:={ cls:=.type "set",dict:=none,data:=.set #[] 0 (.fresh 0 0 (!zCe w)) }
def zNU {h:Heap} {a:Addr} (e:h.get? a=some (zLS w)):zFr w h a []:=
 ⟨_,#[],0,_,e,⟨rfl,rfl,rfl⟩,rfl,λe he=>by simp at he,rfl,List.nodup_nil,by decide,rfl,rfl,λ_=>⟨List.Pairwise.nil,rfl⟩⟩
def zNR (a:Value) {Q₁:Value->Shared->Prop} (h:Q₁ (.ref s.heap.objs.size) { s with heap:=s.heap.push (zLS w) }) :
  codeAny (model prog w) A (.call (.builtin "set.__new__") ⟨[.type "set",a],[]⟩) (wants Q₁ E) s:=by
 refine codeAny_of_tree ?_;show wpAny _ A.in1 (do checkBuiltinCall "set.__new__" ⟨[.type "set",a],[]⟩;again (.builtin "set.__new__" ⟨[.type "set",a],[]⟩)) _ _ s;refine wGY (wpAny_of_eq (F.newCall_set_1 a) (wG2 ⟨plainId_quiet F.plain_set_new _,codeAny_builtin F.entry_set_new ?_⟩));rw[Around.under_plainId F.plain_set_new _];unfold Builtin.«set.__new__» Builtin.Frozenset.newClass;have nP:=sub_set_self;obtain⟨hp,g,d,tk,os⟩:=s;dsimp only
 wp_walk
 refine wpAny_askSetting (wG2 ?_);dsimp only;simp only[newObj];refine wGY (wpAny_alloc (wG2 ?_));exact wG2 h
def zLQ {l it S:Addr} {items:Array Value} {ns:List Int} (hh:A.in1.handled=none) (hi:IntsAre items.toList ns) (hb:ns.length+1 < scanBound) (kT:l≠S) (hlI:l≠it) (oO:S≠it) {R:Result->Shared->Prop} :
  ∀(k i:Nat) (s:Shared) (ks:List Int),ns.length-i=k->i<=ns.length->s.heap.IsListIter it l i->s.heap.IsList l items->zFr w s.heap S ks->ks.length<=i->(∀y,y∈ks↔y∈ns.take i)->
   (∀(h':Heap) (tk:Nat) (bN:List Int),zFr w h' S bN->(∀y,y∈bN↔y∈ns)->bN.length<=ns.length->(∀b o,b≠S->b≠it->s.heap.get? b=some o->h'.get? b=some o)->R (.ok (.ret .none)) { s with heap:=h',toks:=tk })->
   codeAny (model prog w) A (.builtin "set.update.loop" ⟨[.ref S,.ref it],[]⟩) R s:=by
 intro k
 induction k with
 | zero=>
  intro i s ks e1 e2 h1 h2 h3 h4 h5 hR;have ei:i=ns.length:=by omega
  subst ei;refine codeAny_builtin F.entry_set_update_loop ?_;rw[Around.under_plainId F.plain_set_update_loop _];show wpAny _ A.in1 (pyNext (.ref it) >>= _) _ _ s;refine wGY (wpAny_pyNext_list_end hh h1 h2 (by have:=hi.length;simp at this;simp;omega) λh' eb=>?_);exact wG2 (hR h' s.toks ks (h3.at λo q=>eb _ o oO q) (λy=>by rw[h5 y,wHo]) h4 λb o _ n2 q=>eb b o n2 q)
 | succ k ih=>
  intro i s ks e1 e2 h1 h2 h3 h4 h5 hR;have aD:i < ns.length:=by omega
  have eN:items.size=ns.length:=by have:=hi.length;simpa using this
  refine codeAny_builtin F.entry_set_update_loop ?_;rw[Around.under_plainId F.plain_set_update_loop _];show wpAny _ A.in1 (pyNext (.ref it) >>= _) _ _ s;obtain⟨t,hv⟩:∃t,items[i]?=some (.int (ns.getD i 0) t):=by have hg:items[i]?=some items[i]:=wHO ∅;obtain⟨t,e⟩:=IntsAre.int_at hi i items[i] (by rw[wH8];exact hg);exact⟨t,by rw[hg,e]⟩
  refine wGY (wpAny_pyNext_list_item h1 h2 hv λh' o8 sb=>?_);show wpAny _ A.in1 (holding [Value.int (ns.getD i 0) t] (setAdd S (.int (ns.getD i 0) t)) >>= _) _ _ _;refine wGY (wHQ ?_);unfold setAdd;refine wHQ (wGY ((intKind prog w).pyHash (k:=ns.getD i 0) (intKind_is _ _ _ _) ?_));refine zNT (w:=w) (ks:=ks) (h3.at λo q=>sb.extBut _ o oO q) ∅ λh2' bN b cH S2 mem len=>?_;refine wG2 ⟨plainId_quiet F.plain_set_update_loop _,ih (i+1) _ bN ∅ aD (o8.extBut cH.extBut (Ne.symm oO)) ((h2.extBut sb.extBut hlI).extBut cH.extBut kT) S2 ∅ (λy=>?_) λh3' mR ks3 g1 g2 g3 g4=>?_⟩
  ·rw[mem y,h5 y,List.take_add_one,List.mem_append,wG4,wG0 aD];simp
  exact hR h3' mR ks3 g1 g2 g3 λb o n1 n2 q=>g4 b o n1 n2 (cH.extBut b o n1 (sb.extBut b o n2 q))
set_option maxHeartbeats 3200000 in
theorem zMO {l:Addr} {items:Array Value} {ns:List Int} {Q:Value->Shared->Prop} (hh:A.handled=none) (hl:s.heap.IsList l items) (hi:IntsAre items.toList ns) (hb:ns.length+1 < scanBound)
  (h:∀(h':Heap) (tk:Nat) (ks:List Int),zFr w h' s.heap.objs.size ks->(∀y,y∈ks↔y∈ns)->ks.length<=ns.length->(∀b o,s.heap.get? b=some o->h'.get? b=some o)->Q (.ref s.heap.objs.size) { s with heap:=h',toks:=tk }) :
  wpAny (model prog w) A (call (.type "set") [.ref l]) Q E s:=by
 obtain⟨c,tl,hmro⟩:=F.called_set.mro;have hmade:=F.called_set.made;have nP:=F.called_set.sub;have h1:=F.called_set.notType;have h2:=F.called_set.canCreate;have hct:=F.typeCall_set_1 (.ref l);refine wpAny_call (codeAny_of_tree ?_);show wpAny _ _ (callAny (.type "set") _) _ _ _;refine wG2 (And.intro (Code.quiet_builtin _ (by nofun)) (codeAny_builtin F.entry_type_call ?_));rw[Around.under_plain (weight_type_call_type "set" [.ref l] []) rfl]
 repeat (any_goals (first | assumption | wp_step))
 refine codeAny_mono (zNR (.ref l) (E:=E) (Q₁:=λobj s₁=>obj=.ref s.heap.objs.size/\s₁={ s with heap:=s.heap.push (zLS w) }) ⟨rfl,rfl⟩) λr s₁ hr=>?_;cases r with
 | error e=>exact hr
 | ok fl=>
  cases fl with
  | ret obj=>
   obtain⟨rfl,rfl⟩:=hr;have hS:(s.heap.push (zLS w)).get? s.heap.objs.size=some (zLS w):=wHb _ rfl;have hT:Shared.TypeIs { s with heap:=s.heap.push (zLS w) } (.ref s.heap.objs.size) "set":=⟨_,hS,rfl⟩;have hli:=F.called_set.init.lookup;have hbi:=F.called_set.init.bind (.ref s.heap.objs.size)
   repeat (any_goals (first | assumption | wp_step))
   refine codeAny_mono (codeAny_call_builtin (R:=wants (λr s₂=>r=.none/\∃h' tk ks,s₂={ s with heap:=h',toks:=tk }/\zFr w h' s.heap.objs.size ks/\(∀y,y∈ks↔y∈ns)/\ks.length<=ns.length/\
     (∀b o,s.heap.get? b=some o->h'.get? b=some o)) E) F.called_set.init.plain F.entry_set_init (check_set_init_1 hT ?_)) λr₂ s₂ hr₂=>?_
   ·obtain⟨⟨ocls,jj,odata,fZ⟩,nU,oE,nl,gJ⟩:=hl;simp only at oE gJ;subst oE;subst gJ;have nS:(s.heap.push (zLS w)).get? l=some { cls:=.type "list",dict:=jj,data:=.seq items nl,slots:=fZ }:=wG3 _ nU;have hsls:=F.sub_list_set;have hslf:=F.sub_list_frozenset;have aI:(Value.type "list" == Value.type "dict")=false:=by decide
    have aN:(s.heap.push (zLS w)).IsList l items:=⟨_,nS,rfl,nl,rfl⟩;unfold Builtin.«set.__init__» noKeywords Builtin.Frozenset.updateFrom;generalize hPI:pyIter=PI;wp_walk;subst hPI;refine wpAny_pyIter_list aN (wGY (wpAny_runValue ?_));have kT:l < s.heap.objs.size:=wHa nU;have z1:(s.heap.push (zLS w)).objs.size=s.heap.objs.size+1:=wHT ..;refine zLQ (w:=w) (items:=items) (ns:=ns) (by simp[hh]) hi hb (wHg kT) (by rw[z1];exact wHg (wH1 kT)) (by rw[z1];exact wHg (wHY _)) ns.length 0 _ [] ∅ (wHK _)
     ⟨_,wHb _ rfl,rfl,rfl⟩ (aN.push _) (zNU (wG3 _ hS)) (wG5 _) (λy=>by simp) λh' tk ks g1 g2 g3 g4=>?_
    refine wG2 (wG2 ⟨rfl,h',tk,ks,rfl,g1,g2,g3,λb o q=>?_⟩);have hb:=wHa q;exact g4 b o (wHg hb) (by rw[z1];exact wHg (wH1 hb)) (wG3 _ (wG3 _ q))
   cases r₂ with
   | error e=>exact hr₂
   | ok fl₂=>
    cases fl₂ with
    | ret r=>
     obtain⟨rfl,h',tk,ks,rfl,g1,g2,g3,g4⟩:=hr₂
     repeat (any_goals (first | assumption | wp_step))
     exact h h' tk ks g1 g2 g3 g4
    | _=>exact hr₂.elim
  | _=>exact hr.elim
end
abbrev zRh:=Array (Nat × Nat × Nat)
def SIn (xs:Array Keyed) (lo hi:Nat):Prop:=∀i j,lo<=i->i<=j->j < hi->K xs i<=K xs j
structure SB (a₀ b:Array Keyed) (lo:Nat) (pd:zRh) (st:SortSt):Prop where
 perm:(arrOf st).Perm a₀
 kind:kindOf st=oneType'
 failed:failedOf st=none
 pend:pendingOf st=pd
 blw:∀k,k < lo->K (arrOf st) k=K b k
section
variable {a₀ b:Array Keyed} {lo:Nat} {pd:zRh} {st:SortSt}
def SB.sz (h:SB a₀ b lo pd st):(arrOf st).size=a₀.size:=h.perm.size_eq
def SB.set (h:SB a₀ b lo pd st) {xs:Array Keyed} (hp:xs.Perm (arrOf st)) (hb:∀k,k < lo->K xs k=K (arrOf st) k):SB a₀ b lo pd (setArr st xs):=
 ⟨hp.trans h.perm,h.kind,h.failed,h.pend,λk hk=>(hb k hk).trans (h.blw k hk)⟩
end
def zKP (a b o:Array Keyed) (i j:Nat):=o++a.extract i a.size++b.extract j b.size
def zKQ (a b o:Array Keyed) (i j:Nat):=o++b.extract j b.size++a.extract i a.size
def Pw (l:List Keyed):Prop:=l.Pairwise λp q=>numOf p.1<=numOf q.1
structure MI (S o la lb:List Keyed):Prop where
 pa:Pw (o++la)
 pb:Pw (o++lb)
 pm:(o++la++lb).Perm S
def MI.swap {S o la lb:List Keyed} (h:MI S o la lb):MI S o lb la:=
 ⟨h.pb,h.pa,(by rw[wHD,wHD];exact List.Perm.append_left _ List.perm_append_comm:(o++lb++la).Perm (o++la++lb)).trans h.pm⟩
def MI.takeB {S o la p lb:List Keyed} (h:MI S o la (p++lb)) (hp:∀x∈p,∀y∈la,numOf x.1<=numOf y.1):MI S (o++p) la lb:=by
 refine⟨?_,by rw[wHD];exact h.pb,?_⟩
 ·have h1:=List.pairwise_append.mp h.pa;have h2:=List.pairwise_append.mp h.pb;have h3:=List.pairwise_append.mp h2.2.1;refine List.pairwise_append.mpr ⟨List.pairwise_append.mpr ⟨h1.1,h3.1,λx hx y hy=>h2.2.2 x hx y (List.mem_append_left _ hy)⟩,h1.2.1,λx hx y hy=>?_⟩;rcases wIm hx with hx | hx
  ·exact h1.2.2 x hx y hy
  exact hp x hx y hy
 refine List.Perm.trans ?_ h.pm;rw[wHD,wHD,wHD];refine List.Perm.append_left _ ?_;rw[← wHD,← wHD];exact List.Perm.append_right _ List.perm_append_comm
def MI.takeA {S o lb p la:List Keyed} (h:MI S o (p++la) lb) (hp:∀x∈p,∀y∈lb,numOf x.1<=numOf y.1):MI S (o++p) la lb:=(h.swap.takeB hp).swap
def Pw.sub {l l':List Keyed} (h:Pw l) (q:l'.Sublist l):Pw l':=List.Pairwise.sublist q h
def SIn.pw {xs:Array Keyed} (h:SIn xs 0 xs.size):Pw xs.toList:=by
 refine List.pairwise_iff_getElem.mpr λi j hi hj ij=>?_;have bA:i < xs.size:=by simpa using hi
 have iH:j < xs.size:=by simpa using hj
 have:=h i j (wHK _) (wH9 ij) iH;rw[K_eq bA,K_eq iH] at this;simpa using this
def zDu (xs:Array Keyed) (i:Nat):(xs.extract i xs.size).toList=xs.toList.drop i:=by rw[Array.toList_extract,List.extract_eq_take_drop];exact wHX (by simp)
def zF6 {xs:Array Keyed} {i:Nat} {y:Keyed} (h:y∈xs.toList.drop i):∃j,i<=j/\j < xs.size/\numOf y.1=K xs j:=by
 obtain⟨k,hk,e⟩:=List.mem_iff_getElem.mp h;have bE:i+k < xs.size:=by rw[wHP] at hk;simp at hk;omega
 refine⟨i+k,by omega,bE,?_⟩;rw[K_eq bE,← e];simp
section
variable {S:List Keyed} {a b o:Array Keyed} {i j:Nat}
abbrev LI (S:List Keyed) (a b o:Array Keyed) (i j:Nat):Prop:=MI S o.toList (a.toList.drop i) (b.toList.drop j)
def Gd (S:List Keyed) (r:Array Keyed):Prop:=r.toList.Perm S/\Pw r.toList
def LI.rest (h:LI S a b o i j) (e:b.size<=j):Gd S (zKP a b o i j):=by
 have z:b.toList.drop j=[]:=List.drop_eq_nil_of_le (by simpa using e);have w:(zKP a b o i j).toList=o.toList++a.toList.drop i++b.toList.drop j:=by unfold zKP;rw[wH5,wH5,zDu,zDu]
 refine⟨w ▸ h.pm,?_⟩;rw[w,z,wHx];exact h.pa
def LI.last (h:LI S a b o i j) (y:∀q,q < b.size->K b q<=K a i) (sa:SIn a 0 a.size):Gd S (zKQ a b o i j):=by
 have w:(zKQ a b o i j).toList=o.toList++b.toList.drop j++a.toList.drop i:=by unfold zKQ;rw[wH5,wH5,zDu,zDu]
 have h':MI S o.toList (a.toList.drop i) (b.toList.drop j++[]):=by rw[wHx];exact h
 have h2:=h'.takeB λx hx z hz=>by obtain⟨q,q1,q2,q3⟩:=zF6 hx;obtain⟨k,k1,k2,k3⟩:=zF6 hz;rw[k3,q3];exact Int.le_trans (y q q2) (sa i k (wHK _) k1 k2)
 exact⟨w ▸ h.swap.pm,w ▸ h2.pa⟩
end
def KS (st t:SortSt):Prop:=kindOf t=kindOf st/\arrOf t=arrOf st/\pendingOf t=pendingOf st/\failedOf t=failedOf st
def KS.g {st t:SortSt} (h:KS st t) (n:Nat):KS st (SortSt.mk' (kindOf t) (arrOf t) (pendingOf t) n (failedOf t)):=h
def zLc (a b o:Array Keyed) (i j:Nat):=a.extract 0 i++b.extract 0 j++o.reverse
def zIm (a b o:Array Keyed) (i j:Nat):=b.extract 0 j++a.extract 0 i++o.reverse
structure MH (S la lb r:List Keyed):Prop where
 pa:Pw (la++r)
 pb:Pw (lb++r)
 pm:(la++lb++r).Perm S
def MH.swap {S la lb r:List Keyed} (h:MH S la lb r):MH S lb la r:=⟨h.pb,h.pa,(List.Perm.append_right _ List.perm_append_comm).trans h.pm⟩
def MH.takeB {S la lb p r:List Keyed} (h:MH S la (lb++p) r) (hp:∀x∈la,∀y∈p,numOf x.1<=numOf y.1):MH S la lb (p++r):=by
 refine⟨?_,by rw[← wHD];exact h.pb,?_⟩
 ·have h1:=List.pairwise_append.mp h.pa;have h2:=List.pairwise_append.mp h.pb;have h3:=List.pairwise_append.mp h2.1;refine List.pairwise_append.mpr ⟨h1.1,List.pairwise_append.mpr ⟨h3.2.1,h1.2.1,λx hx y hy=>h2.2.2 x (wHp _ hx) y hy⟩,λx hx y hy=>?_⟩;rcases wIm hy with hy | hy
  ·exact hp x hx y hy
  exact h1.2.2 x hx y hy
 have e:la++lb++(p++r)=la++(lb++p)++r:=by simp only[wHD]
 rw[e];exact h.pm
def MH.takeA {S la lb p r:List Keyed} (h:MH S (la++p) lb r) (hp:∀x∈lb,∀y∈p,numOf x.1<=numOf y.1):MH S la lb (p++r):=(h.swap.takeB hp).swap
def zEo (xs:Array Keyed) (i:Nat):(xs.extract 0 i).toList=xs.toList.take i:=by rw[Array.toList_extract,List.extract_eq_take_drop];simp
def zF5 {xs:Array Keyed} {i:Nat} {y:Keyed} (h:y∈xs.toList.take i):∃j,j < i/\j < xs.size/\numOf y.1=K xs j:=by
 obtain⟨k,hk,e⟩:=List.mem_iff_getElem.mp h;have bE:k < i/\k < xs.size:=by rw[wHk] at hk;simp at hk;omega
 refine⟨k,bE.1,bE.2,?_⟩;rw[K_eq bE.2,← e];simp
section
variable {S:List Keyed} {a b o:Array Keyed} {i j:Nat}
abbrev HI (S:List Keyed) (a b o:Array Keyed) (i j:Nat):Prop:=MH S (a.toList.take i) (b.toList.take j) o.toList.reverse
def HI.rest (h:HI S a b o i j) (e:i=0):Gd S (zLc a b o i j):=by
 subst e;have w:(zLc a b o 0 j).toList=a.toList.take 0++b.toList.take j++o.toList.reverse:=by unfold zLc;rw[wH5,wH5,zEo,zEo,Array.toList_reverse]
 refine⟨w ▸ h.pm,?_⟩;rw[w];exact h.pb
def HI.first (h:HI S a b o i j) (y:∀q r,q < j->q < b.size->r < i->r < a.size->K b q<=K a r):Gd S (zIm a b o i j):=by
 have w:(zIm a b o i j).toList=b.toList.take j++a.toList.take i++o.toList.reverse:=by unfold zIm;rw[wH5,wH5,zEo,zEo,Array.toList_reverse]
 have h':MH S ([]++a.toList.take i) (b.toList.take j) o.toList.reverse:=h;have h2:=h'.takeA λx hx z hz=>by obtain⟨q,q1,q2,q3⟩:=zF5 hx;obtain⟨k,k1,k2,k3⟩:=zF5 hz;rw[k3,q3];exact y q k q1 q2 k1 k2
 refine⟨w ▸ h.swap.pm,?_⟩;rw[w,wHD];exact h2.pb
end
def zGy (xs:Array Keyed):Nat->List (Nat × Nat × Nat)->Nat->Prop
 | lo,[],hi=>lo=hi
 | lo,p::r,hi=>p.1=lo/\1<=p.2.1/\SIn xs lo (lo+p.2.1)/\zGy xs (lo+p.2.1) r hi
theorem zGy.le {xs:Array Keyed}:∀{lo:Nat} {l:List (Nat × Nat × Nat)} {hi:Nat},zGy xs lo l hi->lo+l.length<=hi
 | _,[],_,h=>wIf h
 | _,_::_,_,h=>by have:=zGy.le h.2.2.2;have:=h.2.1;rw[wHZ];omega
theorem zGy.split {xs:Array Keyed}:∀{l r:List (Nat × Nat × Nat)} {lo hi:Nat},zGy xs lo (l++r) hi->∃m,zGy xs lo l m/\zGy xs m r hi
 | [],_,lo,_,h=>⟨lo,rfl,h⟩
 | _::_,_,_,_,h=>let ⟨m,h1,h2⟩:=zGy.split h.2.2.2;⟨m,⟨h.1,h.2.1,h.2.2.1,h1⟩,h2⟩
theorem zGy.join {xs:Array Keyed}:∀{l r:List (Nat × Nat × Nat)} {lo m hi:Nat},zGy xs lo l m->zGy xs m r hi->zGy xs lo (l++r) hi
 | [],_,_,_,_,h,g=>by cases (h:_=_);exact g
 | _::_,_,_,_,_,h,g=>⟨h.1,h.2.1,h.2.2.1,zGy.join h.2.2.2 g⟩
def SIn.congr {xs ys:Array Keyed} {lo hi:Nat} (h:SIn xs lo hi) (e:∀k,lo<=k->k < hi->K ys k=K xs k):SIn ys lo hi:=λi j h1 h2 h3=>by rw[e i h1 ∅,e j ∅ h3];exact h i j h1 h2 h3
def zGy.congr {xs ys:Array Keyed}:∀{lo:Nat} {l:List (Nat × Nat × Nat)} {hi:Nat},zGy xs lo l hi->(∀k,lo<=k->k < hi->K ys k=K xs k)->zGy ys lo l hi
 | _,[],_,h,_=>h
 | _,_::_,_,h,e=>by have:=zGy.le h.2.2.2;exact⟨h.1,h.2.1,h.2.2.1.congr λk k1 k2=>e k k1 ∅,h.2.2.2.congr λk k1 k2=>e k ∅ k2⟩
def zQv {xs:Array Keyed} {m n q:Nat} (h:m+q < n) (hn:n<=xs.size):K (xs.extract m n) q=K xs (m+q):=by refine K_congr ?_;rw[Array.getElem?_extract,wG1 ∅]
theorem SIn.ext {xs:Array Keyed} {m n:Nat} (h:SIn xs m n) (hn:n<=xs.size):SIn (xs.extract m n) 0 (xs.extract m n).size:=λi j _ ij hj=>by
 have z:(xs.extract m n).size=n-m:=by rw[Array.size_extract];omega
 rw[z] at hj;rw[zQv ∅ hn,zQv ∅ hn];exact h _ _ ∅ ∅ ∅
theorem zFZ {α:Type}:∀{l:List α} {i:Nat} {x:α},l[i]?=some x->(x::l.eraseIdx i).Perm l
 | [],i,x,h=>by simp at h
 | a::l,0,x,h=>by
  obtain rfl:a=x:=by simpa using h
  exact List.Perm.refl _
 | a::l,i+1,x,h=>by have:=zFZ (l:=l) (i:=i) (x:=x) (by simpa using h);exact (List.Perm.swap a x _).trans (this.cons a)
theorem zKt {α:Type} (f:Nat->Nat):∀(aL k:Nat) (l:List α) (out:Array α),l.length<=aL->(pickOrder.go f aL k l out).toList.Perm (out.toList++l)
 | 0,k,l,out,h=>by obtain rfl:l=[]:=List.length_eq_zero_iff.mp ∅;show out.toList.Perm (out.toList++[]);rw[wHx]
 | aL+1,k,l,out,h=>by
  show (match l[f k%l.length]? with | some x=>pickOrder.go f aL (k+1) (l.eraseIdx (f k%l.length)) (out.push x) | none=>out).toList.Perm (out.toList++l);cases e:l[f k%l.length]? with
  | some x=>
   have hi:f k%l.length < l.length:=(wIi e).1;refine (zKt f aL (k+1) _ _ (by rw[List.length_eraseIdx_of_lt hi];omega)).trans ?_;rw[Array.toList_push,wHD];exact List.Perm.append_left _ (zFZ e)
  | none=>
   have:l=[]:=by
    rcases Nat.eq_zero_or_pos l.length with z | z
    ·exact List.length_eq_zero_iff.mp z
    exact absurd (List.getElem?_eq_none_iff.mp e) (Nat.not_le.mpr (Nat.mod_lt _ z))
   subst this;show out.toList.Perm (out.toList++[]);rw[wHx]
theorem zEE {α:Type} (f:Nat->Nat) (xs:Array α):(pickOrder f xs).toList.Perm xs.toList:=by have:=zKt f xs.size 0 xs.toList #[] (by simp);show (pickOrder.go f xs.size 0 xs.toList #[]).toList.Perm xs.toList;simpa using this
section
variable {prog:Program} {w:World} {A:Around} {E:Value->Shared->Prop} {s:Shared}
def zJ8 {src:Source} {n:Nat} {Q:Nat->Shared->Prop} (hn:n≠0) (h:∀i d,i < n->Q i { s with drawn:=d }):wpAny (model prog w) A (choose src n) Q E s:=
 λΓ p hΓ=>⟨hn,h _ _ (Nat.mod_lt _ (Nat.pos_of_ne_zero hn))⟩
theorem zJ7 {α:Type}:∀(n:Nat) (l:List α) (s:Shared) {Q:List α->Shared->Prop},l.length<=n->(∀r d,r.Perm l->Q r { s with drawn:=d })->wpAny (model prog w) A (drawOrder n l) Q E s
 | 0,l,s,Q,h,q=>by obtain rfl:l=[]:=List.length_eq_zero_iff.mp ∅;exact wG2 (q [] s.drawn (List.Perm.refl _))
 | n+1,[],s,Q,h,q=>wG2 (q [] s.drawn (List.Perm.refl _))
 | n+1,a::l,s,Q,h,q=>by show wpAny _ _ (do let i ← choose .order (a::l).length;match (a::l)[i]? with | some x=>(return x::(← drawOrder n ((a::l).eraseIdx i))) | none=>unsupported "internal:drawOrder") _ _ s;refine wGY (zJ8 (by simp) λi d hi=>?_);have e:=wG0 hi;rw[e];refine wGY (zJ7 n _ _ (by rw[List.length_eraseIdx_of_lt hi];simp only[wHZ] at h ⊢;omega) λr d' hr=>wG2 (q _ _ ((hr.cons _).trans (zFZ e))))
end
def zFq:entryFor table "set.__iter__"=some Builtin.«frozenset.__iter__»:=
 entryFor_alias (id':="frozenset.__iter__") (by kernel_rfl) rfl (by nofun) (by kernel_rfl)
def zAJ:Slot "set_iterator" "__next__" "set_iterator.__next__":=.of (owner:="set_iterator") (n:="__next__") (by rw[typeLookup_type,builtinLookup_eq_fast];kernel_rfl) (by nofun) (by nofun) (by nofun) (by first | exact .inl (by nofun) | exact .inr (by nofun)) (by rw[isSubtype_type];kernel_rfl)
def zDt:entryFor table "set_iterator.__next__"=some Builtin.«set_iterator.__next__»:=entryFor_of_fast (by kernel_rfl)
def zEa (a:Value):argsOk "set_iterator.__next__" ⟨[a],[]⟩:=by unfold argsOk;kernel_rfl
def zDQ:Slot "set_iterator" "__iter__" "set_iterator.__iter__":=.of (owner:="set_iterator") (n:="__iter__") (by rw[typeLookup_type,builtinLookup_eq_fast];kernel_rfl) (by nofun) (by nofun) (by nofun) (by first | exact .inl (by nofun) | exact .inr (by nofun)) (by rw[isSubtype_type];kernel_rfl)
def zGm:entryFor table "set_iterator.__iter__"=some Builtin.«dict_keyiterator.__iter__»:=
 entryFor_alias (id':="dict_keyiterator.__iter__") (by kernel_rfl) rfl (by nofun) (by kernel_rfl)
def zH0 (a:Value):argsOk "set_iterator.__iter__" ⟨[a],[]⟩:=by unfold argsOk;kernel_rfl
def zFx (a:Addr) (slot given ep0:Nat):setNext a slot given ep0=(do
 let (es,epoch,t) ← setState a
 if ← setsByText then
  if epoch != ep0 then unsupported "set_iterator.__next__:elements-changed"
  return ((← setWalk a)[given]?).map λe=>(e.2,slot)
 if !t.plain && decide (es.size > 1) then unsupported "set_iterator.__next__:the-table-is-plain-no-more"
 (if !t.led && !es.isEmpty then unsupported "set:maker-not-led" else pure PUnit.unit:Sem Unit)
 return match es[SetTable.below t.place slot]?,t.place[SetTable.below t.place slot]? with
  | some (_,x),some j=>some (x,j+1)
  | _,_=>none):=rfl
def zIX (a:Addr):setWalk a=(do
 let (es,epoch,t) ← setState a
 if ← setsByText then return pickOrder ((← ask).params.setOrder a epoch) es
 if !t.plain && decide (es.size > 1) then return (← drawOrder es.size es.toList).toArray
 (if !t.led && decide (es.size > 1) then unsupported "set:maker-not-led" else pure PUnit.unit:Sem Unit)
 return es):=rfl
def zHE (a:Addr):setDrawn a=(do
 let (es,_,t) ← setState a
 let zCe ← setsByText
 return !zCe && (!t.plain && decide (es.size > 1))):=rfl
section
variable {prog:Program} {w:World} {A:Around} {E:Value->Shared->Prop} {s:Shared} {a:Addr} {o:Obj} {es:Array (Int × Value)} {ep:Nat} {t:SetTable}
def zDf {Q:Bool->Shared->Prop} (h:Q (zCe w) s):wpAny (model prog w) A setsByText Q E s:=by unfold setsByText;exact wGY (wpAny_askSetting (wG2 h))
def zEq {slot i:Nat} {Q:Option (Value × Nat)->Shared->Prop} (ho:s.heap.get? a=some o) (hd:o.data=.set es ep t) (hf:t.fits es.size=true) (hb:zCe w=true)
  (h:Q (((pickOrder (w.params.setOrder a ep) es)[i]?).map λe=>(e.2,slot)) s):wpAny (model prog w) A (setNext a slot i ep) Q E s:=by
 rw[zFx];refine wGY (wpAny_setState_of ho hd hf (wGY (zDf ?_)));rw[hb];simp only[if_true,bne_self_eq_false,Bool.false_eq_true,if_false];rw[zIX];refine wGY (wGY (wpAny_setState_of ho hd hf (wGY (zDf ?_))));rw[hb];simp only[if_true];exact wGY (wpAny_askSetting (wG2 (wG2 h)))
def zDO {slot i:Nat} {Q:Option (Value × Nat)->Shared->Prop} (ho:s.heap.get? a=some o) (hd:o.data=.set es ep t) (hf:t.fits es.size=true) (hb:zCe w=false)
  (hp:(!t.plain && decide (es.size > 1))=false) (hl:t.led=true) (hs:SetTable.below t.place slot=i)
  (h:Q (match es[i]?,t.place[i]? with | some (_,x),some j=>some (x,j+1) | _,_=>none) s) {j:Nat}:wpAny (model prog w) A (setNext a slot j ep) Q E s:=by
 rw[zFx];refine wGY (wpAny_setState_of ho hd hf (wGY (zDf ?_)));rw[hb];dsimp only;rw[hp,hl,hs];simp only[Bool.false_eq_true,if_false,Bool.not_true,Bool.false_and];exact wGY (wG2 (wG2 h))
def zGz {p:Nat} {x:Int × Value} {Q:Value->Shared->Prop} (ho:s.heap.get? a=some o) (hd:o.data=.set es ep t) (hf:t.fits es.size=true) (hx:es[p]?=some x)
  (h:Q x.2 s):wpAny (model prog w) A (setNextDrawn a p ep) Q E s:=by
 unfold setNextDrawn;refine wGY (wpAny_setState_of ho hd hf ?_);simp only[bne_self_eq_false,Bool.false_eq_true,if_false];rw[hx];exact wG2 h
end
def zFd (w:World) (fp:List Addr) (h:Heap) (it S:Addr) (vs:List Value) (i:Nat):Prop:=
 ∃o es ep t first,h.get? S=some o/\o.data=.set es ep t/\t.fits es.size=true/\vs.length=es.size/\
  h.get? it=some { cls:=.type "set_iterator",dict:=none,data:=.fields #[first,rawInt i,.ref S,rawInt es.size,rawInt ep],slots:=#[] }/\
  ((zCe w=true/\(∃k:Nat,first=rawInt k)/\vs=(pickOrder (w.params.setOrder S ep) es).toList.map (·.2))∨
   (zCe w=false/\(!t.plain && decide (es.size > 1))=false/\t.led=true/\zEg t.place.toList/\(∃k:Nat,first=rawInt k/\SetTable.below t.place k=i)/\vs=es.toList.map (·.2))∨
   (∃(T:Addr) (ot:Obj) (pl:List Nat) (n:Nat),first=.ref T/\T∈fp/\T≠it/\h.get? T=some ot/\ot.data=.seq (pl.map λ(p:Nat)=>rawInt p).toArray n/\pl.length=es.size/\(∀p∈pl,p < es.size)/\vs=pl.map λp=>(es[p]?.map (·.2)).getD .none))
def zFd.frame {w:World} {fp:List Addr} {h h':Heap} {it S:Addr} {vs:List Value} {i:Nat} (x:zFd w fp h it S vs i) (hS:S∈fp) (hi:it∈fp) (k:∀b∈fp,∀o,h.get? b=some o->h'.get? b=some o):zFd w fp h' it S vs i:=by
 obtain⟨o,es,ep,t,first,e1,e2,e3,e4,e5,e6⟩:=x;refine⟨o,es,ep,t,first,k _ hS _ e1,e2,e3,e4,k _ hi _ e5,?_⟩;rcases e6 with e6 | e6 | ⟨T,ot,pl,n,f1,f2,f3,f4,f5⟩
 ·exact .inl e6
 ·exact .inr (.inl e6)
 exact .inr (.inr ⟨T,ot,pl,n,f1,f2,f3,k _ f2 _ f4,f5⟩)
def zFd.typeIs {w:World} {fp:List Addr} {s:Shared} {it S:Addr} {vs:List Value} {i:Nat} (x:zFd w fp s.heap it S vs i):s.TypeIs (.ref it) "set_iterator":=
 by
 obtain⟨_,_,_,_,_,_,_,_,_,e5,_⟩:=x;exact⟨_,e5,rfl⟩
def zJv {xs:Array Nat} {i:Nat} (h:zEg xs.toList) (hi:i < xs.size):SetTable.below xs (xs[i]+1)=i+1:=by
 have c:=zFa (j:=xs[i]+1) h;generalize SetTable.below xs (xs[i]+1)=b at c;rcases Nat.lt_trichotomy b (i+1) with q | q | q
 ·have:=c.hi i hi ∅;omega
 ·exact q
 have z:i+1 < xs.size:=by have:=c.le;omega
 have a1:=c.lo (i+1) z q;have a2:=zEk h (show i < i+1 by omega) z;omega
def zJu {xs:Array Nat} (h:zEg xs.toList):SetTable.below xs 0=0:=by
 have c:=zFa (j:=0) h;generalize SetTable.below xs 0=b at c;rcases Nat.eq_zero_or_pos b with q | q
 ·exact q
 have:=c.lo 0 (by have:=c.le;omega) q;omega
section
variable {s:Shared} {it:Addr}
def zFw (it:Addr):Builtin.«set_iterator.__next__» ⟨[.ref it],[]⟩=(do
 let [first,.int i _,s,.int size _,.int epoch _]:=(← fieldsOf (.ref it)).toList | unsupported "internal:set_iterator"
 let .ref a:=s | rule "set_iterator.__next__.exhausted-before";raiseNew (← newExc (.type "StopIteration") [])
 if ((← setEntries a).size:Int) != size then
  rule "set_iterator.__next__.size-changed"
  setField (.ref it) 3 (rawInt (-1))
  raiseError "RuntimeError" "Set changed size during iteration"
 if let .int slot _:=first then
  match ← setNext a slot.toNat i.toNat epoch.toNat with
  | some (x,next)=>
   setField (.ref it) 0 (rawInt next)
   setField (.ref it) 1 (rawInt (i+1))
   ret x
  | none=>setField (.ref it) 2 .none;raiseNew (← newExc (.type "StopIteration") [])
 else
  let some places ← seqItems? first | unsupported "internal:set_iterator"
  match places[i.toNat]? with
  | some (.int place _)=>
   let x ← setNextDrawn a place.toNat epoch.toNat
   setField (.ref it) 1 (rawInt (i+1))
   ret x
  | some _=>unsupported "internal:set_iterator"
  | none=>setField (.ref it) 0 (rawInt 0);setField (.ref it) 2 .none;raiseNew (← newExc (.type "StopIteration") [])):=rfl
end
abbrev zIV (f i r n e:Value):Obj:={ cls:=.type "set_iterator",dict:=none,data:=.fields #[f,i,r,n,e],slots:=#[] }
section
variable {prog:Program} {w:World} {A:Around} {E:Value->Shared->Prop} {s:Shared} {it S:Addr} {vs:List Value} {fp:List Addr}
def zD2 {a:Addr} {o:Obj} {es:Array (Int × Value)} {ep:Nat} {t:SetTable} {Q:Array (Int × Value)->Shared->Prop} (ho:s.heap.get? a=some o) (hd:o.data=.set es ep t) (hf:t.fits es.size=true) (h:Q es s) :
  wpAny (model prog w) A (setEntries a) Q E s:=by
 unfold setEntries;exact wGY (wpAny_setState_of ho hd hf (wG2 h))
def zJR {f i r n e x:Value} {Q:Unit->Shared->Prop} (ho:s.heap.get? it=some (zIV f i r n e)) (h:∀h',h'.get? it=some (zIV x i r n e)->Heap.SameBut it s.heap h'->Q PUnit.unit { s with heap:=h' }):wpAny (model prog w) A (setField (.ref it) 0 x) Q E s:=
 wpAny_setField_rec ho (by simp) h
def zJQ {f i r n e x:Value} {Q:Unit->Shared->Prop} (ho:s.heap.get? it=some (zIV f i r n e)) (h:∀h',h'.get? it=some (zIV f x r n e)->Heap.SameBut it s.heap h'->Q PUnit.unit { s with heap:=h' }):wpAny (model prog w) A (setField (.ref it) 1 x) Q E s:=
 wpAny_setField_rec ho (by simp) h
def zJP {f i r n e x:Value} {Q:Unit->Shared->Prop} (ho:s.heap.get? it=some (zIV f i r n e)) (h:∀h',h'.get? it=some (zIV f i x n e)->Heap.SameBut it s.heap h'->Q PUnit.unit { s with heap:=h' }):wpAny (model prog w) A (setField (.ref it) 2 x) Q E s:=
 wpAny_setField_rec ho (by simp) h
def zNI {i:Nat} {v:Value} {Q:Option Value->Shared->Prop} (x:zFd w fp s.heap it S vs i) (aI:S≠it) (hS:S∈fp) (hi:it∈fp) (e:vs[i]?=some v)
  (hQ:∀h',zFd w fp h' it S vs (i+1)->Heap.ExtBut it s.heap h'->Q (some v) { s with heap:=h' }):wpAny (model prog w) A (pyNext (.ref it)) Q E s:=by
 have tp:=x.typeIs;obtain⟨o,es,ep,t,first,e1,e2,e3,e4,e5,e6⟩:=x;unfold pyNext;refine wGY (wpAny_attempt (wpAny_callSpecial?_slot (name:=Str.ofString "__next__") tp zAJ (wpAny_call_entry zAJ tp zDt ?_ (zEa _))));rw[zFw];refine wGY (wpAny_fieldsOf e5 rfl ?_);show wpAny _ _ (setEntries S >>= _) _ _ s;refine wGY (zD2 e1 e2 e3 ?_);rw[wGZ (by simp)];have lt:i < es.size:=by rw[← e4];exact (wIi e).1
 rcases e6 with ⟨b,⟨k,rfl⟩,rfl⟩ | ⟨b,b2,b3,b4,⟨k,rfl,b5⟩,rfl⟩ | ⟨T,ot,pl,n,rfl,f1,f2,f3,f4,f5,f6,rfl⟩
 ·show wpAny _ _ (setNext S k i ep >>= _) _ _ s;have e':((pickOrder (w.params.setOrder S ep) es)[i]?).map (·.2)=some v:=by rw[wG6,wH8] at e;exact e
  obtain⟨y,y1,rfl⟩:=wIk e';refine wGY (zEq e1 e2 e3 b ?_);rw[y1];refine wGY (zJR e5 λh1 q1 k1=>wGY (zJQ q1 λh2 q2 k2=>wG2 ⟨_,rfl,wG2 (hQ h2 ?_ ?_)⟩))
  ·exact⟨o,es,ep,t,_,k2.extBut _ _ aI (k1.extBut _ _ aI e1),e2,e3,e4,q2,.inl ⟨b,⟨k,rfl⟩,rfl⟩⟩
  exact λc ob hc q=>k2.extBut _ _ hc (k1.extBut _ _ hc q)
 ·show wpAny _ _ (setNext S k i ep >>= _) _ _ s;rw[wG6,wH8] at e;obtain⟨y,y1,rfl⟩:=wIk e;have pz:i < t.place.size:=by have:=e3;simp only[SetTable.fits,wHw,beq_iff_eq,decide_eq_true_eq] at this;omega
  refine wGY (zDO e1 e2 e3 b b2 b3 b5 ?_);rw[y1,wHO pz];refine wGY (zJR e5 λh1 q1 k1=>wGY (zJQ q1 λh2 q2 k2=>wG2 ⟨_,rfl,wG2 (hQ h2 ?_ ?_)⟩))
  ·exact⟨o,es,ep,t,_,k2.extBut _ _ aI (k1.extBut _ _ aI e1),e2,e3,e4,q2,.inr (.inl ⟨b,b2,b3,b4,⟨t.place[i]+1,rfl,zJv b4 pz⟩,rfl⟩)⟩
  exact λc ob hc q=>k2.extBut _ _ hc (k1.extBut _ _ hc q)
 show wpAny _ _ (seqItems? (.ref T) >>= _) _ _ s;refine wGY (wpAny_seqItems f3 f4 ?_);have li:i < pl.length:=by omega
 have g1:(pl.map λ(p:Nat)=>rawInt p).toArray[((i:Nat):Int).toNat]?=some (rawInt (pl[i]:Nat)):=by rw[wHn,List.getElem?_toArray,wG6,wG0 li];rfl
 show wpAny _ _ (match (pl.map λ(p:Nat)=>rawInt p).toArray[((i:Nat):Int).toNat]? with | some (.int place _)=>_ | some _=>_ | none=>_) _ _ s;rw[g1];show wpAny _ _ (setNextDrawn S pl[i] ep >>= _) _ _ s;have lp:pl[i] < es.size:=f6 _ (wHs li);have g2:es[pl[i]]?=some es[pl[i]]:=wHO lp;refine wGY (zGz e1 e2 e3 g2 ?_);have g3:es[pl[i]].2=v:=by rw[wG6,wG0 li] at e;have:=wG8 e;dsimp only at this;rw[g2] at this;exact this
 rw[g3];refine wGY (zJQ e5 λh2 q2 k2=>wG2 ⟨_,rfl,wG2 (hQ h2 ?_ ?_)⟩)
 ·exact⟨o,es,ep,t,_,k2.extBut _ _ aI e1,e2,e3,e4,q2,.inr (.inr ⟨T,ot,pl,n,rfl,f1,f2,k2.extBut _ _ f2 f3,f4,f5,f6,rfl⟩)⟩
 exact λc ob hc q=>k2.extBut _ _ hc q
def zFK {Q:Option Value->Shared->Prop} (hh:A.handled=none) (hQ:∀h',(∀b ob,s.heap.get? b=some ob->h'.get? b=some ob)->Q none { s with heap:=h' }) :
  wpAny (model prog w) A.in1 (do raiseNew (← newExc (.type "StopIteration") []):Sem Fin) (λa s'=>∃v,a=.done (.ret v)/\wpAny (model prog w) A (pure (some v)) Q E s')
   (λe s'=>wpAny (model prog w) A (do if ← isInstance e (.type "StopIteration") then pure none else throw e) Q E s') s:=by
 refine wGY ?_;simp only[newExc,newTuple];refine wGY (wHL ?_ (by size_fits));refine wGY (m:=firstArgMember _ _) (wpAny_of_eq (a:=Value.none) (by first | rfl | (simp only[firstArgMember];rfl)) ?_);refine wHL ?_ (by size_fits);simp only[raiseNew];refine wGY (wpAny_handled ?_);rw[show A.in1.handled=none from hh];refine wGY (wG2 (wpAny_throw ?_));refine wGY (wpAny_isInstance (T:="StopIteration") (b:=true) ⟨_,wHb _ rfl,rfl⟩ isSubtype_stop ?_);exact wG2 (hQ _ λb ob q=>wG3 _ (wG3 _ q))
def zNJ {Q:Option Value->Shared->Prop} (hh:A.handled=none) (x:zFd w fp s.heap it S vs vs.length) (hQ:∀h',Heap.ExtBut it s.heap h'->Q none { s with heap:=h' }):wpAny (model prog w) A (pyNext (.ref it)) Q E s:=by
 have tp:=x.typeIs;obtain⟨o,es,ep,t,first,e1,e2,e3,e4,e5,e6⟩:=x;unfold pyNext;refine wGY (wpAny_attempt (wpAny_callSpecial?_slot (name:=Str.ofString "__next__") tp zAJ (wpAny_call_entry zAJ tp zDt ?_ (zEa _))));rw[zFw];refine wGY (wpAny_fieldsOf e5 rfl ?_);show wpAny _ _ (setEntries S >>= _) _ _ s;refine wGY (zD2 e1 e2 e3 ?_);rw[wGZ (by simp)];rcases e6 with ⟨b,⟨k,rfl⟩,rfl⟩ | ⟨b,b2,b3,b4,⟨k,rfl,b5⟩,rfl⟩ | ⟨T,ot,pl,n,rfl,f1,f2,f3,f4,f5,f6,rfl⟩
 ·show wpAny _ _ (setNext S k _ ep >>= _) _ _ s;refine wGY (zEq e1 e2 e3 b ?_);rw[Array.getElem?_eq_none (by rw[wGX];simp)];refine wGY (zJP e5 λh1 q1 k1=>?_);exact zFK hh λh' k'=>hQ h' λc ob hc q=>k' _ _ (k1.extBut _ _ hc q)
 ·show wpAny _ _ (setNext S k _ ep >>= _) _ _ s;refine wGY (zDO e1 e2 e3 b b2 b3 b5 ?_);rw[Array.getElem?_eq_none (by rw[wGX];simp)];refine wGY (zJP e5 λh1 q1 k1=>?_);exact zFK hh λh' k'=>hQ h' λc ob hc q=>k' _ _ (k1.extBut _ _ hc q)
 show wpAny _ _ (seqItems? (.ref T) >>= _) _ _ s;refine wGY (wpAny_seqItems f3 f4 ?_);have g1:(pl.map λ(p:Nat)=>rawInt p).toArray[(((pl.map λp=>(es[p]?.map (·.2)).getD .none).length:Nat):Int).toNat]?=none:=by rw[wHn,List.getElem?_toArray,wH0 (by simp)]
 show wpAny _ _ (match (pl.map λ(p:Nat)=>rawInt p).toArray[(((pl.map λp=>(es[p]?.map (·.2)).getD .none).length:Nat):Int).toNat]? with | some (.int place _)=>_ | some _=>_ | none=>_) _ _ s;rw[g1];refine wGY (zJR e5 λh0 q0 k0=>wGY (zJP q0 λh1 q1 k1=>?_));exact zFK hh λh' k'=>hQ h' λc ob hc q=>k' _ _ (k1.extBut _ _ hc (k0.extBut _ _ hc q))
def zNH {i:Nat} {Q:Value->Shared->Prop} (x:zFd w fp s.heap it S vs i) (h:Q (.ref it) s):wpAny (model prog w) A (pyIter (.ref it)) Q E s:=by refine wpAny_pyIter_slot x.typeIs zDQ (wpAny_call_entry zDQ x.typeIs zGm ?_ (zH0 _));show wpAny _ _ (ret (.ref it)) _ _ s;exact wG2 ⟨_,rfl,"set_iterator",_,x.typeIs,zAJ.lookup,h⟩
def zLI (hh:A.handled=none) (aI:S≠it) (hS:S∈fp) (hi:it∈fp):Walks prog w A it fp [it] vs.length (λi v=>vs[i]?=some v) (λi h=>zFd w fp h it S vs i) where
 sub:=λb hb=>by rw[wIj hb];exact hi
 frame:=λ_ _ _ x k=>x.frame hS hi k
 item:=λi s Q E lt x hQ=>zNI x aI hS hi (wG0 lt) λh' x' k=>hQ _ h' s.toks (wG0 lt) x' λb o hb q=>k b o (λe=>hb (by simp[e])) q
 done:=λs Q E x hQ=>zNJ hh x λh' k=>hQ h' s.toks λb o hb q=>k b o (λe=>hb (by simp[e])) q
 self:=λ_ _ _ _ x h=>zNH x h
end
section
variable {prog:Program} {w:World} {A:Around} {E:Value->Shared->Prop} {s:Shared} {S:Addr}
def EsI.ints:∀{l:List (Int × Value)},EsI l->IntsAre (l.map (·.2)) (zDJ l)
 | [],_=>.nil
 | e::l,h=>by obtain⟨_,tk,e2⟩:=h e (wH4 ..);have h':EsI l:=λx hx=>h x (wHR _ hx);show IntsAre (e.2::l.map (·.2)) (numOf e.2::zDJ l);rw[e2];exact .cons _ tk h'.ints
def zHc {l l':List (Int × Value)} (p:l.Perm l'):(zDJ l).Perm (zDJ l'):=p.map _
def zOk {es:Array (Int × Value)} {pl:List Nat} (p:pl.Perm (List.range es.size)):∃l:List (Int × Value),l.Perm es.toList/\(pl.map λp=>(es[p]?.map (·.2)).getD Value.none)=l.map (·.2):=by
 refine⟨pl.map λp=>es.getD p (0,.none),?_,?_⟩
 ·refine (p.map _).trans (List.Perm.of_eq ?_);refine List.ext_getElem (by simp) λi h1 h2=>?_;have hi:i < es.size:=by simpa using h1
  simp[hi]
 rw[List.map_map];refine List.map_congr_left λq hq=>?_;have:q < es.size:=List.mem_range.mp (p.mem_iff.mp hq);simp[this]
theorem zNA {a:Addr} {o:Obj} {es:Array (Int × Value)} {ep:Nat} {t:SetTable} {Q:Nat->Shared->Prop} (ho:s.heap.get? a=some o) (hd:o.data=.set es ep t) (hf:t.fits es.size=true) (h:Q es.size s) :
  wpAny (model prog w) A (Builtin.Frozenset.sizeOf a) Q E s:=by
 unfold Builtin.Frozenset.sizeOf;exact wGY (zD2 ho hd hf (wG2 h))
def zIO {a:Addr} {o:Obj} {es:Array (Int × Value)} {ep:Nat} {t:SetTable} {Q:Bool->Shared->Prop} (ho:s.heap.get? a=some o) (hd:o.data=.set es ep t) (hf:t.fits es.size=true)
  (h:Q (!zCe w && (!t.plain && decide (es.size > 1))) s):wpAny (model prog w) A (setDrawn a) Q E s:=by
 rw[zHE];exact wGY (wpAny_setState_of ho hd hf (wGY (zDf (wG2 h))))
def zO6 (S:Addr):Builtin.«frozenset.__iter__» ⟨[.ref S],[]⟩=(do
 let n ← Builtin.Frozenset.sizeOf S
 let first ← if ← setDrawn S then newTuple ((← drawOrder n (List.range n)).map λ(i:Nat)=>rawInt i) else pure (rawInt 0)
 ret (← newFields "set_iterator" [first,rawInt 0,.ref S,rawInt n,rawInt (← setEpoch S)])):=rfl
def zM9 {ks:List Int} {Q:Value->Shared->Prop} (x:zFr w s.heap S ks)
  (h:∀(h':Heap) d it vs ns fp,IntsAre vs ns->ns.Perm ks->zFd w fp h' it S vs 0->S∈fp->it∈fp->S≠it->(∀b∈fp,b < h'.objs.size)->(∀b∈fp,b=S∨s.heap.objs.size<=b)->(∀b o,s.heap.get? b=some o->h'.get? b=some o)->
   Q (.ref it) { s with heap:=h',drawn:=d }):wpAny (model prog w) A (pyIter (.ref S)) Q E s:=by
 obtain⟨o,es,ep,t,e1,e2,e3,e4,e5,e6,e7,e8,tab⟩:=x;have hT:s.TypeIs (.ref S) "set":=⟨o,e1,e2.1⟩;refine wpAny_pyIter_slot hT F.slot_set_iter (wpAny_call_entry F.slot_set_iter hT zFq ?_ (F.args_set_iter_1 _));rw[zO6];refine wGY (zNA e1 e3 e8 (wGY (zIO e1 e3 e8 ?_)));have aD:=wHa e1;have plc:t.place.size=es.size:=by have:=e8;simp only[SetTable.fits,wHw,beq_iff_eq,decide_eq_true_eq] at this;exact this.1
 cases hb:zCe w with
 | true=>
  simp only[Bool.not_true,Bool.false_and,Bool.false_eq_true,if_false];refine wGY (wG2 (wGY (wpAny_setEpoch_of e1 e3 e8 (wGY (wHL (wG2 ⟨_,rfl,"set_iterator",_,⟨_,wHb _ rfl,rfl⟩,zAJ.lookup,?_⟩))))));refine h _ s.drawn s.heap.objs.size ((pickOrder (w.params.setOrder S ep) es).toList.map (·.2)) _ [S,s.heap.objs.size] (EsI.ints (e4.perm (zEE _ _))) (e5 ▸ zHc (zEE _ _)) ?_ (by simp) (by simp) (wHg aD) (λb hb=>?_) (λb hb=>by
    simp only[wHN,wHE,or_false] at hb;rcases hb with rfl | rfl
    ·exact .inl rfl
    exact .inr (wG5 _)) λb o q=>wG3 _ q
  ·exact⟨o,es,ep,t,_,wG3 _ e1,e3,e8,by rw[wGX,(zEE _ _).length_eq];simp,wHb _ rfl,.inl ⟨hb,⟨0,rfl⟩,rfl⟩⟩
  rw[wHT];simp only[wHN,wHE,or_false] at hb;rcases hb with rfl | rfl
  ·exact wH1 aD
  exact wHY _
 | false=>
  simp only[Bool.not_false,Bool.true_and];cases hp:(!t.plain && decide (es.size > 1)) with
  | false=>
   simp only[Bool.false_eq_true,if_false];refine wGY (wG2 (wGY (wpAny_setEpoch_of e1 e3 e8 (wGY (wHL (wG2 ⟨_,rfl,"set_iterator",_,⟨_,wHb _ rfl,rfl⟩,zAJ.lookup,?_⟩))))));have ris:zEg t.place.toList:=by
    cases aK:t.plain with
    | true=>exact (tab.rise aK).1
    | false=>
     rw[aK] at hp;have:es.size<=1:=by simpa using hp
     match hq:t.place.toList with
     | []=>exact List.Pairwise.nil
     | [a]=>exact List.pairwise_singleton _ _
     | a::b::r=>
      have:=congrArg List.length hq;simp at this;omega
   refine h _ s.drawn s.heap.objs.size (es.toList.map (·.2)) _ [S,s.heap.objs.size] (EsI.ints e4) (e5 ▸ List.Perm.refl _) ?_ (by simp) (by simp) (wHg aD) (λb hb=>?_) (λb hb=>by
    simp only[wHN,wHE,or_false] at hb;rcases hb with rfl | rfl
    ·exact .inl rfl
    exact .inr (wG5 _)) λb o q=>wG3 _ q
   ·exact⟨o,es,ep,t,_,wG3 _ e1,e3,e8,by simp,wHb _ rfl,.inr (.inl ⟨hb,hp,by rw[tab.led,hb];rfl,ris,⟨0,rfl,zJu ris⟩,rfl⟩)⟩
   rw[wHT];simp only[wHN,wHE,or_false] at hb;rcases hb with rfl | rfl
   ·exact wH1 aD
   exact wHY _
  | true=>
   simp only[if_true];refine wGY (zJ7 _ _ _ (by simp) λpl d aK=>?_);have pz:pl.length=es.size:=by rw[aK.length_eq,wIh]
   refine wGY (wpAny_newTuple ?_ (by rw[wGX,pz];exact wHe (wH9 e7) ⋯));have z1:∀ob,(s.heap.push ob).objs.size=s.heap.objs.size+1:=λob=>wHT ..;have fi:=wG3 ({ cls:=.type "tuple",data:=.seq (pl.map λ(i:Nat)=>rawInt i).toArray }:Obj) e1;refine wGY (wpAny_setEpoch_of fi e3 e8 (wGY (wHL (wG2 ⟨_,rfl,"set_iterator",_,⟨_,wHb _ rfl,rfl⟩,zAJ.lookup,?_⟩))));dsimp only;rw[z1];obtain⟨l,l1,l2⟩:=zOk aK;refine h _ d (s.heap.objs.size+1) (pl.map λp=>(es[p]?.map (·.2)).getD .none) (zDJ l) [S,s.heap.objs.size,s.heap.objs.size+1] (l2 ▸ EsI.ints (e4.perm l1)) (e5 ▸ zHc l1) ?_ (by simp) (by simp) (wHg (wH1 aD)) (λb hb=>?_) (λb hb=>by
    simp only[wHN,wHE,or_false] at hb;rcases hb with rfl | rfl | rfl
    ·exact .inl rfl
    ·exact .inr (wG5 _)
    exact .inr (Nat.le_succ _)) λb o q=>wG3 _ (wG3 _ q)
   ·refine⟨o,es,ep,t,.ref s.heap.objs.size,wG3 _ fi,e3,e8,by rw[wGX,pz],?_,.inr (.inr ⟨s.heap.objs.size,_,pl,0,rfl,by simp,wHg (wHY _),wG3 _ (wHb _ rfl),rfl,pz,λp hp=>List.mem_range.mp (aK.mem_iff.mp hp),rfl⟩)⟩;rw[← z1 ({ cls:=.type "tuple",data:=.seq (pl.map λ(i:Nat)=>rawInt i).toArray }:Obj)];exact wHb _ rfl
   rw[wHT,z1];simp only[wHN,wHE,or_false] at hb;rcases hb with rfl | rfl | rfl
   ·exact wH1 (wH1 aD)
   ·exact wH1 (wHY _)
   exact wHY _
end
def zHD:typeLookup (.type "set") "__len__"=pure (some (.builtin "set.__len__")):=F.slot_set_len.lookup
def zKV {vs:List Value} {aE:Array Value} (h:ItemsOf (λi v=>vs[i]?=some v) aE vs.length):aE.toList=vs:=by
 refine List.ext_getElem? λi=>?_;rw[wH8];rcases Nat.lt_or_ge i aE.size with q | q
 ·rw[h.2 i aE[i] (wHO q),wHO q]
 rw[Array.getElem?_eq_none q,wH0 (by rw[← h.1];exact q)]
section
variable {prog:Program} {w:World} {A:Around} {E:Value->Shared->Prop} {s:Shared} {S:Addr}
set_option maxHeartbeats 3200000 in
theorem zIp {ks:List Int} {Q:List Value->Shared->Prop} (hh:A.handled=none) (x:zFr w s.heap S ks)
  (hQ:∀s' vs ns,IntsAre vs ns->ns.Perm ks->(∀b o,s.heap.get? b=some o->s'.heap.get? b=some o)->s'.gens=s.gens->s'.os=s.os->s.heap.objs.size<=s'.heap.objs.size->Q vs s'):wpAny (model prog w) A (collect (.ref S)) Q E s:=by
 have hS0:s.TypeIs (.ref S) "set":=let ⟨o,_,_,_,e,f,_⟩:=x;⟨o,e,f.1⟩;have aD:S < s.heap.objs.size:=let ⟨o,_,_,_,e,f,_⟩:=x;wHa e;have nE:ks.length < scanBound:=by obtain⟨_,es,_,_,_,_,_,_,e5,_,e7,_⟩:=x;rw[← e5];simpa [zDJ] using e7
 unfold collect;refine wGY (wpAny_runValue (codeAny_builtin F.entry_proto_collect ?_));rw[Around.under_plainId F.plain_proto_collect _];show wpAny _ A.in1 (newList [] >>= λl=>again (.builtin "list.__iadd__" ⟨[l,.ref S],[]⟩)) _ _ s;refine wGY (wHL (wG2 ⟨plainId_quiet F.plain_list_iadd _,codeAny_builtin F.entry_list_iadd ?_⟩));rw[Around.under_plainId F.plain_list_iadd _];show wpAny _ A.in1 (Builtin.List.listExtendWith (.ref s.heap.objs.size) (.ref S) (.ref s.heap.objs.size)) _ _ _;generalize hH:s.heap.push { cls:=.type "list",data:=.seq ([]:List Value).toArray }=H;have old:∀b o,s.heap.get? b=some o->H.get? b=some o:=λb o q=>hH ▸ wG3 _ q;have hHs:H.objs.size=s.heap.objs.size+1:=by rw[← hH,wHT]
 have hL:H.get? s.heap.objs.size=some { cls:=.type "list",data:=.seq ([]:List Value).toArray }:=hH ▸ wHb _ rfl;have x1:zFr w H S ks:=x.at λo q=>old _ _ q;have hT:Shared.TypeIs { s with heap:=H } (.ref S) "set":=let ⟨o,e,f⟩:=hS0;⟨o,old _ _ e,f⟩;unfold Builtin.List.listExtendWith;refine wGY (wpAny_typeOf hT ?_);have h1:Builtin.List.listSameRef (.ref s.heap.objs.size) (.ref S)=false:=by show (s.heap.objs.size == S)=false;simp only[beq_eq_false_iff_ne];exact Ne.symm (wHg aD)
 have h2:(Value.type "set" == Value.type "list")=false:=by decide
 have h3:(Value.type "set" == Value.type "tuple")=false:=by decide
 simp only[h1,h2,h3,Bool.or_false,Bool.false_eq_true,if_false];refine wGY (zM9 (w:=w) (s:={ s with heap:=H }) x1 λh2 d it vs ns fp i1 i2 i3 i4 i5 i6 i7 i8 i9=>?_);have eI:Shared.TypeIs { s with heap:=h2,drawn:=d } (.ref S) "set":=let ⟨o,e,f⟩:=hT;⟨o,i9 _ _ e,f⟩;refine wGY (wHQ ?_);unfold Builtin.List.listLengthHint;refine wGY (wpAny_specialOf eI zHD ?_)
 wp_delta
 refine wGY (wpAny_isInstance (T:="set") (b:=true) eI (by rw[isSubtype_type];kernel_rfl) ?_);show wpAny _ A.in1 (typeOf (Value.ref S) >>= _) _ _ _;refine wGY (wpAny_typeOf eI (wG2 ?_));rw[wG1 ⋯];refine wGY (wpAny_rule ?_);have hL2:=i9 _ _ hL;show wpAny _ A.in1 ((updateSeq s.heap.objs.size (·.push .none) >>= λ_=>updateSeq s.heap.objs.size (·.pop)) >>= _) _ _ _;refine wGY (wGY (wpAny_updateSeq hL2 rfl ?_));have hL3:=wHS (Obj.mapSeq (·.push Value.none)) hL2 rfl;refine wpAny_updateSeq hL3 rfl ?_;have hL4:=wHS (Obj.mapSeq (·.pop)) hL3 rfl;have fB:s.heap.objs.size < H.objs.size:=by rw[hHs];exact wHY _
 have hLf:s.heap.objs.size∉fp:=λhm=>by
  rcases i8 _ hm with q | q
  ·exact absurd q (Ne.symm (wHg aD))
  exact absurd fB (Nat.not_lt.mpr q)
 have cO:ns.length=vs.length:=i1.length.symm;have hvs:vs.length < scanBound:=by rw[← cO,i2.length_eq];exact nE
 have oth:∀b o,b≠s.heap.objs.size->h2.get? b=some o->((h2.update s.heap.objs.size (Obj.mapSeq (·.push Value.none))).update s.heap.objs.size (Obj.mapSeq (·.pop))).get? b=some o:=
  λb o hb e=>(wHu _ _ (Ne.symm hb)).trans ((wHu _ _ (Ne.symm hb)).trans e)
 dsimp only at hL4 ⊢;refine wG2 ⟨plainId_quiet F.plain_extend_loop _,codeAny_extend_loopS (zLI (vs:=vs) (A:=A.in1) hh i6 i4 i5).toS (wH9 (wHi hvs ⋯)) _ hLf _ vs.length 0 _ _ _ rfl (wHK _)
  (i3.frame i4 i5 λb hb o e=>oth b o (λq=>hLf (q ▸ hb)) e) hL4 (ItemsOf.nil _) λs' acc' c' hm hS' oN=>?_⟩
 show wpAny _ A (load s.heap.objs.size >>= _) _ _ s';refine wGY (wpAny_load hS' ?_);have e:=zKV oN;refine wG2 ?_;rw[e];refine hQ s' vs ns i1 i2 (λb o q=>?_) hm.gens hm.os (wH9 (wHa hS'));have hb:=wHa q;refine hm.heap b o (λeQ=>?_) (oth b o (wHg hb) (i9 _ _ (old _ _ q)));rcases wIn eQ with r | r
 ·exact absurd r (wHg hb)
 rw[wIj r] at hb;rcases i8 _ i5 with q | q
 ·exact i6 q.symm
 exact absurd (wHi fB q) (Nat.not_lt.mpr (wH9 hb))
end
def zPs (w:World) (l:Addr) (ks:List Int):HO:=.ext λh=>zFr w h l ks
section
variable {X:Cx}
def Inv.drawn {pins:List (Addr × Obj)} {σ:List (Option V)} {H:Hp} {s s':Shared} (I:Inv X pins σ H s) (h:s'.heap=s.heap) (g:s'.gens=s.gens) (o:s'.os=s.os):Inv X pins σ H s':=by obtain⟨h1,g1,d1,t1,o1⟩:=s';obtain⟨h2,g2,d2,t2,o2⟩:=s;dsimp only at h g o;subst h;subst g;subst o;exact⟨I.ok,I.os,I.bare,I.base,I.loc,I.cell,I.free,I.freeC,I.pin,I.hok,I.len⟩
def zPr {P:Program} {w:World} {H:Hp} {h:Heap} {l:Addr} {ks:List Int} (x:zFr w h l ks):ObjOk P w H h l (zPs w l ks):=
 ⟨x,let ⟨o,_,_,_,e,_⟩:=x;⟨o,e⟩,λ_ _ y k=>y.at k⟩
def zLy (K:W.Frag) (hc:X.calm=true) (hK:X.K=K:=by rfl):zB6 X (.type "set") (λxs H Q=>∃(p:Addr) (ns:List Int),xs=[.ref p]/\SqL K H p (ns.map V.int)/\ns.length+1 < 4096/\
  ∀(l:Addr) (ks:List Int),H l=none->(∀y,y∈ks↔y∈ns)->ks.Nodup->ks.length<=ns.length->Q (.ref l) (upd H l (zPs X.w l ks))):=by
 subst hK;intro pins s σ H xs us Q I r h;obtain⟨p,ns,rfl,hS,hb,q⟩:=h;obtain⟨u,rfl,ru⟩:=r.one;cases ru;obtain⟨its,rv,pl,hz⟩:=I.list hS;have hi:IntsAre its ns:=zCd rv;refine zMO (w:=X.w) (ns:=ns) (I.ok.hd hc) pl.isList hi hb λh' tk ks g1 g2 g3 g4=>?_;have hl:H s.heap.objs.size=none:=I.hok.fresh (wG5 _);exact⟨.ref s.heap.objs.size,_,I.laid (o:=zPs X.w s.heap.objs.size ks) (t':=tk) g4 (wG5 _) (zPr g1),rfl,q _ ks hl g2 (let ⟨_,_,_,_,_,_,_,_,_,e6,_⟩:=g1;e6) g3⟩
def zGi:zR0 X (zQw X.K):=by
 intro pins s σ H o i ov iv Q I ro ri h;obtain⟨p,xs,k,z,rfl,rfl,hq,he,q⟩:=h;cases ro;obtain⟨t,rfl⟩:=ri;obtain⟨its,r,pl,hz⟩:=I.list hq;obtain⟨j,h1,h2,h3,h4,h5⟩:=zGv he;obtain⟨w,ew,bM⟩:=r.get h2;have hl:=r.length;have hn:=zDW;by_cases h0:0<=k
 ·have hj:k.toNat=j:=by rw[seqIndex_of h0 h5] at h1;exact wG8 h1
  exact wpAny_getItem_list pl.isList h0 ∅ (by rw[hj];simpa using ew) ⟨z,H,I,bM,q⟩
 have hj:(k+(its.toArray.size:Int)).toNat=j:=by rw[seqIndex_neg ∅ h4] at h1;rw[wHh,← hl];exact wG8 h1
 exact wpAny_getItem_list_neg pl.isList ∅ (by rw[wHh]<;>omega) ∅ (by rw[hj];simpa using ew) ⟨z,H,I,bM,q⟩
end
def tab {α:Type} (n:Nat) (f:Nat->α):List α:=(List.range n).map f
section
variable {α:Type} {n:Nat} {f g:Nat->α}
def zAa:(tab n f).length=n:=by unfold tab;rw[wGX,wIh]
theorem zD4 {i:Nat} (h:i < n):(tab n f)[i]?=some (f i):=by unfold tab;rw[wG6,List.getElem?_range h];rfl
def zEi {i:Nat} (h:¬i < n):(tab n f)[i]?=none:=wH0 (by rw[zAa];omega)
def zAN {i:Nat} {x:α} (h:(tab n f)[i]?=some x):i < n/\x=f i:=by
 by_cases c:i < n
 ·rw[zD4 c] at h;exact⟨c,(wG8 h).symm⟩
 rw[zEi c] at h;cases h
def zAz (h:∀i,i < n->f i=g i):tab n f=tab n g:=by unfold tab;exact List.map_congr_left λi hi=>h i (List.mem_range.mp hi)
def zD3 {i:Nat} {v:α}:(tab n f).set i v=tab n λj=>if j=i then v else f j:=by
 refine List.ext_getElem? λj=>?_;by_cases c:j < n
 ·rw[zD4 c,List.getElem?_set,zD4 c];by_cases e:i=j
  ·subst e;simp[zAa,c]
  rw[wGZ e,wGZ (Ne.symm e)]
 rw[zEi c,List.getElem?_set,zEi c];by_cases e:i=j
 ·subst e;simp[zAa,c]
 rw[wGZ e]
theorem zEs {v:α}:List.replicate n v=tab n λ_=>v:=by
 refine List.ext_getElem? λj=>?_;by_cases c:j < n
 ·rw[zD4 c,List.getElem?_replicate,wG1 c]
 rw[zEi c,List.getElem?_replicate,wGZ c]
theorem zOS {v:α}:∀k:Nat,(List.replicate k [v]).flatten=List.replicate k v
 | 0=>rfl
 | k+1=>by rw[wHV,wIb,zOS k];rfl
def zA5:tab n f++[f n]=tab (n+1) f:=by unfold tab;rw[List.range_succ,wG9];rfl
end
def zHz {n:Nat} {f:Nat->V} {k:Int} (h0:0<=k) (h:k < n):atI (tab n f) k=some (f k.toNat):=zBb h0 (zD4 ∅)
def zAl {n:Nat} {f:Nat->V} {k:Nat} (h:k < n):atI (tab n f) (k:Int)=some (f k):=by rw[zHz ∅ ∅];rfl
def zBt {n:Nat} {f:Nat->V} {k:Nat} (h:k < n):ixN (tab n f).length (k:Int)=some k:=by rw[zAa,zNo ∅ ∅];rfl
def zRT (k:Nat) (xs:List V):zD1 xs (some ((k:Nat):Int)) none=xs.drop k:=by
 unfold zD1;rw[HT.sIx_none,HT.sIx_nat];by_cases c:k<=xs.length
 ·rw[Nat.min_eq_left c];exact wHX (by simp)
 rw[Nat.min_eq_right ∅,List.drop_of_length_le (wG5 _),List.drop_of_length_le ∅];simp
def Sg (f:Nat->Int):Nat->Int
 | 0=>0
 | n+1=>Sg f n+f n
theorem zBJ {f g:Nat->Int}:∀{n:Nat},(∀i,i < n->f i=g i)->Sg f n=Sg g n
 | 0,_=>rfl
 | n+1,h=>by unfold Sg;rw[zBJ (n:=n) λi hi=>h i ∅,h n ∅]
theorem zL4 {f:Nat->Int}:∀{n:Nat},(∀i,i < n->0<=f i)->0<=Sg f n
 | 0,_=>wH2 _
 | n+1,h=>by have a:=zL4 (n:=n) λi hi=>h i ∅;have b:=h n ∅;unfold Sg;omega
def zDc {f:Nat->Int} {n:Nat} (h:∀i,i < n->f i=0):Sg f n=0:=by
 induction n with
 | zero=>rfl
 | succ n ih=>unfold Sg;rw[ih λi hi=>h i ∅,h n ∅];rfl
theorem zN4 {f g:Nat->Int}:∀{n:Nat},Sg (λi=>f i+g i) n=Sg f n+Sg g n
 | 0=>rfl
 | n+1=>by unfold Sg;rw[zN4 (n:=n)];omega
theorem zFE {f g:Nat->Int}:∀{n:Nat},Sg (λi=>f i-g i) n=Sg f n-Sg g n
 | 0=>rfl
 | n+1=>by unfold Sg;rw[zFE (n:=n)];omega
theorem zDx {c:Int} {f:Nat->Int}:∀{n:Nat},Sg (λi=>c*f i) n=c*Sg f n
 | 0=>by unfold Sg;rw[Int.mul_zero]
 | n+1=>by unfold Sg;rw[zDx (n:=n),Int.mul_add]
theorem zOP {f g:Nat->Int}:∀{n:Nat},(∀i,i < n->f i<=g i)->Sg f n<=Sg g n
 | 0,_=>wH2 _
 | n+1,h=>by have a:=zOP (n:=n) λi hi=>h i ∅;have b:=h n ∅;unfold Sg;omega
theorem zEb {f:Nat->Int} {p:Nat}:∀{n:Nat},p < n->Sg f n=f p+Sg (λi=>if i=p then 0 else f i) n
 | n+1,h=>by
  unfold Sg;by_cases c:p=n
  ·subst c;rw[wG1 rfl,zBJ (f:=f) (g:=λi=>if i=p then 0 else f i) λi hi=>by rw[wGZ ∅]];omega
  have hp:p < n:=by omega
  rw[zEb hp,wGZ (Ne.symm c)];omega
def zGw {c:Int} {p:Nat} {n:Nat} (h:p < n):Sg (λi=>if i=p then c else 0) n=c:=by rw[zEb h,wG1 rfl,zDc λi _=>by by_cases e:i=p<;>simp[e]];omega
theorem zIr {f:Nat->Nat->Int} {m:Nat}:∀{n:Nat},Sg (λi=>Sg (λj=>f i j) m) n=Sg (λj=>Sg (λi=>f i j) n) m
 | 0=>by show 0=Sg (λj=>0) m;rw[zDc λ_ _=>rfl]
 | n+1=>by show Sg (λi=>Sg (λj=>f i j) m) n+Sg (λj=>f n j) m=Sg (λj=>Sg (λi=>f i j) n+f n j) m;rw[zIr (n:=n),zN4]
abbrev Wys:=List (Nat × Nat × Int)
def wg (ws:Wys) (k:Nat):Nat:=(ws.getD k (0,0,0)).1
def wt (ws:Wys) (k:Nat):Nat:=(ws.getD k (0,0,0)).2.1
def wp (ws:Wys) (k:Nat):Int:=(ws.getD k (0,0,0)).2.2
def zBr (ws:Wys) (i h:Nat):Int:=Sg (λk=>if wg ws k=h then wp ws k else 0) i
def keeps (ws:Wys) (h:Nat):Int:=1000-zBr ws ws.length h
structure WyOk (n:Nat) (ws:Wys):Prop where
 g:∀k,k < ws.length->wg ws k < n
 t:∀k,k < ws.length->wt ws k < n
 d:∀k,k < ws.length->wg ws k≠wt ws k
 p:∀k,k < ws.length->1<=wp ws k/\wp ws k<=1000
 o:∀h,zBr ws ws.length h<=1000
structure WyAt (K:W.Frag) (H:Hp) (r:Addr) (rs:List V) (ws:Wys):Prop where
 sq:SqL K H r rs
 len:rs.length=ws.length
 at_:∀k,k < ws.length->∃q,rs[k]?=some (.ref q)/\H q=some (.tup [.int (wg ws k:Nat),.int (wt ws k:Nat),.int (wp ws k)])
def WyAt.mono {K:W.Frag} {H H':Hp} {r:Addr} {rs:List V} {ws:Wys} (h:WyAt K H r rs ws) (s:zAf H H'):WyAt K H' r rs ws:=
 ⟨s.seq h.sq,h.len,λk hk=>let ⟨q,e1,e2⟩:=h.at_ k hk;⟨q,e1,s _ _ e2⟩⟩
def zCR {ws:Wys} {w:Nat × Nat × Int} {k:Nat} (h:k < ws.length):(ws++[w]).getD k (0,0,0)=ws.getD k (0,0,0):=by rw[wG4,wG4,wHl h]
theorem zCS {ws:Wys} {w:Nat × Nat × Int}:(ws++[w]).getD ws.length (0,0,0)=w:=by rw[wG4,wHj (wG5 _),Nat.sub_self];rfl
def zJe {ws:Wys} {w:Nat × Nat × Int} {h:Nat}:zBr (ws++[w]) (ws.length+1) h=zBr ws ws.length h+if w.1=h then w.2.2 else 0:=by unfold zBr;show Sg _ ws.length+_=_;rw[zBJ (g:=λk=>if wg ws k=h then wp ws k else 0) λi hi=>by unfold wg wp;rw[zCR hi]];show _+(if ((ws++[w]).getD ws.length (0,0,0)).1=h then ((ws++[w]).getD ws.length (0,0,0)).2.2 else 0)=_;rw[zCS]
theorem WyOk.nil (n:Nat):WyOk n []:=⟨λk h=>absurd h (wHd _),λk h=>absurd h (wHd _),λk h=>absurd h (wHd _),λk h=>absurd h (wHd _),λh=>by show (0:Int)<=1000;decide⟩
def WyOk.snoc {n:Nat} {ws:Wys} {g t:Nat} {p:Int} (h:WyOk n ws) (h1:g < n) (h2:t < n) (h3:g≠t) (h4:1<=p) (h5:p<=1000-zBr ws ws.length g) (h6:p<=1000):WyOk n (ws++[(g,t,p)]):=by
 have L:(ws++[(g,t,p)]).length=ws.length+1:=by rw[wG7];rfl
 have lB:∀{P:Nat × Nat × Int->Prop},(∀k,k < ws.length->P (ws.getD k (0,0,0)))->P (g,t,p)->∀k,k < (ws++[(g,t,p)]).length->P ((ws++[(g,t,p)]).getD k (0,0,0)):=by
  intro P a b k hk;by_cases c:k < ws.length
  ·rw[zCR c];exact a k c
  have:k=ws.length:=by omega
  subst this;rw[zCS];exact b
 refine⟨lB (P:=λw=>w.1 < n) h.g h1,lB (P:=λw=>w.2.1 < n) h.t h2,lB (P:=λw=>w.1≠w.2.1) h.d h3,lB (P:=λw=>1<=w.2.2/\w.2.2<=1000) h.p ⟨h4,h6⟩,λx=>?_⟩;rw[L,zJe];have:=h.o x;show _+(if g=x then p else 0)<=1000;by_cases c:g=x
 ·subst c;rw[wG1 rfl];omega
 rw[wGZ c];omega
def zEm {n:Nat} {ws:Wys} (h:WyOk n ws) (x:Nat):∀i,i<=ws.length->0<=zBr ws i x:=λi hi=>zL4 λk hk=>by
 by_cases c:wg ws k=x
 ·rw[wG1 c];have:=(h.p k ∅).1;omega
 rw[wGZ c];exact wH2 _
def WyAt.snoc {K:W.Frag} {H H':Hp} {r q:Addr} {rs:List V} {ws:Wys} {g t:Nat} {p:Int} (h:WyAt K H r rs ws) (s:∀b xs,H b=some (.tup xs)->H' b=some (.tup xs)) (e:H' r=some (.lst (rs++[.ref q]))) (e2:H' q=some (.tup [.int (g:Nat),.int (t:Nat),.int p])) :
  WyAt K H' r (rs++[.ref q]) (ws++[(g,t,p)]):=by
 refine⟨SqL.of e,by rw[wG7,wG7,h.len];rfl,λk hk=>?_⟩;by_cases c:k < ws.length
 ·obtain⟨q',a,b⟩:=h.at_ k c;refine⟨q',by rw[wHl (by rw[h.len];exact c)];exact a,?_⟩;unfold wg wt wp;rw[zCR c];exact s _ _ b
 have:k=ws.length:=by rw[wG7] at hk;simp at hk;omega
 subst this;refine⟨q,by rw[wHj (by rw[h.len];exact wG5 _),h.len,Nat.sub_self];rfl,?_⟩;unfold wg wt wp;rw[zCS];exact e2
inductive Rch (m:Nat) (a b:Nat->Nat) (mk:Nat->Bool):Nat->Prop
 | base {j:Nat}:mk j=true->Rch m a b mk j
 | step {k:Nat}:k < m->Rch m a b mk (a k)->Rch m a b mk (b k)
def zCy (a b:Nat->Nat) (mk:Nat->Bool):Nat->Nat->Bool
 | 0=>mk
 | i+1=>if zCy a b mk i (a i)=true then λj=>if j=b i then true else zCy a b mk i j else zCy a b mk i
def trn (m:Nat) (a b:Nat->Nat) (mk:Nat->Bool):Nat->Nat->Bool
 | 0=>mk
 | t+1=>zCy a b (trn m a b mk t) m
section
variable {m n:Nat} {a b:Nat->Nat} {mk:Nat->Bool}
theorem zCx {j:Nat} (h:mk j=true):∀i,zCy a b mk i j=true
 | 0=>h
 | i+1=>by
  have:=zCx h i;unfold zCy;split
  ·show (if j=b i then true else zCy a b mk i j)=true
   split
   ·rfl
   exact this
  exact this
def zNL {j:Nat} {i:Nat} (h:zCy a b mk i j=true):zCy a b mk (i+1) j=true:=by
 show (if zCy a b mk i (a i)=true then λj=>if j=b i then true else zCy a b mk i j else zCy a b mk i) j=true
 split
 ·show (if j=b i then true else zCy a b mk i j)=true
  split
  ·rfl
  exact h
 exact h
theorem zJL {j:Nat} {i:Nat} (h:zCy a b mk i j=true):∀d,zCy a b mk (i+d) j=true
 | 0=>h
 | d+1=>zNL (zJL h d)
def zLK {k:Nat} (hk:k < m) (h:mk (a k)=true):zCy a b mk m (b k)=true:=by
 have e:zCy a b mk (k+1) (b k)=true:=by show (if zCy a b mk k (a k)=true then λj=>if j=b k then true else zCy a b mk k j else zCy a b mk k) (b k)=true;rw[wG1 (zCx h k)];show (if b k=b k then true else _)=true;rw[wG1 rfl]
 have:=zJL e (m-(k+1))
 rwa [show k+1+(m-(k+1))=m by omega] at this
theorem zD6 {R:Nat->Prop} (h0:∀j,mk j=true->R j) (hs:∀k,k < m->R (a k)->R (b k)):∀i,i<=m->∀j,zCy a b mk i j=true->R j
 | 0,_,j,h=>h0 j h
 | i+1,hi,j,h=>by
  have ih:=zD6 h0 hs i ∅;unfold zCy at h
  split at h
  ·rename_i c
   have h':(if j=b i then true else zCy a b mk i j)=true:=h
   split at h'
   ·rename_i e;rw[e];exact hs i ∅ (ih _ c)
   exact ih j h'
  exact ih j h
theorem zG1:∀t j,trn m a b mk t j=true->Rch m a b mk j
 | 0,j,h=>.base h
 | t+1,j,h=>zD6 (R:=Rch m a b mk) (λj h=>zG1 t j h) (λk hk h=>.step hk h) m (wG5 _) j h
def Clo (m:Nat) (a b:Nat->Nat) (f:Nat->Bool):Prop:=∀k,k < m->f (a k)=true->f (b k)=true
def cnt (f:Nat->Bool):Nat->Nat
 | 0=>0
 | n+1=>cnt f n+if f n=true then 1 else 0
theorem zIJ (f:Nat->Bool):∀n,cnt f n<=n
 | 0=>wG5 _
 | n+1=>by have:=zIJ f n;unfold cnt;split<;>omega
theorem zLt {f:Nat->Bool}:∀{n:Nat},n<=cnt f n->∀j,j < n->f j=true
 | n+1,h,j,hj=>by
  have:=zIJ f n;unfold cnt at h
  split at h
  ·rename_i c
   by_cases e:j=n
   ·rw[e];exact c
   exact zLt (n:=n) ∅ j ∅
  omega
theorem zGq {f g:Nat->Bool} (h:∀j,f j=true->g j=true):∀n,cnt f n<=cnt g n
 | 0=>wG5 _
 | n+1=>by
  have:=zGq h n;unfold cnt;by_cases c:f n=true
  ·rw[wG1 c,wG1 (h n c)];omega
  rw[wGZ c];split<;>omega
theorem zGp {f g:Nat->Bool} {j:Nat} (h:∀j,f j=true->g j=true) (h1:¬f j=true) (h2:g j=true):∀{n:Nat},j < n->cnt f n+1<=cnt g n
 | n+1,hj=>by
  unfold cnt;by_cases e:j=n
  ·have:=zGq h n;rw[← e] at *;rw[wGZ h1,wG1 h2];omega
  have ih:=zGp h h1 h2 (n:=n) ∅;by_cases c:f n=true
  ·rw[wG1 c,wG1 (h n c)];omega
  rw[wGZ c];split<;>omega
def zML {f:Nat->Bool} (h:Clo m a b f):∀j,zCy a b f m j=true->f j=true:=λj q=>zD6 (R:=λj=>f j=true) (λ_ z=>z) h m (wG5 _) j q
theorem zIu (hb:∀k,k < m->b k < n):∀t,Clo m a b (trn m a b mk t)∨t<=cnt (trn m a b mk t) n
 | 0=>.inr (wHK _)
 | t+1=>by
  by_cases c:Clo m a b (trn m a b mk t)
  ·refine .inl λk hk h=>?_;exact zCx (c k hk (zML c _ h)) m
  rcases zIu hb t with z | z
  ·exact absurd z c
  have:∃k,k < m/\trn m a b mk t (a k)=true/\¬trn m a b mk t (b k)=true:=by refine wHH λno=>c λk hk h=>wHH λq=>no ⟨k,hk,h,q⟩
  obtain⟨k,hk,h1,h2⟩:=this;have:=zGp (f:=trn m a b mk t) (g:=trn m a b mk (t+1)) (λj h=>zCx h m) h2 (zLK hk h1) (hb k hk);exact .inr ∅
def zNE (ha:∀k,k < m->a k < n) (hb:∀k,k < m->b k < n):Clo m a b (trn m a b mk n):=by
 rcases zIu (mk:=mk) (a:=a) hb n with z | z
 ·exact z
 exact λk hk _=>zLt z _ (hb k hk)
def zPg {j t:Nat} (h:mk j=true):trn m a b mk t j=true:=by
 induction t with
 | zero=>exact h
 | succ t ih=>exact zCx ih m
def zND (ha:∀k,k < m->a k < n) (hb:∀k,k < m->b k < n) {j:Nat}:trn m a b mk n j=true↔Rch m a b mk j:=by
 refine⟨zG1 n j,λh=>?_⟩
 induction h with
 | base h=>exact zPg h
 | step hk _ ih=>exact zNE ha hb _ hk ih
end
def plc (f:Nat->Bool):Nat->List Int
 | 0=>[]
 | n+1=>if f n=true then plc f n++[(n:Int)] else plc f n
theorem zDG (f:Nat->Bool):∀n,(plc f n).length<=n
 | 0=>wG5 _
 | n+1=>by
  have:=zDG f n;unfold plc;split
  ·rw[wG7];simp;omega
  omega
theorem zBT {f:Nat->Bool} {z:Int}:∀{n:Nat},z∈plc f n↔∃j:Nat,j < n/\f j=true/\z=(j:Int)
 | 0=>⟨λh=>(by cases h),λ⟨j,h,_⟩=>absurd h (wHd _)⟩
 | n+1=>by
  unfold plc
  split
  ·rename_i c
   rw[List.mem_append,zBT (n:=n),List.mem_singleton];constructor
   ·rintro (⟨j,h1,h2⟩ | h)
    ·exact⟨j,by omega,h2⟩
    exact⟨n,by omega,c,h⟩
   rintro⟨j,h1,h2,h3⟩;by_cases e:j=n
   ·exact .inr (by rw[h3,e])
   exact .inl ⟨j,by omega,h2,h3⟩
  rename_i c
  rw[zBT (n:=n)];constructor
  ·rintro⟨j,h1,h2⟩;exact⟨j,by omega,h2⟩
  rintro⟨j,h1,h2,h3⟩;refine⟨j,?_,h2,h3⟩;by_cases e:j=n
  ·rw[e] at h2;exact absurd h2 c
  omega
theorem zGI {f g:Nat->Bool}:∀{n:Nat},(∀j,j < n->(f j=true↔g j=true))->plc f n=plc g n
 | 0,_=>rfl
 | n+1,h=>by
  unfold plc;rw[zGI (n:=n) λj hj=>h j ∅];by_cases c:f n=true
  ·rw[wG1 c,wG1 ((h n ∅).mp c)]
  rw[wGZ c,wGZ λz=>c ((h n ∅).mpr z)]
structure PrAt (K:W.Frag) (H:Hp) (r:Addr) (rs:List V) (m:Nat) (a b:Nat->Nat):Prop where
 sq:SqL K H r rs
 len:rs.length=m
 at_:∀k,k < m->∃q,rs[k]?=some (.ref q)/\H q=some (.tup [.int (a k:Nat),.int (b k:Nat)])
def PrAt.mono {K:W.Frag} {H H':Hp} {r:Addr} {rs:List V} {m:Nat} {a b:Nat->Nat} (h:PrAt K H r rs m a b) (s:zAf H H'):PrAt K H' r rs m a b:=
 ⟨s.seq h.sq,h.len,λk hk=>let ⟨q,e1,e2⟩:=h.at_ k hk;⟨q,e1,s _ _ e2⟩⟩
def PrAt.snoc {K:W.Frag} {H H':Hp} {r q:Addr} {rs:List V} {m:Nat} {a b:Nat->Nat} (h:PrAt K H r rs m a b) (s:∀b xs,H b=some (.tup xs)->H' b=some (.tup xs)) (e:H' r=some (.lst (rs++[.ref q]))) (e2:H' q=some (.tup [.int (a m:Nat),.int (b m:Nat)])) :
  PrAt K H' r (rs++[.ref q]) (m+1) a b:=by
 refine⟨SqL.of e,by rw[wG7,h.len];rfl,λk hk=>?_⟩;by_cases c:k < m
 ·obtain⟨q',x,y⟩:=h.at_ k c;exact⟨q',by rw[wHl (by rw[h.len];exact c)];exact x,s _ _ y⟩
 have:k=m:=by omega
 subst this;exact⟨q,by rw[wHj (by rw[h.len];exact wG5 _),h.len,Nat.sub_self];rfl,e2⟩
def zPq {c b:Int} (hc:0 < c) (h:c*b<=0):b<=0:=by
 rcases Int.lt_or_le 0 b with z | z
 ·have:=wH3 hc z;omega
 exact z
def zJO {c b:Int} (hc:0 < c) (h:0<=c*b):0<=b:=by
 rcases Int.lt_or_le b 0 with z | z
 ·have:=Int.mul_neg_of_pos_of_neg hc z;omega
 exact z
def zNc {c b:Int} (hc:0 < c) (h:0 < c*b):0 < b:=by
 rcases Int.lt_or_le 0 b with z | z
 ·exact z
 have:=Int.mul_nonpos_of_nonneg_of_nonpos (wIg hc) z;omega
def zCz {c a b:Int} (hc:0 < c) (h:c*a=c*b):a=b:=Int.eq_of_mul_eq_mul_left ∅ h
def zGY {a b:Int} (ha:0<=a) (hb:0<=b):0<=a*b:=Int.mul_nonneg ha hb
def zKK {a b:Int} (ha:0<=a) (hb:b<=0):a*b<=0:=Int.mul_nonpos_of_nonneg_of_nonpos ha hb
def zPT {a b:Int} (ha:a<=0) (hb:b<=0):0<=a*b:=by have:=Int.mul_nonneg (a:=-a) (b:=-b) ∅ ∅;rw[Int.neg_mul_neg] at this;exact this
def zRf {f:Nat->Int} {n:Nat} (h:∀i,i < n->f i<=0):Sg f n<=0:=by have:=zOP (g:=λ_=>0) h;rw[zDc (f:=λ_=>0) λ_ _=>rfl] at this;exact this
abbrev Mx:=Nat->Nat->Int
structure Good (n k:Nat) (A:Mx):Prop where
 off:∀i j,i < n->j < n->i≠j->A i j<=0
 rhs:∀i,i < n->0<=A i n
 zero:∀i j,i < n->j < k->i≠j->A i j=0
 cert:∃y:Nat->Int,(∀i,i < n->0 < y i)/\∀j,j < n->0 < Sg (λi=>y i*A i j) n
section
variable {n k p:Nat} {A B:Mx} {c x:Nat->Int} {l:Int}
def Good.piv (h:Good n k A) (hp:p < n):0 < A p p:=by
 obtain⟨y,y0,ys⟩:=h.cert;have h1:=ys p hp;rw[zEb hp] at h1;have h2:Sg (λi=>if i=p then 0 else y i*A i p) n<=0:=zRf λi hi=>by
  show (if i=p then 0 else y i*A i p)<=0;by_cases e:i=p
  ·rw[wG1 e];exact wH2 _
  rw[wGZ e];exact zKK (wIg (y0 i hi)) (h.off i p hi hp e)
 exact zNc (y0 p hp) ∅
structure Stp (n p:Nat) (A B:Mx) (c:Nat->Int):Prop where
 own:∀j,j<=n->B p j=A p j
 pos:∀i,i < n->i≠p->0 < c i
 eq:∀i j,i < n->i≠p->j<=n->c i*B i j=A p p*A i j-A i p*A p j
def Good.step (h:Good n p A) (hp:p < n) (s:Stp n p A B c):Good n (p+1) B:=by
 have pv:=h.piv hp;refine⟨λi j hi hj ne=>?_,λi hi=>?_,λi j hi hj ne=>?_,?_⟩
 ·by_cases e:i=p
  ·subst e;rw[s.own j ∅];exact h.off _ _ hi hj ne
  refine zPq (s.pos i hi e) ?_;rw[s.eq i j hi e ∅];by_cases e2:j=p
  ·subst e2;rw[wIa (A j j)];omega
  have a1:=zKK (wIg pv) (h.off i j hi hj ne);have a2:=zPT (h.off i p hi hp e) (h.off p j hp hj (Ne.symm e2));omega
 ·by_cases e:i=p
  ·subst e;rw[s.own n (wG5 _)];exact h.rhs _ hi
  refine zJO (s.pos i hi e) ?_;rw[s.eq i n hi e (wG5 _)];have a1:=zGY (wIg pv) (h.rhs i hi);have a2:=zKK (h.rhs p hp) (h.off i p hi hp e);rw[wIa] at a2;omega
 ·have hjn:j < n:=by omega
  by_cases e:i=p
  ·subst e;rw[s.own j ∅];exact h.zero _ _ hi ∅ ne
  refine zCz (s.pos i hi e) ?_;rw[s.eq i j hi e ∅,Int.mul_zero];by_cases e2:j=p
  ·subst e2;rw[wIa (A j j)];omega
  rw[h.zero i j hi ∅ ne,h.zero p j hp ∅ (Ne.symm e2)];simp
 obtain⟨y,y0,ys⟩:=h.cert;refine⟨λi=>if i=p then Sg (λi=>y i*A i p) n else y i*c i,λi hi=>?_,λj hj=>?_⟩
 ·show 0 < (if i=p then _ else _);by_cases e:i=p
  ·rw[wG1 e];exact ys p hp
  rw[wGZ e];exact wH3 (y0 i hi) (s.pos i hi e)
 have e1:Sg (λi=>(if i=p then Sg (λi=>y i*A i p) n else y i*c i)*B i j) n=A p p*Sg (λi=>y i*A i j) n:=by
  rw[zEb hp,wG1 rfl,s.own j ∅,zEb (f:=λi=>y i*A i p) hp,zEb (f:=λi=>y i*A i j) hp];have e2:Sg (λi=>if i=p then 0 else (if i=p then y p*A p p+Sg (λi=>if i=p then 0 else y i*A i p) n else y i*c i)*B i j) n =
    Sg (λi=>A p p*(if i=p then 0 else y i*A i j)-A p j*(if i=p then 0 else y i*A i p)) n:=zBJ λi hi=>by
   show (if i=p then 0 else _)=_;by_cases e:i=p
   ·rw[wG1 e,wG1 e,wG1 e];simp
   rw[wGZ e,wGZ e,wGZ e,wGZ e,Int.mul_assoc,s.eq i j hi e ∅]
   grind
  rw[e2,zFE,zDx,zDx]
  grind
 rw[e1];exact wH3 pv (ys j hj)
def Sol (n:Nat) (A:Mx) (x:Nat->Int) (l:Int):Prop:=∀i,i < n->Sg (λj=>A i j*x j) n=A i n*l
def Stp.sums (s:Stp n p A B c) {i:Nat} (hi:i < n) (e:i≠p):c i*Sg (λj=>B i j*x j) n=A p p*Sg (λj=>A i j*x j) n-A i p*Sg (λj=>A p j*x j) n:=by
 rw[← zDx,← zDx,← zDx,← zFE];refine zBJ λj hj=>?_;rw[← Int.mul_assoc,s.eq i j hi e ∅]
 grind
def Stp.owns (s:Stp n p A B c):Sg (λj=>B p j*x j) n=Sg (λj=>A p j*x j) n:=zBJ λj hj=>by rw[s.own j ∅]
theorem Stp.back (s:Stp n p A B c) (pv:0 < A p p) (hp:p < n) (h:Sol n B x l):Sol n A x l:=by
 have hpp:Sg (λj=>A p j*x j) n=A p n*l:=by rw[← s.owns,h p hp,s.own n (wG5 _)]
 intro i hi;by_cases e:i=p
 ·rw[e];exact hpp
 have h1:=s.sums (x:=x) hi e;have h2:=s.eq i n hi e (wG5 _);rw[h i hi,hpp] at h1;refine zCz pv ?_;have h3:c i*(B i n*l)=c i*B i n*l:=by rw[Int.mul_assoc]
 rw[h3,h2] at h1
 grind
def Stp.forth (s:Stp n p A B c) (hp:p < n) (h:Sol n A x l):Sol n B x l:=by
 intro i hi;by_cases e:i=p
 ·rw[e,s.owns,h p hp,s.own n (wG5 _)]
 have h1:=s.sums (x:=x) hi e;have h2:=s.eq i n hi e (wG5 _);rw[h i hi,h p hp] at h1;refine zCz (s.pos i hi e) ?_;rw[h1,← Int.mul_assoc (c i),h2]
 grind
def Good.last (h:Good n n A) {i:Nat} (hi:i < n):Sg (λj=>A i j*x j) n=A i i*x i:=by
 rw[zEb hi,zDc (f:=λj=>if j=i then 0 else A i j*x j) λj hj=>by
  show (if j=i then 0 else _)=_;by_cases e:j=i
  ·rw[wG1 e]
  rw[wGZ e,h.zero i j hi hj (Ne.symm e)];simp]
 omega
def Good.sol (h:Good n n A):Sol n A x l↔∀i,i < n->A i i*x i=A i n*l:=
 ⟨λs i hi=>by rw[← h.last hi];exact s i hi,λs i hi=>by rw[h.last hi];exact s i hi⟩
end
def Bt (k:Nat) (i:Int):Prop:=i.natAbs < 2 ^ k
def Bt.mono {j k:Nat} {i:Int} (h:Bt j i) (e:j<=k):Bt k i:=wHi h (Nat.pow_le_pow_right ⋯ e)
def Bt.mul {j k:Nat} {a b:Int} (h:Bt j a) (h':Bt k b):Bt (j+k) (a*b):=by unfold Bt at *;rw[wIc,Nat.pow_add];exact Nat.mul_lt_mul'' h h'
def Bt.add {k:Nat} {a b:Int} (h:Bt k a) (h':Bt k b):Bt (k+1) (a+b):=by unfold Bt at *;rw[Nat.pow_succ];omega
def Bt.sub {k:Nat} {a b:Int} (h:Bt k a) (h':Bt k b):Bt (k+1) (a-b):=by unfold Bt at *;rw[Nat.pow_succ];omega
def Bt.div {k:Nat} {c b:Int} (hc:0 < c) (h:Bt k (c*b)):Bt k b:=by unfold Bt at *;rw[wIc] at h;exact wHF (Nat.le_mul_of_pos_left _ ∅) h
def Bt.bits {k:Nat} {i:Int} (h:Bt k i):Builtin.Int.intBits i<=k:=by
 unfold Builtin.Int.intBits
 split
 ·exact wHK _
 rename_i c
 have h0:i.natAbs≠0:=by intro z;exact c (by simp[Int.natAbs_eq_zero.mp z])
 exact (Nat.log2_lt h0).mpr h
def zA6 {j k:Nat} {a b:Int} (h:Bt j a) (h':Bt k b) (e:j+k<=134217728):IntMulOk a b:=by
 unfold IntMulOk;have b1:=h.bits;have b2:=h'.bits;have:Builtin.Int.intTooBig ((Builtin.Int.intBits a:Int)+(Builtin.Int.intBits b:Int))=false:=by unfold Builtin.Int.intTooBig;refine wHy λz=>?_;have z':((Builtin.Int.intBits a:Int)+(Builtin.Int.intBits b:Int)) > ((bitsLine:Nat):Int):=z;rw[show bitsLine=134217728 from rfl] at z';omega
 rw[this,Bool.and_false];exact wHf
def Bt.small {k:Nat} {i:Int} (h:i.natAbs < 1024) (e:10<=k):Bt k i:=Bt.mono (j:=10) h e
def zRg (X:Cx):Prop:=∃(env:Env) (l:List Env),X.stack=env::l/\env.scope.isGenerator=false/\env.scope.isCoroutine=false/\env.builtins=builtinsNs/\env.globals=mainGlobals
section
variable {X:Cx}
def zDp {k:Nat} (hr:Room k X.A) (hk:32<=k) (ht:X.prog.given.tree=none) (hs:zRg X):OpR X (binaryOp .FloorDiv) (rI (λ_ j=>j≠0) λi j=>.int (i.fdiv j)):=by intro pins s σ H x y v u Q I rx ry h;obtain⟨i,j,rfl,rfl,hc,q⟩:=h;obtain⟨t,rfl⟩:=rx;obtain⟨t',rfl⟩:=ry;obtain⟨env,l,e1,e2,e3,e4,e5⟩:=hs;refine floordiv_int hc ⟨.int (i.fdiv j),H,I.tok _,⟨_,rfl⟩,q⟩ (.inr (PylongRoom.of I.nolimit ?_ (SeerAt.of (I.ok.mod.seer.keeps I.bk) ht (by rw[I.ok.frames,e1]) e2 e3 e4 e5)));have:=hr.dp;show X.A.depth+100 < recursionLimit;omega
def zAV:OpR X (binaryOp .Mult) (rI (λi j=>IntMulOk i j) λi j=>.int (i*j)):=opI λ_ _ _ _ _ _ _ hc q=>mul_int q hc
end
def zMF {K:W.Frag} {a:Addr} {ys:List V} {g:TG} {tb:TS} {D:Ends} {σ:St} {H:Hp} (Pv:Nat->St->Hp->Prop) (h0:Pv 0 σ H) (hl:∀i σ H,i<=ys.length->Pv i σ H->SqL K H a ys)
  (hs:∀i x σ H T,ys[i]?=some x->Pv i σ H->H T=none->g (.ref T) σ (upd H T (.tup [.int (i:Int),x])) λσ2 H2=>tb { D with nx:=Pv (i+1),ct:=Pv (i+1),bk:=D.nx } σ2 H2) (hd:∀σ H,Pv ys.length σ H->D.nx σ H) :
  ∃W:Nat->Nat->St->Hp->Prop,(∃m,W 0 m σ H)/\∀i m σ H,W i m σ H->
   ((Ite K a).stop i H/\D.nx σ H)∨((Ite K a).go i H/\∃N:St->Hp->Prop,(∀σ' H',N σ' H'->∃m',m' < m/\W (i+1) m' σ' H')/\∀x H',(Ite K a).yld i H x H'->g x σ H' λσ2 H2=>tb { D with nx:=N,ct:=N,bk:=D.nx } σ2 H2):=by
 refine⟨λi m σ H=>m=ys.length-i/\i<=ys.length/\Pv i σ H,⟨ys.length,by simp,wHK _,h0⟩,?_⟩;rintro i m σ H ⟨rfl,hi,p⟩;have q:=hl i σ H hi p;by_cases aD:i < ys.length
 ·refine .inr ⟨⟨ys,ys[i],q,by simp[aD]⟩,Pv (i+1),λσ' H' p'=>⟨ys.length-(i+1),by omega,rfl,aD,p'⟩,λx H' y=>?_⟩;obtain⟨T,z,e1,e2,e3,y⟩:=y;subst e1 e3;exact hs i z σ _ T (y ys q) p e2
 have e:i=ys.length:=by omega
 subst e;exact .inl ⟨⟨ys,q,wG5 _⟩,hd σ H p⟩
def zGo {K:W.Frag} {a b l:Addr} {xs ys:List V} {g:TG} {tt:TT} {te:TE} {fin:Hp->Prop} {σ0:St} {H0:Hp} (he:xs.length=ys.length) (Pv:Nat->St->Hp->Prop) (h0:Pv 0 σ0 H0) (hl:∀i σ H,i<=xs.length->Pv i σ H->SqL K H a xs/\SqL K H b ys)
  (hs:∀i x y σ H T,xs[i]?=some x->ys[i]?=some y->Pv i σ H->H T=none->g (.ref T) σ (upd H T (.tup [x,y])) λσ2 H2=>tt σ2 H2 λb H3=>if b=true then te σ2 H3 λv H4=>∃xs,H4 l=some (.lst xs)/\xs.length < sizeLine/\Pv (i+1) σ2 (upd H4 l (.lst (xs++[v]))) else Pv (i+1) σ2 H3)
  (hd:∀σ H,Pv xs.length σ H->fin H):zDP l (Itz K a b) g tt te fin σ0 H0:=by
 refine⟨λi m σ H=>m=xs.length-i/\i<=xs.length/\Pv i σ H,⟨xs.length,by simp,wHK _,h0⟩,?_⟩;rintro i m σ H ⟨rfl,hi,p⟩;obtain⟨q,r⟩:=hl i σ H hi p;by_cases aD:i < xs.length
 ·refine .inr ⟨⟨xs,ys,xs[i],ys[i]' ∅,q,r,by simp[aD],by simp[show i < ys.length by omega]⟩,Pv (i+1),λσ' H' p'=>⟨xs.length-(i+1),by omega,rfl,aD,p'⟩,λx H' y=>?_⟩;obtain⟨T,z,z',e1,e2,e3,y1,y2⟩:=y;subst e1 e3;exact hs i z z' σ _ T (y1 xs q) (y2 ys r) p e2
 have e:i=xs.length:=by omega
 subst e;exact .inl ⟨⟨xs,ys,q,r,.inl (wG5 _)⟩,hd σ H p⟩
structure MxAt (H:Hp) (r:Addr) (q:Nat->Addr) (n:Nat) (A:Mx):Prop where
 top:H r=some (.lst (tab n λi=>V.ref (q i)))
 row:∀i,i < n->H (q i)=some (.lst (tab (n+1) λj=>V.int (A i j)))
def MxAt.mono {H H':Hp} {r:Addr} {q:Nat->Addr} {n:Nat} {A:Mx} (h:MxAt H r q n A) (s:zAf H H'):MxAt H' r q n A:=⟨s _ _ h.top,λi hi=>s _ _ (h.row i hi)⟩
structure FrAt (H:Hp) (r:Addr) (q:Nat->Addr) (n:Nat) (x y:Nat->Int):Prop where
 top:H r=some (.lst (tab n λi=>V.ref (q i)))
 row:∀i,i < n->H (q i)=some (.tup [.int (x i),.int (y i)])
def FrAt.mono {H H':Hp} {r:Addr} {q:Nat->Addr} {n:Nat} {x y:Nat->Int} (h:FrAt H r q n x y) (s:zAf H H'):FrAt H' r q n x y:=⟨s _ _ h.top,λi hi=>s _ _ (h.row i hi)⟩
structure FrOk (n:Nat) (x y:Nat->Int):Prop where
 pos:∀i,i < n->0 < y i
 one:∀i,i < n->Nat.gcd (x i).natAbs (y i).natAbs=1
 nn:∀i,i < n->0<=x i
 bx:∀i,i < n->Bt 400000 (x i)
 by_:∀i,i < n->Bt 400000 (y i)
def gT (f:Nat->Int):Nat->Nat
 | 0=>0
 | n+1=>Nat.gcd (f n).natAbs (gT f n)
theorem zNu {f:Nat->Int}:∀{n j:Nat},j < n->(gT f n:Int) ∣ f j
 | n+1,j,h=>by
  by_cases e:j=n
  ·subst e;exact Int.ofNat_dvd_left.mpr (Nat.gcd_dvd_left _ _)
  exact Int.dvd_trans (Int.natCast_dvd_natCast.mpr (Nat.gcd_dvd_right _ _)) (zNu (n:=n) ∅)
theorem zNt {f:Nat->Int}:∀{n j:Nat},j < n->f j≠0->0 < gT f n
 | n+1,j,h,h0=>by
  by_cases e:j=n
  ·subst e;exact Nat.gcd_pos_of_pos_left _ ∅
  exact Nat.gcd_pos_of_pos_right _ (zNt (n:=n) (j:=j) ∅ h0)
def zMG {c a:Int} (hc:0 < c) (h:c ∣ a):c*a.fdiv c=a:=by obtain⟨b,rfl⟩:=h;rw[Int.mul_fdiv_cancel_left _ ∅]
def M0 (n:Nat) (ws:Wys) (s0:Nat):Mx:=λi j=>if j=n then (if i=s0 then 1000 else 0) else (if i=j then 1000 else 0)-Sg (λk=>if wt ws k=i/\wg ws k=j then wp ws k else 0) ws.length
section
variable {n s0:Nat} {ws:Wys}
def zK0 (wo:WyOk n ws) {i j:Nat}:0<=Sg (λk=>if wt ws k=i/\wg ws k=j then wp ws k else 0) ws.length:=zL4 λk hk=>by
 split
 ·have:=(wo.p k hk).1;omega
 exact wH2 _
def zOq (wo:WyOk n ws) {i j:Nat}:Sg (λk=>if wt ws k=i/\wg ws k=j then wp ws k else 0) ws.length<=1000:=by
 refine Int.le_trans (zOP λk hk=>?_) (wo.o j);show (if _ then _ else _)<=(if _ then _ else _);by_cases c:wg ws k=j
 ·rw[wG1 c]
  split
  ·exact wH2 _
  have:=(wo.p k hk).1;omega
 rw[wGZ c,wGZ λz=>c z.2];exact wH2 _
def zRk (wo:WyOk n ws) {i j:Nat}:(M0 n ws s0 i j).natAbs < 1024:=by
 have h1:=zK0 wo (i:=i) (j:=j);have h2:=zOq wo (i:=i) (j:=j);unfold M0
 split
 ·split<;>decide
 split<;>omega
def zN6 (wo:WyOk n ws) {y:Nat->Int} {j:Nat} (hj:j < n):Sg (λi=>y i*M0 n ws s0 i j) n=1000*y j-Sg (λk=>if wg ws k=j then wp ws k*y (wt ws k) else 0) ws.length:=by
 have e1:∀i,i < n->y i*M0 n ws s0 i j=(if i=j then 1000*y j else 0)-Sg (λk=>if wt ws k=i/\wg ws k=j then wp ws k*y i else 0) ws.length:=λi hi=>by
  unfold M0;rw[wGZ ∅,Int.mul_sub,← zDx]
  congr 1
  ·by_cases c:i=j
   ·rw[wG1 c,wG1 c,c,wIa]
   rw[wGZ c,wGZ c,Int.mul_zero]
  refine zBJ λk hk=>?_;show y i*(if _ then _ else _)=(if _ then _ else _)
  split
  ·exact wIa _ _
  exact Int.mul_zero _
 rw[zBJ e1,zFE,zGw hj,zIr]
 congr 1
 refine zBJ λk hk=>?_;show _=(if _ then _ else _);by_cases c:wg ws k=j
 ·rw[wG1 c,← zGw (p:=wt ws k) (c:=wp ws k*y (wt ws k)) (wo.t k hk)];refine zBJ λi hi=>?_;show (if _ then _ else _)=(if _ then _ else _);by_cases e:i=wt ws k
  ·rw[wG1 ⟨e.symm,c⟩,wG1 e,e]
  rw[wGZ λz=>e z.1.symm,wGZ e]
 rw[wGZ c];exact zDc λi hi=>wGZ λz=>c z.2
def zN5 (wo:WyOk n ws) {x:Nat->Int} {i:Nat} (hi:i < n):Sg (λj=>M0 n ws s0 i j*x j) n=1000*x i-Sg (λk=>if wt ws k=i then wp ws k*x (wg ws k) else 0) ws.length:=by
 have e1:∀j,j < n->M0 n ws s0 i j*x j=(if j=i then 1000*x i else 0)-Sg (λk=>if wt ws k=i/\wg ws k=j then wp ws k*x j else 0) ws.length:=λj hj=>by
  unfold M0;rw[wGZ ∅,Int.sub_mul,wIa (Sg _ _),← zDx]
  congr 1
  ·by_cases c:i=j
   ·rw[wG1 c,wG1 c.symm,c]
   rw[wGZ c,wGZ (Ne.symm c),Int.zero_mul]
  refine zBJ λk hk=>?_;show x j*(if _ then _ else _)=(if _ then _ else _)
  split
  ·exact wIa _ _
  exact Int.mul_zero _
 rw[zBJ e1,zFE,zGw hi,zIr]
 congr 1
 refine zBJ λk hk=>?_;show _=(if _ then _ else _);by_cases c:wt ws k=i
 ·rw[wG1 c,← zGw (p:=wg ws k) (c:=wp ws k*x (wg ws k)) (wo.g k hk)];refine zBJ λj hj=>?_;show (if _ then _ else _)=(if _ then _ else _);by_cases e:j=wg ws k
  ·rw[wG1 ⟨c,e.symm⟩,wG1 e,e]
  rw[wGZ λz=>e z.2.symm,wGZ e]
 rw[wGZ c];exact zDc λj hj=>wGZ λz=>c z.1
def zL6 {i:Nat}:M0 n ws s0 i n=if i=s0 then 1000 else 0:=by unfold M0;rw[wG1 rfl]
theorem zQu (wo:WyOk n ws) {x:Nat->Int} {l:Int}:Sol n (M0 n ws s0) x l↔∀i,i < n->1000*x i=(if i=s0 then 1000 else 0)*l+Sg (λk=>if wt ws k=i then wp ws k*x (wg ws k) else 0) ws.length:=by
 constructor
 ·intro h i hi;have:=h i hi;rw[zN5 wo hi,zL6] at this;omega
 intro h i hi;have:=h i hi;rw[zN5 wo hi,zL6];omega
def Lv (ws:Wys):Nat->Nat->Prop
 | 0,j=>0 < keeps ws j
 | t+1,j=>Lv ws t j∨∃k,k < ws.length/\wg ws k=j/\Lv ws t (wt ws k)
def zL8 (n:Nat) (ws:Wys):Prop:=∀j,j < n->Rch ws.length (wt ws) (wg ws) (λj=>decide (0 < keeps ws j)) j
def zP1 {j:Nat} (h:Rch ws.length (wt ws) (wg ws) (λj=>decide (0 < keeps ws j)) j):∃t,Lv ws t j:=by
 induction h with
 | base h=>exact⟨0,(wHm h:0 < keeps ws _)⟩
 | step hk _ ih=>
  obtain⟨t,h⟩:=ih;exact⟨t+1,.inr ⟨_,hk,rfl,h⟩⟩
def zQR {P:Nat->Prop}:∀t,P t->∃s,s<=t/\P s/\∀r,r < s->¬P r
 | 0,h=>⟨0,wG5 _,h,λr hr=>absurd hr (wHd _)⟩
 | t+1,h=>by
  by_cases c:∃s,s<=t/\P s
  ·obtain⟨s,h1,h2⟩:=c;clear h;have:∀m s,s<=m->P s->∃s',s'<=s/\P s'/\∀r,r < s'->¬P r:=by
    intro m
    induction m with
    | zero=>intro s hs ps;exact⟨s,wG5 _,ps,λr hr=>by omega⟩
    | succ m ih=>
     intro s hs ps;by_cases d:∃r,r < s/\P r
     ·obtain⟨r,r1,r2⟩:=d;obtain⟨s',a,b,cc⟩:=ih r ∅ r2;exact⟨s',by omega,b,cc⟩
     exact⟨s,wG5 _,ps,λr hr pr=>d ⟨r,hr,pr⟩⟩
   obtain⟨s',a,b,cc⟩:=this t s h1 h2;exact⟨s',by omega,b,cc⟩
  exact⟨t+1,wG5 _,h,λr hr pr=>c ⟨r,by omega,pr⟩⟩
theorem zN2 {P:Nat->Nat->Prop}:∀n,(∀j,j < n->∃t,P t j)->∃D,∀j,j < n->∃t,t<=D/\P t j
 | 0,_=>⟨0,λj hj=>absurd hj (wHd _)⟩
 | n+1,h=>by
  obtain⟨D,hD⟩:=zN2 n λj hj=>h j ∅;obtain⟨t,ht⟩:=h n ∅;refine⟨D+t,λj hj=>?_⟩;by_cases c:j=n
  ·subst c;exact⟨t,by omega,ht⟩
  obtain⟨t',a,b⟩:=hD j ∅;exact⟨t',by omega,b⟩
def zL5 {f:Nat->Int} {n p:Nat} (h:∀i,i < n->0<=f i) (hp:p < n):f p<=Sg f n:=by
 rw[zEb hp];have:=zL4 (f:=λi=>if i=p then 0 else f i) (n:=n) λi hi=>by
  split
  ·exact wH2 _
  exact h i hi
 omega
def zEl (a:Nat):(0:Int) < 1001 ^ a:=Int.pow_pos ⋯
def zKq {a b:Nat} (h:a<=b):(1001:Int) ^ a<=1001 ^ b:=by
 have:(1001:Nat) ^ a<=1001 ^ b:=Nat.pow_le_pow_right ⋯ h;have e:∀c:Nat,(1001:Int) ^ c=((1001 ^ c:Nat):Int):=λc=>by rw[Int.natCast_pow];rfl
 rw[e,e];omega
def zL7 (wo:WyOk n ws) (ho:zL8 n ws):∃y:Nat->Int,(∀i,i < n->0 < y i)/\∀j,j < n->0 < Sg (λi=>y i*M0 n ws s0 i j) n:=by
 obtain⟨D,hD⟩:=zN2 (P:=Lv ws) n λj hj=>zP1 (ho j hj);have hd:∀j,∃t,j < n->t<=D/\Lv ws t j/\∀r,r < t->¬Lv ws r j:=λj=>by
  by_cases c:j < n
  ·obtain⟨t,h1,h2⟩:=hD j c;obtain⟨s,a,b,cc⟩:=zQR (P:=λt=>Lv ws t j) t h2;exact⟨s,λ_=>⟨by omega,b,cc⟩⟩
  exact⟨0,λz=>absurd z c⟩
 obtain⟨d,hd⟩:=Classical.axiomOfChoice hd;have eb:∀j,j < n->(1001:Int) ^ (D-d j)<=1001 ^ D:=λj hj=>zKq ∅;have Mp:=zEl D;refine⟨λj=>1001*1001 ^ D-1001 ^ (D-d j),λi hi=>by have:=eb i hi;show 0 < 1001*1001 ^ D-1001 ^ (D-d i);omega,λj hj=>?_⟩;rw[zN6 wo hj];have split:Sg (λk=>if wg ws k=j then wp ws k*(1001*1001 ^ D-1001 ^ (D-d (wt ws k))) else 0) ws.length=1001*1001 ^ D*zBr ws ws.length j-Sg (λk=>if wg ws k=j then wp ws k*1001 ^ (D-d (wt ws k)) else 0) ws.length:=by
  unfold zBr;rw[← zDx,← zFE];refine zBJ λk hk=>?_;show (if _ then _ else _)=_*(if _ then _ else _)-(if _ then _ else _);by_cases c:wg ws k=j
  ·rw[wG1 c,wG1 c,wG1 c,Int.mul_sub,wIa (wp ws k)]
  rw[wGZ c,wGZ c,wGZ c];simp
 rw[split];have Fn:∀k,k < ws.length->0<=(if wg ws k=j then wp ws k*1001 ^ (D-d (wt ws k)) else 0:Int):=λk hk=>by
  split
  ·exact zGY (by have:=(wo.p k hk).1;omega) (wIg (zEl _))
  exact wH2 _
 have F0:=zL4 Fn;have on:=zEm wo j ws.length (wG5 _);have o1:=wo.o j;obtain⟨dj,lv,mn⟩:=hd j hj;have e1:=zEl (D-d j);cases hdj:d j with
 | zero=>
  rw[hdj] at lv;have kp:0 < keeps ws j:=lv;unfold keeps at kp;have:1001*1001 ^ D*zBr ws ws.length j<=1001*1001 ^ D*999:=Int.mul_le_mul_of_nonneg_left ∅ ∅;rw[Nat.sub_zero];omega
 | succ t=>
  rw[hdj] at lv mn dj e1;have nl:=mn t ∅;rcases lv with z | ⟨k,hk,h1,h2⟩
  ·exact absurd z nl
  obtain⟨dk,_,mk⟩:=hd (wt ws k) (wo.t k hk);have dt:d (wt ws k)<=t:=wHH λz=>mk t ∅ h2;have ge:=zL5 Fn hk;rw[wG1 h1] at ge;have g2:(1001:Int) ^ (D-t)<=1001 ^ (D-d (wt ws k)):=zKq ∅;have g3:(1001:Int) ^ (D-t)=1001 ^ (D-(t+1))*1001:=by rw[← Int.pow_succ];congr 1;omega
  have g4:1*1001 ^ (D-d (wt ws k))<=wp ws k*1001 ^ (D-d (wt ws k)):=Int.mul_le_mul_of_nonneg_right (wo.p k hk).1 (wIg (zEl _));have:1001*1001 ^ D*zBr ws ws.length j<=1001*1001 ^ D*1000:=Int.mul_le_mul_of_nonneg_left o1 ∅;omega
def zOQ (wo:WyOk n ws) (ho:zL8 n ws):Good n 0 (M0 n ws s0):=by
 refine⟨λi j hi hj ne=>?_,λi hi=>?_,λi j hi hj=>absurd hj (wHd _),zL7 wo ho⟩
 ·have:=zK0 wo (i:=i) (j:=j);unfold M0;rw[wGZ ∅,wGZ ne];omega
 rw[zL6];split<;>decide
end
section
variable {X:Cx}
inductive RNeT (K:W.Frag) (x:V) (y:V) (H:Hp) (Q:VK):Prop
 | mk (a b:Addr) (u v:Int):(x=.ref a)->(y=.ref b)->(SqT K H a [.int u,.int v])->(SqT K H b [.int u,.int v])->(Q (.bl false) H)->RNeT K x y H Q
def zPK (hu:X.A.units+64 < cLine):OpR X (compareOp .NotEq) (λx y H Q=>RNeT X.K x y H Q):=by
 intro pins s σ H x y vx vy Q I rx ry h;obtain⟨a,b,u,v,rfl,rfl,h1,h2,q⟩:=h;cases rx;cases ry;have rd:∀{c:Addr},SqT X.K H c [.int u,.int v]->Reads s.heap (.ref c) (.tuple [.int u,.int v]) []:=λ{c} hq=>by obtain⟨its,r,pl,hz⟩:=I.tuple hq;obtain⟨v1,v2,e,r1,r2⟩:=r.two;subst e;obtain⟨t1,rfl⟩:=r1;obtain⟨t2,rfl⟩:=r2;obtain⟨o,e1,e2,n,e3⟩:=pl;exact .tuple e1 e2 e3 (.cons (.int _ _) (.cons (.int _ _) .nil))
 refine ne_dataH (rd h1) (rd h2) rfl rfl hu ?_;have e:(PyData.tuple [.int u,.int v]).eqv (.tuple [.int u,.int v])=true:=by simp[PyData.eqv,PyData.eqvAll]
 rw[e];exact⟨.bl false,H,I,rfl,q⟩
end
def zKO {x y x' y':Int} (hy:0 < y) (kL:0 < y') (g:Nat.gcd x.natAbs y.natAbs=1) (g':Nat.gcd x'.natAbs y'.natAbs=1) (e:x*y'=x'*y):x=x'/\y=y':=by
 have en:x.natAbs*y'.natAbs=x'.natAbs*y.natAbs:=by rw[← wIc,← wIc,e]
 have d1:y.natAbs ∣ y'.natAbs:=by
  refine Nat.Coprime.dvd_of_dvd_mul_left (k:=y.natAbs) (m:=x.natAbs) (n:=y'.natAbs) ?_ ?_
  ·show Nat.gcd _ _=1;rw[Nat.gcd_comm];exact g
  rw[en];exact Nat.dvd_mul_left _ _
 have d2:y'.natAbs ∣ y.natAbs:=by
  refine Nat.Coprime.dvd_of_dvd_mul_left (k:=y'.natAbs) (m:=x'.natAbs) (n:=y.natAbs) ?_ ?_
  ·show Nat.gcd _ _=1;rw[Nat.gcd_comm];exact g'
  rw[← en];exact Nat.dvd_mul_left _ _
 have ey:y=y':=by have:=Nat.dvd_antisymm d1 d2;omega
 subst ey;refine⟨?_,rfl⟩;rw[wIa x,wIa x'] at e;exact zCz hy e
theorem zL3 {Y:Nat->Int}:∀n,(∀i,i < n->0 < Y i)->∃P,0 < P/\∀i,i < n->Y i ∣ P
 | 0,_=>⟨1,by decide,λi hi=>absurd hi (wHd _)⟩
 | n+1,h=>by
  obtain⟨P,p0,hP⟩:=zL3 n λi hi=>h i ∅;refine⟨P*Y n,wH3 p0 (h n ∅),λi hi=>?_⟩;by_cases e:i=n
  ·subst e;exact Int.dvd_mul_left _ _
  exact Int.dvd_trans (hP i ∅) (Int.dvd_mul_right _ _)
open PySem.W (KasT)
def AllK {α:Type} (n:Nat) (P:α->Prop):KasT α->Prop
 | .ret a=>P a
 | .ask i j k=>i < n/\j < n/\∀b,AllK n P (k b)
theorem AllK.bind {α β:Type} {n:Nat} {P:α->Prop} {R:β->Prop} {f:α->KasT β}:∀{t:KasT α},AllK n P t->(∀a,P a->AllK n R (f a))->AllK n R (t.bind f)
 | .ret a,h,k=>k a h
 | .ask i j g,⟨h1,h2,h3⟩,k=>⟨h1,h2,λb=>AllK.bind (h3 b) k⟩
theorem AllK.wp {α:Type} {n:Nat} {P:α->Prop} {cmp:Nat->Nat->(Bool->Shared->Prop)->Shared->Prop} {Q:α->Shared->Prop} {s:Shared} (hc:∀i j C,i < n->j < n->(∀b,C b s)->cmp i j C s) (hq:∀a,P a->Q a s):∀{t:KasT α},AllK n P t->KasT.kasWp cmp t Q s
 | .ret a,h=>hq a h
 | .ask i j g,⟨h1,h2,h3⟩=>hc i j _ h1 h2 λb=>AllK.wp hc hq (h3 b)
def Pm (n:Nat) (p:Array Nat):Prop:=p.toList.Perm (List.range n)
def Pm.lt {n:Nat} {p:Array Nat} (h:Pm n p) (hn:0 < n) (k:Nat):p.getD k 0 < n:=by
 rw[Array.getD_eq_getD_getElem?];cases e:p[k]? with
 | none=>exact hn
 | some x=>
  have:x∈p.toList:=by have:=Array.mem_of_getElem? e;exact Array.mem_toList_iff.mpr this
  exact List.mem_range.mp (h.mem_iff.mp this)
section
variable {n:Nat} (hn:0 < n)
include hn
end
section
variable {H:Hp}
def _root_.L2.ObjOk.there {P:Program} {w:World} {H:Hp} {h:Heap} {a:Addr} {o:HO} (x:ObjOk P w H h a o):∃u,h.get? a=some u:=by
 cases o with
 | lst xs=>obtain⟨_,_,_,_,e⟩:=x;exact⟨_,e⟩
 | tup xs=>obtain⟨_,_,_,p⟩:=x;obtain⟨o,e,_⟩:=p;exact⟨o,e⟩
 | dK aG=>obtain⟨_,_,_,_,o,_,_,e,_⟩:=x;exact⟨_,e⟩
 | dT aG=>obtain⟨_,_,_,_,o,_,_,e,_⟩:=x;exact⟨_,e⟩
 | set S n=>obtain⟨o,_,_,_,e,_⟩:=x;exact⟨_,e⟩
 | ins C dx fs=>obtain⟨_,_,_,e,_⟩:=x;exact⟨_,e⟩
 | own y=>obtain⟨_,e⟩:=x;exact⟨_,e⟩
 | xd fs=>obtain⟨_,⟨_,_,_,e,_⟩,_⟩:=x;exact⟨_,e⟩
 | rng lo hi=>obtain⟨_,_,_,e⟩:=x;exact⟨_,e⟩
 | frz ob u=>obtain⟨e,_⟩:=x;exact⟨_,e⟩
 | tbl ps=>exact⟨_,(show h.get? a=some _ from x)⟩
 | met f y=>exact⟨_,(show h.get? a=some _ from x)⟩
 | ext φ=>obtain⟨_,⟨_,e⟩,_⟩:=x;exact⟨_,e⟩
end
structure Ord (n:Nat) (sp:Nat->Nat):Prop where
 lt:∀k,k < n->sp k < n
 inj:∀k j,k < n->j < n->sp k=sp j->k=j
 sur:∀h,h < n->∃k,k < n/\sp k=h
def Ord.of {n:Nat} {π:List Nat} (h:π.Perm (List.range n)):Ord n (λk=>π.getD k 0):=by
 have hl:π.length=n:=by rw[h.length_eq,wIh]
 have hg:∀k (hk:k < n),π.getD k 0=π[k]:=λk hk=>by rw[wG4,wG0 ∅];rfl
 refine⟨λk hk=>?_,λk j hk hj e=>?_,λx hx=>?_⟩
 ·show π.getD k 0 < n;rw[hg k hk];exact List.mem_range.mp (h.mem_iff.mp (wHs _))
 ·have e':π.getD k 0=π.getD j 0:=e;rw[hg k hk,hg j hj] at e';exact (List.getElem_inj (h.nodup_iff.mpr List.nodup_range)).mp e'
 obtain⟨k,hk,ek⟩:=List.mem_iff_getElem.mp (h.mem_iff.mpr (List.mem_range.mpr hx));exact⟨k,by omega,by show π.getD k 0=x;rw[hg k ∅];exact ek⟩
def tx (l:List Nat):Str:=⟨l.toArray⟩
def zJB (a b:List Nat):tx a++tx b=tx (a++b):=by show Str.mk (a.toArray++b.toArray)=Str.mk (a++b).toArray;simp
def zCM (l:List Nat):(tx l).length=l.length:=by show l.toArray.size=_;simp
def zEr (l:List Nat):(tx l).cps.toList=l:=by show l.toArray.toList=l;simp
def zIf (x:Str):x=tx x.cps.toList:=by cases x;show Str.mk _=Str.mk _;simp
def zPe {a b:List Nat} (h:tx a=tx b):a=b:=by have:=congrArg (λs:Str=>s.cps.toList) h;simpa [zEr] using this
def zB0 (x:Str):x.length=x.cps.toList.length:=by show x.cps.size=_;simp
def dg (m:Nat):List Nat:=(Nat.toDigits 10 m).map Char.toNat
def zOJ (m:Nat):Str.ofString (toString ((m:Nat):Int))=tx (dg m):=by rw[zIf (Str.ofString (toString ((m:Nat):Int))),PySem.W.KIN.signs_num];rfl
def zGn {m:Nat} (h:m < 10):dg m=[48+m]:=by
 unfold dg;rw[Nat.toDigits_of_lt_base h]
 revert m
 decide
def zOK {m:Nat} (h:10<=m):dg m=dg (m / 10)++[48+m%10]:=by
 have e:m=10*(m / 10)+m%10:=by omega
 have p:0 < m / 10:=by omega
 have q:m%10 < 10:=by omega
 have:dg m=dg (m / 10)++dg (m%10):=by
  unfold dg
  conv=>lhs;rw[e]
  rw[← Nat.toDigits_append_toDigits ⋯ p q,wG9]
 rw[this,zGn q]
theorem zQl {m:Nat} (h:0 < m):Str.ofString (toString (-((m:Nat):Int)))=tx (45::dg m):=by
 obtain⟨k,rfl⟩:∃k,m=k+1:=⟨m-1,by omega⟩;rw[zIf (Str.ofString _),signs_ofString];have e:(toString (-((k+1:Nat):Int))).toList='-'::Nat.toDigits 10 (k+1):=by show ("-"++Nat.repr (k+1)).toList=_;rw[String.toList_append,Nat.toList_repr];rfl
 rw[e];rfl
theorem zLl:∀(k m:Nat),m < 10 ^ (k+1)->(dg m).length<=k+1
 | 0,m,h=>by rw[zGn ∅];exact wG5 _
 | k+1,m,h=>by
  by_cases c:m < 10
  ·rw[zGn c];exact Nat.le_add_left _ _
  rw[zOK ∅,wG7];have:=zLl k (m / 10) (by rw[Nat.pow_succ] at h;omega);show _+1<=_;omega
def sz (n:Nat) (h:n<=16777216):n<=sizeLine:=by rw[sizeLine_eq];exact h
def Shw:V->Str->Prop
 | .int i,y=>i.natAbs.log2 < 1920/\y=Str.ofString (toString i)
 | .str z,y=>z.length<=sizeLine/\y=z
 | _,_=>False
abbrev TJ:=St->Hp->Str->(Str->Hp->Prop)->Prop
section
variable {X:Cx}
def PJ (X:Cx) (es:List Expr) (t:TJ):Prop:=
 ∀(pins:List (Addr × Obj)) (s:Shared) (σ:St) (H:Hp) (out:Str) (Q:Str->Hp->Prop),Inv X pins σ H s->t σ H out Q->
  wpAny (model X.prog X.w) X.A (joinParts out (evalEach es X.env)) (EP X pins σ λv H'=>∃y,v=.str y/\Q y H') X.xe s
def zRL:TJ:=λ_ H out Q=>out.length<=sizeLine/\Q out H
def zRM (y:Str) (t:TJ):TJ:=λσ H out Q=>(out++y).length<=sizeLine/\t σ H (out++y) Q
inductive JVal (t:TJ) (out:Str) (Q:Str->Hp->Prop) (x:V) (σ:St) (H1:Hp):Prop
 | mk (y:_):Shw x y->((out++y).length<=sizeLine)->(t σ H1 (out++y) Q)->JVal t out Q x σ H1
def zRJ (te:TE) (t:TJ):TJ:=λσ H out Q=>te σ H λx H1=>JVal t out Q x σ H1
def zDo:PJ X [] zRL:=λpins s σ H out Q I h=>joinParts_nil ⟨.str out,H,I.tok _,⟨_,rfl⟩,out,rfl,h.2⟩ h.1
def zBY {y:Str} {j pos} {es:List Expr} {t:TJ} (h:PJ X es t):PJ X (.Constant (.str y) j pos::es) (zRM y t):=λpins s σ H out Q I hq=>
 joinParts_cons (Calls.Constant_str ⟨hq.1,h pins _ σ H (out++y) Q (I.tok _) hq.2⟩)
def zDn {e:Expr} {te:TE} {pos} {es:List Expr} {t:TJ} (he:PE X e te) (h:PJ X es t):PJ X (.FormattedValue e (-1) none pos::es) (zRJ te t):=λpins s σ H out Q I hq=>by
 refine joinParts_cons (FormattedValue_plain (thn (he pins s σ H _ I hq) λv s1 aA=>?_));obtain⟨x,H1,I1,r1,y,sh,hz,q⟩:=aA;cases x<;>first
  | exact sh.elim
  | skip
 ·obtain⟨hl,rfl⟩:=sh;obtain⟨t1,rfl⟩:=r1;exact formatField_int_small hl ⟨hz,h pins _ σ H1 _ Q (I1.tok _) q⟩
 obtain⟨hl,rfl⟩:=sh;obtain⟨t1,rfl⟩:=r1;exact formatField_str (λt' tk=>⟨hz,h pins _ σ H1 _ Q (I1.tok _) q⟩) hl
def zQA (t:TJ):TE:=λσ H Q=>t σ H Str.empty λy H'=>Q (.str y) H'
def zBq {a b:Expr} {es:List Expr} {pos:Pos} {t:TJ} (h:PJ X (a::b::es) t):PE X (.JoinedStr (a::b::es) pos) (zQA t):=λpins s σ H Q I hq=>
 JoinedStr_many (thn (h pins s σ H _ _ I hq) λv s1 ⟨x,H1,I1,r1,y,e,q⟩=>⟨x,H1,I1,r1,by rw[e];exact q⟩)
theorem zH8:∀{xs:List Str} {us:List Value},zA7 (xs.map V.str) us->StrsAre us xs
 | [],_,.nil=>.nil
 | x::xs,_,.cons ⟨t,e⟩ r=>by subst e;exact .cons x t (zH8 r)
inductive RJoin (K:W.Frag) (x:V) (vs:List V) (H:Hp) (Q:VK):Prop
 | mk (sep:Str) (p:Addr) (xs:List Str):(x=.str sep)->(vs=[.ref p])->(SqL K H p (xs.map V.str))->((xs.map (·.length)).sum+xs.length*sep.length<=16777216)->(Q (.str (Str.join sep xs)) H)->RJoin K x vs H Q
def zP2 (K:W.Frag):V->List V->Hp->VK->Prop:=λx vs H Q=>RJoin K x vs H Q
def zOw:MtR X "str.join" (zP2 X.K):=by intro pins s σ H x xs v us Q I rx rs h;obtain⟨sep,p,ys,rfl,rfl,hq,hz,q⟩:=h;obtain⟨t,rfl⟩:=rx;obtain⟨u,rfl,r1⟩:=zA7.one rs;cases (show u=Value.ref p from r1);obtain⟨its,rv,pl,hz'⟩:=I.list hq;refine join_list pl.isList (by simpa using zH8 rv) hz λt' k=>⟨.str _,H,I.tok _,⟨_,rfl⟩,?_⟩;have e:Txt.join sep ys=Str.join sep ys:=StrLaws.glued_eq_join sep ys;rw[e];exact q
def zIA (K:W.Frag) (h:X.K=K:=by rfl):MtR X "str.join" (zP2 K):=by subst h;exact zOw
def zF2:OpR X (binaryOp .Mult) (λx y H Q=>∃z n,x=.str z/\y=.int n/\0<=n/\n<=1000/\z.length<=1000/\Q (.str (tx (List.replicate n.toNat z.cps.toList).flatten)) H):=by
 intro pins s σ H x y v u Q I rx ry h;obtain⟨z,n,rfl,rfl,n0,n1,hz,q⟩:=h;obtain⟨t,rfl⟩:=rx;obtain⟨t',rfl⟩:=ry;have hs:sizeLine=16777216:=sizeLine_eq;have em:Txt.mul z n=tx (List.replicate n.toNat z.cps.toList).flatten:=by
  unfold Txt.mul;by_cases c:n < 1
  ·rw[wG1 c];have:n.toNat=0:=by omega
   rw[this];rfl
  rw[wGZ c];by_cases d:(n == 1 || z.length == 0)=true
  ·rw[wG1 d];rcases Bool.or_eq_true _ _ ▸ d with d | d
   ·have:n=1:=by simpa using d
    subst this;show z=tx ([z.cps.toList].flatten);rw[List.flatten_singleton];exact zIf z
   have d:z.length=0:=by simpa using d
   have e:z.cps.toList=[]:=List.eq_nil_of_length_eq_zero (by rw[← zB0];exact d);rw[e]
   conv=>lhs;rw[zIf z,e]
   congr 1
   generalize n.toNat=k
   induction k with
   | zero=>rfl
   | succ k ih=>rw[wHV,wIb,← ih];rfl
  rw[wGZ d];show Str.mk _=Str.mk _
  congr 1
  generalize n.toNat=k;have:∀(k:Nat) (aE:Array Nat),(List.replicate k z.cps).foldl (·++·) aE=aE++(List.replicate k z.cps.toList).flatten.toArray:=by
   intro k
   induction k with
   | zero=>intro aE;simp
   | succ k ih=>
    intro aE;rw[wHV,List.foldl_cons,ih,wHV,wIb,Array.append_assoc]
    congr 1
    rw[← Array.toList_inj];simp
  rw[this];simp
 have b1:z.length*n.toNat<=1000*1000:=Nat.mul_le_mul hz ∅;refine SB.mul ⟨?_,λ_ _=>?_,λ_ _=>?_⟩ λt' k=>⟨.str _,H,I.tok _,⟨_,rfl⟩,by rw[em];exact q⟩
 ·have e1:decide (n < -(2 ^ 63:Int))=false:=wHy ∅;have e2:decide (n≥2 ^ 63)=false:=wHy ∅;rw[e1,e2];rfl
 ·rename_i c _
  intro z1;have b2:(1000:Int)*n<=2 ^ 63-1:=by omega
  have:(1000:Int)<=(2 ^ 63-1) / n:=Int.le_ediv_of_mul_le ∅ b2;omega
 unfold Builtin.Str.tooLong;exact wHy (by rw[hs];omega)
end
def vx (l:List Nat):V:=.str (tx l)
def zMS {xs:List Nat} {k:Int} {v:Nat} (h0:0<=k) (h:xs[k.toNat]?=some v):atI xs k=some v:=by
 have ek:k=((k.toNat:Nat):Int):=by omega
 rw[ek];exact zDM h
def zDN (h:Heap) (e T:Addr) (cls:Value) (dd:Option Addr) (fl:Value):Prop:=
 ∃oe vs oT ts,h.get? e=some oe/\oe.cls=cls/\oe.dict=dd/\oe.data=.fields vs/\vs[1]?=some (.ref T)/\vs[2]?=some .none/\T≠e/\h.get? T=some oT/\oT.data=.fields ts/\ts[3]?=some fl
structure Moved (fs ch:List Addr) (h h':Heap):Prop where
 keep:∀b o,b∉fs->b∉ch->h.get? b=some o->h'.get? b=some o
 slot:∀b o,b∉ch->h.get? b=some o->∃sl,h'.get? b=some { o with slots:=sl }
def Moved.refl {fs ch:List Addr} {h:Heap}:Moved fs ch h h:=⟨λ_ _ _ _ e=>e,λ_ o _ e=>⟨o.slots,e⟩⟩
def Moved.trans {fs ch:List Addr} {h h1 h2:Heap} (x:Moved fs ch h h1) (y:Moved fs ch h1 h2):Moved fs ch h h2:=
 ⟨λb o n m e=>y.keep b o n m (x.keep b o n m e),λb o m e=>let ⟨_,e1⟩:=x.slot b o m e;let ⟨sl,e2⟩:=y.slot b _ m e1;⟨sl,e2⟩⟩
def Moved.mono {fs ch fe ch':List Addr} {h h':Heap} (x:Moved fs ch h h') (a:∀b∈fs,b∈fe) (c:∀b∈ch,b∈ch'):Moved fe ch' h h':=
 ⟨λb o n m e=>x.keep b o (λz=>n (a b z)) (λz=>m (c b z)) e,λb o m e=>x.slot b o (λz=>m (c b z)) e⟩
def Moved.upd1 {h:Heap} {a:Addr} {f:Obj->Obj}:Moved [] [a] h (h.update a f):=by have k:∀b,b∉[a]->(h.update a f).get? b=h.get? b:=λb n=>wHu _ _ λz=>n (by rw[z];exact List.mem_singleton.mpr rfl);exact⟨λb o _ n e=>(k b n).trans e,λb o n e=>⟨o.slots,(k b n).trans e⟩⟩
def Moved.push {h:Heap} {o:Obj}:Moved [] [] h (h.push o):=⟨λb u _ _ e=>wG3 _ e,λb u _ e=>⟨u.slots,wG3 _ e⟩⟩
def Moved.slots {S:List Addr} {h h':Heap} (x:Heap.SlotsOnly S h h'):Moved S [] h h':=⟨λb o n _ e=>(x.2.1 b n).trans e,λb o _ e=>x.2.2 b o e⟩
def FunFrames.moved {base h h':Heap} {ch:List Addr} {fs:List Addr} {l:List Env} (x:h.FunFrames base l) (m:Moved fs ch h h') (hc:∀b∈ch,∀o,h.get? b=some o->∃vs,o.data=.fields vs):h'.FunFrames base l:=
 x.of_keeps λb o e hn=>by obtain⟨sl,q⟩:=m.slot b o (λz=>let ⟨vs,hv⟩:=hc b z o e;hn vs hv) e;exact⟨_,q,rfl⟩
section
variable {M:Model} {A:Around} {E:Value->Shared->Prop} {s:Shared} {base:Heap} {env:Env} {outer:List Env} {L e:Addr} {Q:Unit->Shared->Prop}
def zNz {oe:Obj} {vs:Array Value} {head:Value} {eY:Bool} (eS:A.frames=some (env::outer)) (hl:s.heap.FunFrames base (env::outer)) (hf:env.frame=some L)
  (he:s.heap.get? e=some oe) (hd:oe.data=.fields vs) (h2:vs[2]?=some .none)
  (k:∀h' T,Moved (frs (env::outer)) [e] s.heap h'->s.heap.get? T=none->zDN h' e T oe.cls oe.dict (rawInt L)->Q PUnit.unit { s with heap:=h' }) :
  wpAny M A (do let a ← frameOf env;let pl ← entryPlaceOf L eY;let b ← EntryCells.newEntry head a .none (rawInt L) .none pl;setField (.ref e) 1 b) Q E s:=by
 have nfr:e∉frs (env::outer):=λz=>by obtain⟨_,o,ho,hn⟩:=hl.mem z;rw[he] at ho;cases ho;exact hn vs hd
 have sz2:2 < vs.size:=(Array.getElem?_eq_some_iff.mp h2).1;refine wGY (wpAny_frameOf_fun eS hl hf λh1 so=>wGY (wpAny_entryPlaceOf λpl ip=>?_));have e1:h1.get? e=some oe:=(so.2.1 e nfr).trans he;unfold EntryCells.newEntry newFields;refine wGY (wHL ?_ (ip.sizeOk5 _ _ _ _ _));generalize nY:(([head,.ref L,.none,rawInt L,.none]++(if pl.isEmpty then List.replicate 6 Value.none else pl)).toArray:Array Value)=cells;have c3:cells[3]?=some (rawInt L):=by rw[← nY];simp
 refine wpAny_setField (wG3 _ e1) hd ∅ (k _ h1.objs.size ?_ ?_ ?_)
 ·exact ((Moved.slots so).mono (λ_ z=>z) (λ_ z=>nomatch z)).trans (((Moved.push).mono (λ_ z=>nomatch z) (λ_ z=>nomatch z)).trans (Moved.upd1.mono (λ_ z=>nomatch z) λ_ z=>z))
 ·exact wIe (wIf so.1.symm)
 have hTe:h1.objs.size≠e:=Nat.ne_of_gt (wHa e1);have dO:=Obj.data_mapFields hd (·.setIfInBounds 1 (Value.ref h1.objs.size));refine⟨_,_,_,cells,wHS _ (wG3 _ e1) (Obj.isFreed_of_fields dO),Obj.cls_mapFields _ _,?_,dO,?_,?_,hTe,(wHu _ _ (Ne.symm hTe)).trans (wHb h1 rfl),rfl,c3⟩
 ·obtain⟨c,d,dt,sl⟩:=oe;cases hd
  rfl
 ·rw[Array.getElem?_setIfInBounds_self_of_lt ∅]
 rw[Array.getElem?_setIfInBounds_ne ⋯];exact h2
def zMu {oe:Obj} {vs:Array Value} (eS:A.frames=some (env::outer)) (hl:s.heap.FunFrames base (env::outer)) (hf:env.frame=some L)
  (he:s.heap.get? e=some oe) (hd:oe.data=.fields vs) (h1:vs[1]?=some .none) (h2:vs[2]?=some .none)
  (k:∀h' T,Moved (frs (env::outer)) [e] s.heap h'->s.heap.get? T=none->zDN h' e T oe.cls oe.dict (rawInt L)->Q PUnit.unit { s with heap:=h' }):wpAny M A (noteFrame (.ref e) env) Q E s:=by
 unfold noteFrame;simp only[hf];refine wGY (wId he hd h1 ?_);rw[wGZ ⋯];exact zNz eS hl hf he hd h2 k
def zKI {T:Addr} {cls:Value} {dd:Option Addr} (eS:A.frames=some (env::outer)) (hl:s.heap.FunFrames base (env::outer)) (hf:env.frame=some L) (x:zDN s.heap e T cls dd .none)
  (k:∀h' T',Moved (frs (env::outer)) [e,T] s.heap h'->s.heap.get? T'=none->zDN h' e T' cls dd (rawInt L)->Q PUnit.unit { s with heap:=h' }):wpAny M A (noteFrame (.ref e) env) Q E s:=by
 obtain⟨oe,vs,oT,ts,he,rfl,rfl,hd,h1,h2,aI,hT,gK,h3⟩:=x;unfold noteFrame;simp only[hf];refine wGY (wId he hd h1 ?_);rw[wG1 (show (Value.ref T != Value.none)=true from rfl)];refine wGY (wId hT gK h3 ?_);rw[wGZ (show ¬((Value.none == rawInt L)=true) from by simp[rawInt])];refine wGY (wpAny_setField hT gK (Array.getElem?_eq_some_iff.mp h3).1 ?_);have m1:Moved [] [T] s.heap (s.heap.update T (Obj.mapFields (·.setIfInBounds 3 Value.none))):=Moved.upd1;refine zNz (s:={ s with heap:=_ }) eS (FunFrames.moved hl m1 λb hb o ho=>?_) hf ((wHu _ _ aI).trans he) hd h2 λh' T' m n x'=>k h' T' ((m1.mono (λ_ z=>nomatch z) λb z=>by simp at z;simp[z]).trans (m.mono (λ_ z=>z) λb z=>by simp at z;simp[z])) ?_ x'
 ·rw[wIj hb,hT] at ho;cases ho;exact⟨ts,gK⟩
 cases q:s.heap.get? T' with
 | none=>rfl
 | some o=>
  by_cases z:T'=T
  ·subst z;have:=wHS (Obj.mapFields (·.setIfInBounds 3 Value.none)) hT (Obj.isFreed_of_fields (Obj.data_mapFields gK _));rw[this] at n;cases n
  rw[wHu _ _ (Ne.symm z),q] at n;cases n
def zEU {T:Addr} {cls fl:Value} {dd:Option Addr} (x:zDN s.heap e T cls dd fl) (k:∀h',Moved [] [T] s.heap h'->zDN h' e T cls dd .none->Q PUnit.unit { s with heap:=h' }):wpAny M A (setFlight (.ref e) none) Q E s:=by obtain⟨oe,vs,oT,ts,he,rfl,rfl,hd,h1,h2,aI,hT,gK,h3⟩:=x;have s3:3 < ts.size:=(Array.getElem?_eq_some_iff.mp h3).1;unfold setFlight;refine wGY (wId he hd h1 ?_);rw[wG1 (show (Value.ref T != Value.none)=true from rfl)];refine wpAny_setField hT gK s3 (k _ Moved.upd1 ?_);have dO:=Obj.data_mapFields gK (·.setIfInBounds 3 ((none:Option Addr).elim Value.none λf=>rawInt f));exact⟨oe,vs,_,_,(wHu _ _ aI).trans he,rfl,rfl,hd,h1,h2,aI,wHS _ hT (Obj.isFreed_of_fields dO),dO,by rw[Array.getElem?_setIfInBounds_self_of_lt s3];rfl⟩
def zF7 {oe:Obj} {vs:Array Value} (eS:A.frames=some (env::outer)) (hl:s.heap.FunFrames base (env::outer)) (hf:env.frame=some L)
  (he:s.heap.get? e=some oe) (hd:oe.data=.fields vs) (h1:vs[1]?=some .none) (h2:vs[2]?=some .none)
  (k:∀h' T,Moved (frs (env::outer)) [e,T] s.heap h'->s.heap.get? T=none->zDN h' e T oe.cls oe.dict .none->Q PUnit.unit { s with heap:=h' }):wpAny M A (leaving env (.ref e)) Q E s:=
 wGY (zMu eS hl hf he hd h1 h2 λh' T m n x=>zEU (s:={ s with heap:=h' }) x λeZ m' x'=>k eZ T ((m.mono (λ_ z=>z) λb z=>by simp at z;simp[z]).trans (m'.mono (λ_ z=>nomatch z) λb z=>by simp at z;simp[z])) n x')
def zKS {T:Addr} {cls:Value} {dd:Option Addr} (eS:A.frames=some (env::outer)) (hl:s.heap.FunFrames base (env::outer)) (hf:env.frame=some L) (x:zDN s.heap e T cls dd .none)
  (k:∀h' T',Moved (frs (env::outer)) [e,T,T'] s.heap h'->s.heap.get? T'=none->zDN h' e T' cls dd .none->Q PUnit.unit { s with heap:=h' }):wpAny M A (leaving env (.ref e)) Q E s:=
 wGY (zKI eS hl hf x λh' T' m n x=>zEU (s:={ s with heap:=h' }) x λeZ m' x'=>k eZ T' ((m.mono (λ_ z=>z) λb z=>by simp at z;rcases z with z | z<;>simp[z]).trans (m'.mono (λ_ z=>nomatch z) λb z=>by simp at z;simp[z])) n x')
end
def zIF {P:Program} {w:World} {H:Hp} {h:Heap} {a:Addr} {o:HO} (x:HOk P w H h) (e:H a=some o):∃ob,h.get? a=some ob:=by
 have y:=x a o e;cases o with
 | lst xs=>obtain⟨_,_,_,_,e⟩:=y;exact⟨_,e⟩
 | tup xs=>obtain⟨_,_,_,o,e,_⟩:=y;exact⟨_,e⟩
 | dK aG=>obtain⟨_,_,_,_,o,_,_,e,_⟩:=y;exact⟨_,e⟩
 | dT aG=>obtain⟨_,_,_,_,o,_,_,e,_⟩:=y;exact⟨_,e⟩
 | set S n=>obtain⟨o,_,_,_,e,_⟩:=y;exact⟨_,e⟩
 | ins C dx fs=>obtain⟨_,_,_,e,_⟩:=y;exact⟨_,e⟩
 | own z=>obtain⟨_,e⟩:=y;exact⟨_,e⟩
 | xd fs=>obtain⟨_,⟨_,_,_,e,_⟩,_⟩:=y;exact⟨_,e⟩
 | rng lo hi=>obtain⟨_,_,_,e⟩:=y;exact⟨_,e⟩
 | frz o u=>exact⟨_,y.1⟩
 | tbl ps=>exact⟨_,y⟩
 | met f z=>exact⟨_,y⟩
 | ext φ=>exact y.2.1
def zCJ {P:Program} {w:World} {H:Hp} {h:Heap} {a:Addr} (x:HOk P w H h) (e:h.get? a=none):H a=none:=by
 cases q:H a with
 | none=>rfl
 | some o=>obtain⟨ob,z⟩:=zIF x q;rw[e] at z;cases z
def HOk.moved {P:Program} {w:World} {H:Hp} {h h':Heap} {fs ch:List Addr} (x:HOk P w H h) (m:Moved fs ch h h') (n:∀b o,H b=some o->b∉fs/\b∉ch):HOk P w H h':=λa u e=>by
 refine (x a u e).stay (λc v hc q=>?_) (λ_ q=>q) λ_ _ q=>q;rcases hc with z | z
 ·rw[z] at q ⊢;exact m.keep _ _ (n a u e).1 (n a u e).2 q
 exact m.keep _ _ (n c _ z).1 (n c _ z).2 q
def Un.moved {fs fe ch:List Addr} {H H':Hp} {h h1 h2:Heap} (u:Un fs [] H H' h h1) (m:Moved fe ch h1 h2) (hc:∀b o,h.get? b=some o->b∉ch) (hf:∀b o,h.get? b=some o->b∈fe->b∈fs):Un fs [] H H' h h2 where
 keep:=λb o e n nf ne=>m.keep b o (λz=>nf (hf b o e z)) (hc b o e) (u.keep b o e n nf ne)
 slot:=λb o e n nf ne=>let ⟨_,q⟩:=u.slot b o e n nf ne;let ⟨sl,q2⟩:=m.slot b _ (hc b o e) q;⟨sl,q2⟩
 free:=u.free
 there:=λb o e ne=>let ⟨o',q⟩:=u.there b o e ne;let ⟨sl,q2⟩:=m.slot b o' (hc b o e) q;⟨_,q2⟩
 tups:=u.tups
 frzs:=u.frzs
 tbls:=u.tbls
def CXx (P:Program) (w:World):CXT:=λouter H s E ev s'=>∃(e T:Addr) (cls:Value) (dd:Option Addr) (H':Hp),ev=.ref e/\s'.os=s.os/\AllBare s'.gens/\Un (frs outer) [] H H' s.heap s'.heap/\HOk P w H' s'.heap/\
 zDN s'.heap e T cls dd .none/\s.heap.get? e=none/\s.heap.get? T=none/\H' e=none/\H' T=none/\E cls dd H'
section
variable {P:Program} {w:World} {K:W.Frag} {mg:Str->Option Value} {base:Heap} {N:List Str} {qual:Str} {scope:Scope} {f:Addr} {cd:Value} {A:Around} {outer:List Env} {s0:Shared} {H0:Hp} {E:XK}
def zK3 {pins:List (Addr × Obj)} {σ:St} {H':Hp} {s s'':Shared} {e T:Addr} {cls:Value} {dd:Option Addr} {ch:List Addr} (I:Inv (zDZ (CXx P w) P w K mg base N qual scope f cd A outer s0 H0 E) pins σ H' s)
  (m:Moved (frs (envOfC qual scope s0.heap.objs.size f cd::outer)) ch s.heap s''.heap) (os:s''.os=s.os) (ba:AllBare s''.gens) (x:zDN s''.heap e T cls dd .none) (hc:∀b∈ch,s0.heap.get? b=none) (hH:∀b∈ch,H' b=none) (he:s0.heap.get? e=none) (hT:s0.heap.get? T=none) (gO:H' e=none) (gP:H' T=none) (q:E cls dd H') :
  CXx P w outer H0 s0 E (.ref e) s'':=by
 have bs:Un (frs outer) [] H0 H' s0.heap s.heap:=I.base;refine⟨e,T,cls,dd,H',rfl,os.trans I.os,ba,bs.moved m (λb o eb z=>by rw[hc b z] at eb;cases eb) (λb o eb z=>?_),I.hok.moved m λb o eb=>⟨λz=>?_,λz=>?_⟩,x,he,hT,gO,gP,q⟩
 ·unfold frs at z;rw[List.filterMap_cons] at z;rcases wIn (show b∈s0.heap.objs.size::frs outer from z) with y | y
  ·rw[y,wIe (wG5 _)] at eb;cases eb
  exact y
 ·rw[I.stkFree b z] at eb;cases eb
 rw[hH b z] at eb;cases eb
def zCb:zDy (CXx P w) (zDZ (CXx P w) P w K mg base N qual scope f cd A outer s0 H0 E) E:=by
 intro pins σ H s ev s' I hx;obtain⟨e,T,cls,dd,H',rfl,os,bare,un,hok,x,ne,nT,he,hT,q⟩:=hx;have I':=I.call' (ch:=[]) os un hok bare (λb z=>nomatch z);have old:∀b,s.heap.get? b=none->s0.heap.get? b=none:=λb z=>by
  cases y:s0.heap.get? b with
  | none=>rfl
  | some o=>obtain⟨o',h'⟩:=I.base.there b o y (λz=>nomatch z);rw[z] at h';cases h'
 have ji:∀b,s'.heap.get? b=none->s0.heap.get? b=none:=λb z=>by
  cases y:s0.heap.get? b with
  | none=>rfl
  | some o=>obtain⟨o',h'⟩:=I'.base.there b o y (λz=>nomatch z);rw[z] at h';cases h'
 refine zKS I'.ok.frames I'.stack rfl x λeZ T' m n x'=>?_;have hT':H' T'=none:=zCJ hok n;exact zK3 (s'':={ s' with heap:=eZ }) I' m rfl I'.bare x' (λb hb=>by
  simp at hb;rcases hb with z | z | z
  ·rw[z];exact old e ne
  ·rw[z];exact old T nT
  ·rw[z];exact ji T' n) (λb hb=>by
  simp at hb;rcases hb with z | z | z
  ·rw[z];exact he
  ·rw[z];exact hT
  rw[z];exact hT') (old e ne) (ji T' n) he hT' q
def zOG {h:Heap} {C:Addr} {bmB:List Value} {newId:String} (X:K.In h) (q:W.excIn K C bmB newId=true) :
  ∃tl ns nm qn bs hd sn sub ab col dd k0 k1 k2 k3 k5 mN,h.get? C=some (excClassObj nm qn C ns bs tl hd sn sub ab col dd k0 k1 k2 k3 k5 newId)/\h.Ns ns mN/\mN "__init__"=none/\OwnTail h bmB tl:=by
 unfold W.excIn at q
 split at q
 case h_2=>cases q
 case h_1 dd cd sl ho=>
  split at q
  case h_2=>cases q
  case h_1 C' tl k0 k1 k2 k3 n k5 hm hs=>
   simp only[wHw,beq_iff_eq,Bool.not_eq_true'] at q;obtain⟨⟨⟨⟨⟨hC,hn⟩,jL⟩,ht⟩,hok⟩,kR⟩:=q;subst hC hn;have iE:sl=#[k0,k1,k2,k3,some (.builtin n),k5]:=Array.toList_inj.mp hs;rcases cd with ⟨nm,bs,mro,ns,qn,hd,sn,sub,ab,col,del⟩;simp only at hm jL hok kR;subst hm jL iE;exact⟨tl,ns,nm,qn,bs,hd,sn,sub,ab,col,dd,k0,k1,k2,k3,k5,_,X _ _ ho,.of_isNs (W.isNs_of_in X hok),W.nsMap_none_of_in X hok kR,W.tail_of_in X ht⟩
abbrev vEr:List Value:=[.type "ValueError",.type "Exception",.type "BaseException",.type "object"]
def zPx (E:XK) (C:Addr) (te:TE):TS:=λ_ σ H=>te σ H λ_ H1=>E (.ref C) none H1
def zB7 {x:Str} {C:Addr} {e:Expr} {te:TE} {np aB pos:Pos} (hx:W.excIn K C vEr "ValueError.__new__"=true) (hg:Gl (zDZ (CXx P w) P w K mg base N qual scope f cd A outer s0 H0 E) x) (hm:mg x=some (.ref C))
  (he:PE (zDZ (CXx P w) P w K mg base N qual scope f cd A outer s0 H0 E) e te) (hd:(x == ("__debug__":Str))=false:=by decide)
  (bT:starEach [e] (zDZ (CXx P w) P w K mg base N qual scope f cd A outer s0 H0 E).env=[(false,eval e (zDZ (CXx P w) P w K mg base N qual scope f cd A outer s0 H0 E).env)]:=by rfl) :
  PS (zDZ (CXx P w) P w K mg base N qual scope f cd A outer s0 H0 E) (.Raise (some (.Call (.Name x np) [e] [] aB)) none pos) (zPx E C te):=by
 intro pins s σ H D I h;obtain⟨tl,ns,nm,qn,bs,iK,sn,sub,ab,col,dd,k0,k1,k2,k3,k5,mN,hC,hN,kR,T⟩:=zOG I.ok.mod.kin hx;refine wpAny_Raise_call_subT (C:=C) (nm:=nm) (q:=qn) (N:=ns) (bs:=bs) (bm:=tl) (hdct:=iK) (sn:=sn) (sub:=sub) (ab:=ab) (col:=col) (dd:=dd) (k0:=k0) (k1:=k1) (k2:=k2) (k3:=k3) (k5:=k5)
  F.excBase_ValueError (mN:=mN) (T.hasType rfl) (I.ok.hd rfl) (by rw[bT];rfl) kR (zBU I hg hm ⟨rfl,?_⟩ hd)
 rw[bT];refine Calls.evalArgs_plain (wHq (Calls.spliced_cons (wHq (he pins s σ H _ I h) (λv s2 ⟨y,H1,I1,r1,q⟩=>Calls.spliced_nil ?_) λ_ _ z=>z)) (λus s2 z=>z) λ_ _ z=>z);refine⟨rfl,(show 1<=sizeLine by decide),I1.bk _ _ hC,hN.keeps I1.bk,T.keeps I1.bk,λh' e' mk=>?_⟩;obtain⟨t,e1,e2,e3⟩:=mk.there;have old:∀b,s2.heap.get? b=none->s0.heap.get? b=none:=λb z=>by
  cases y:s0.heap.get? b with
  | none=>rfl
  | some o=>obtain⟨o',h'⟩:=I1.base.there b o y (λz=>nomatch z);rw[z] at h';cases h'
 have I2:=I1.kept (h':=h') (t':=s2.toks) mk.keeps;refine zF7 (s:={ s2 with heap:=h' }) I2.ok.frames I2.stack rfl e1 rfl rfl rfl λeZ T' m n x'=>?_;have gO:H1 e'=none:=zCJ I1.hok mk.new;have nT:s2.heap.get? T'=none:=by
  cases y:s2.heap.get? T' with
  | none=>rfl
  | some o=>have:=mk.keeps _ _ y;rw[show h'.get? T'=none from n] at this;cases this
 have gP:H1 T'=none:=zCJ I1.hok nT;exact zK3 (s'':={ s2 with heap:=eZ }) I2 m rfl I2.bare x' (λb hb=>by
  simp at hb;rcases hb with z | z
  ·rw[z];exact old e' mk.new
  ·rw[z];exact old T' nT) (λb hb=>by
  simp at hb;rcases hb with z | z
  ·rw[z];exact gO
  rw[z];exact gP) (old e' mk.new) (old T' nT) gO gP q
end
def zFG (e:Addr) (cls:Value) (dd:Option Addr):HO:=.ext λh=>∃oe vs,h.get? e=some oe/\oe.cls=cls/\oe.dict=dd/\oe.data=.fields vs/\vs[2]?=some .none
def zFG.ok {P:Program} {w:World} {H:Hp} {h:Heap} {e T:Addr} {cls fl:Value} {dd:Option Addr} (x:zDN h e T cls dd fl):ObjOk P w H h e (zFG e cls dd):=by obtain⟨oe,vs,oT,ts,he,hc,hd,hf,h1,h2,_⟩:=x;exact⟨⟨oe,vs,he,hc,hd,hf,h2⟩,⟨oe,he⟩,λh1 h2 ⟨oe,vs,a,b⟩ k=>⟨oe,vs,k _ a,b⟩⟩
def zFG.get {P:Program} {w:World} {H:Hp} {h:Heap} {e:Addr} {cls:Value} {dd:Option Addr} (x:HOk P w H h) (q:H e=some (zFG e cls dd)):∃oe vs,h.get? e=some oe/\oe.cls=cls/\oe.dict=dd/\oe.data=.fields vs/\vs[2]?=some .none:=(x e _ q).1
def HOk.put {P:Program} {w:World} {H:Hp} {h:Heap} {a:Addr} {o:HO} (x:HOk P w H h) (n:H a=none) (new:ObjOk P w (upd H a o) h a o):HOk P w (upd H a o) h:=λb u e=>by
 by_cases z:b=a
 ·subst z;rw[zB] at e;cases e;exact new
 rw[zO z] at e;refine (x b u e).stay (λ_ _ _ q=>q) (λc q=>?_) λc xs q=>?_
 ·rw[zO (zP q n)];exact q
 rw[zO (zP q n)];exact q
def Un.put {fs:List Addr} {H H':Hp} {h h':Heap} {a:Addr} {o:HO} (u:Un fs [] H H' h h') (n:h.get? a=none) (n':H' a=none):Un fs [] H (upd H' a o) h h' where
 keep:=u.keep
 slot:=u.slot
 free:=λb ob e q x=>by
  have:b≠a:=λz=>by rw[z,n] at e;cases e
  rw[zO this];exact u.free b ob e q x
 there:=u.there
 tups:=λb xs e=>by have:=u.tups b xs e;rw[zO (zP this n')];exact this
 frzs:=λb ob xs e=>by have:=u.frzs b ob xs e;rw[zO (zP this n')];exact this
 tbls:=λb ps e=>by obtain⟨m,q⟩:=u.tbls b ps e;exact⟨m,by rw[zO (zP q n')];exact q⟩
def Cx.hot (X:Cx) (e:Addr):Cx:={ X with A:=X.A.mark (some (.ref e)),calm:=false,xe:=λ_ _=>False }
section
variable {X:Cx} {pins:List (Addr × Obj)} {σ:St} {H:Hp} {s:Shared} {e:Addr}
def Inv.hot (I:Inv X pins σ H s):Inv (X.hot e) pins σ H s:=
 ⟨⟨I.ok.mod,I.ok.kind,I.ok.glob,I.ok.blt,I.ok.above,I.ok.inj,I.ok.has,I.ok.cab,λz=>(nomatch (show false=true from z)),I.ok.frames,I.ok.stk,I.ok.exf,I.ok.bs,I.ok.bsz,I.ok.noex,I.ok.exfs,I.ok.funs,I.ok.frf⟩,I.os,I.bare,I.base,I.loc,I.cell,I.free,I.freeC,I.pin,I.hok,I.len⟩
def Inv.cool (ok:X.Ok) (I:Inv (X.hot e) pins σ H s):Inv X pins σ H s:=⟨ok,I.os,I.bare,I.base,I.loc,I.cell,I.free,I.freeC,I.pin,I.hok,I.len⟩
def zCC {M:Model} {A:Around} {E:Value->Shared->Prop} {i:Nat} {x:Str} {pos:Pos} {Q:Unit->Shared->Prop} (I:Inv X pins σ H s) (hN:X.N.Nodup) (hi:X.N[i]?=some x) (hk:X.env.scope.names.lookup x=some .local)
  (h:∀s',Inv X pins (σ.set i none) H s'->Q PUnit.unit s'):wpAny M A (do bindName X.env x .none;unbindBehindTheSuite X.env x pos) Q E s:=by
 obtain⟨m,hn,hl⟩:=id I.loc;have gM:(X.env.scope.kind == .class || (X.env.scope.kind == .module && X.env.locals != X.env.globals))=false:=by rw[I.ok.kind];rfl
 refine wpAny_nameGoes_keeps hk hn gM λh' v iG hs=>h _ ?_;have lt:∀b o,X.s₀.heap.get? b=some o->b≠X.env.locals:=λb o e=>wHg (wHi (wHa e) I.ok.above);have nl:∀b o,H b=some o->b≠X.env.locals:=λb o e z=>by rw[z,I.free] at e;cases e
 refine⟨I.ok,I.os,I.bare,⟨λb o e n hb hx=>(hs.2 b (lt b o e)).trans (I.base.keep b o e n hb hx),λb o e n hb hx=>?_,I.base.free,λb o e hx=>?_,I.base.tups,I.base.frzs,I.base.tbls⟩,⟨_,iG,λj y v' e1 e2 e3=>?_⟩,λy c e=>?_,I.free,I.freeC,λp hp=>?_,λb ob e=>?_,by rw[List.length_set];exact I.len⟩
 ·obtain⟨sl,q⟩:=I.base.slot b o e n hb hx;exact⟨sl,(hs.2 b (lt b o e)).trans q⟩
 ·obtain⟨o',q⟩:=I.base.there b o e hx;exact⟨o',(hs.2 b (lt b o e)).trans q⟩
 ·have hj:j≠i:=λz=>by
   subst z;by_cases q:j < σ.length
   ·rw[List.getElem?_set_self q] at e2;cases e2
   rw[wH0 (by rw[List.length_set];omega)] at e2;cases e2
  rw[List.getElem?_set_ne (Ne.symm hj)] at e2;obtain⟨u',r',q⟩:=hl j y v' e1 e2 e3;refine⟨u',r',?_⟩;rcases q with ⟨k,e⟩ | ⟨k,c,e,z⟩
  ·refine .inl ⟨k,?_⟩;have:y≠x:=λe=>hj (zGg hN e1 (e ▸ hi));simp[this,e]
  exact .inr ⟨k,c,e,z.sameBut hs (I.cne y c e)⟩
 ·obtain⟨w',z⟩:=I.cell y c e;exact⟨w',z.sameBut hs (I.cne y c e)⟩
 ·obtain⟨e,n,ne,nf,d⟩:=I.pin p hp;exact⟨(hs.2 p.1 ne).trans e,n,ne,nf,d⟩
 refine (I.hok b ob e).stay (λc w' hc q=>(hs.2 c ?_).trans q) (λ_ q=>q) λ_ _ q=>q;rcases hc with z | z
 ·rw[z];exact nl b ob e
 exact nl c _ z
end
abbrev XR:=Value->Option Addr->St->Hp->Prop
def XP (X:Cx) (pins:List (Addr × Obj)) (R:XR) (ev:Value) (s':Shared):Prop:=
 ∃σ₁ H₁ s₁,Inv X pins σ₁ H₁ s₁/\CXx X.prog X.w X.stack H₁ s₁ (λcls dd H'=>R cls dd σ₁ H') ev s'
abbrev TEx:=St->Hp->VK->XK->Prop
abbrev TAx:=St->Hp->(List V->Hp->Prop)->XK->Prop
abbrev TSx:=Ends->XR->St->Hp->Prop
def atS (σ:St) (R:XK):XR:=λcls dd σ' H'=>σ'=σ/\R cls dd H'
def PEx (X:Cx) (e:Expr) (t:TEx):Prop:=
 ∀(pins:List (Addr × Obj)) (s:Shared) (σ:St) (H:Hp) (Q:VK) (R:XK),Inv X pins σ H s->t σ H Q R->wpAny (model X.prog X.w) X.A (eval e X.env) (EP X pins σ Q) (XP X pins (atS σ R)) s
def PAx (X:Cx) (es:List Expr) (t:TAx):Prop:=
 ∀(pos:Pos) (pins:List (Addr × Obj)) (s:Shared) (σ:St) (H:Hp) (Q:List V->Hp->Prop) (R:XK),Inv X pins σ H s->t σ H Q R->wpAny (model X.prog X.w) X.A (spliced (backTo pos (starEach es X.env))) (AP X pins σ Q) (XP X pins (atS σ R)) s
def PSx (X:Cx) (st:Stmt) (t:TSx):Prop:=
 ∀(pins:List (Addr × Obj)) (s:Shared) (σ:St) (H:Hp) (D:Ends) (R:XR),Inv X pins σ H s->t D R σ H->wpAny (model X.prog X.w) X.A (exec st X.env) (SP X pins D) (XP X pins R) s
def zRy (X:Cx) (st:List Stmt) (t:TSx):Prop:=
 ∀(pins:List (Addr × Obj)) (s:Shared) (σ:St) (H:Hp) (D:Ends) (R:XR),Inv X pins σ H s->t D R σ H->wpAny (model X.prog X.w) X.A (execs st X.env) (SP X pins D) (XP X pins R) s
section
variable {X:Cx} {k:Nat} {f:Addr} {fd:FuncData} {ps:List Str} {sp:Sp} {aJ:List V} {ds:List Value} {x:Str} {p pos:Pos} {e:Expr} {es:List Expr} {te:TE} {t:TA}
def xOf (t:TE):TEx:=λσ H Q _=>t σ H Q
def zPD (h:PE X e te) (hx:∀v s,X.xe v s->False:=by exact λ_ _ z=>z):PEx X e (xOf te):=λpins s σ H Q R I q=>wHq (h pins s σ H Q I q) (λ_ _ z=>z) λv s' z=>(hx v s' z).elim
def zOd {pins:List (Addr × Obj)} {σ:St} {H:Hp} {s:Shared} {Q:VK} {R:XK} {us:List Value} {vs:List V} (F:FnOk X.prog X.w X.K X.mg X.base (CXx X.prog X.w) k f fd ps sp) (hr:Room k X.A) (hb:zAg X.K fd ps ds) (hd:zA7 aJ ds)
  (I:Inv X pins σ H s) (r:zA7 vs us) (h:sp (vs++aJ) H Q R):wpAny (model X.prog X.w) X.A (call (.ref f) us) (EP X pins σ Q) (XP X pins (atS σ R)) s:=by
 have r2:zA7 (vs++aJ) (us++ds):=r.append hd;have hl:(us++ds).length=ps.length:=by rw[← r2.length];exact F.len _ _ _ _ h
 refine wpAny_call (codeAny_mono (F.run X.A X.stack s H ⟨us,[]⟩ (us++ds) (vs++aJ) Q R hr I.env0 (hb s us I.kIn hl) r2 h) λr s' hq=>?_);cases r with
 | error ev=>
  obtain⟨e,T,cls,dd,H',a1,a2,a3,a4,a5,a6,a7,a8,a9,pV,pT⟩:=(show CXx X.prog X.w X.stack H s R ev s' from hq);exact⟨σ,H,s,I,e,T,cls,dd,H',a1,a2,a3,a4,a5,a6,a7,a8,a9,pV,rfl,pT⟩
 | ok fl=>
  cases fl with
  | ret u=>exact I.after hq
  | next=>exact wHI hq
  | brk=>exact wHI hq
  | cont=>exact wHI hq
def zQ0 (sp:Sp) (aJ:List V) (t:TA):TEx:=λσ H Q R=>t σ H λvs H1=>sp (vs++aJ) H1 Q R
def zMg (F:FnOk X.prog X.w X.K X.mg X.base (CXx X.prog X.w) k f fd ps sp) (hr:Room k X.A) (hg:Gl X x) (hm:X.mg x=some (.ref f)) (hk:W.keepIn X.K (.ref f)=true) (hb:zAg X.K fd ps ds) (hd:zA7 aJ ds)
  (ha:PA X (e::es) t) (hx:∀v s,X.xe v s->False:=by exact λ_ _ z=>z) (cQ:(x == ("__debug__":Str))=false:=by decide) (he:starEach (e::es) X.env=(false,eval e X.env)::starEach es X.env:=by rfl) (aK:(backTo pos (starEach es X.env)).any (·.1)=false:=by rfl) :
  PEx X (.Call (.Name x p) (e::es) [] pos) (zQ0 sp aJ t):=by
 intro pins s σ H Q R I h;refine wpAny_Call_Name_kw (zBU I hg hm ?_ cQ);refine W.callWith_K (h₀:=X.base) I.ok.mod.kin hk (wHq (ha pos pins s σ H _ I h) (λus s1 ⟨vs,H1,I1,r,q⟩=>⟨I1.kIn,?_⟩) λv s' z=>(hx v s' z).elim) he aK;exact zOd F hr hb hd I1 r q
end
section
variable {X:Cx} {f:Addr} {x:Str} {p pos:Pos} {e:Expr} {es:List Expr} {ta:TE} {te:TEx} {t:TAx}
def zRa:TAx:=λ_ H Q _=>Q [] H
def zQo (ta:TEx) (tr:TAx):TAx:=λσ H Q R=>ta σ H (λx H1=>tr σ H1 (λxs H2=>Q (x::xs) H2) R) R
def zOp:PAx X [] zRa:=λ_ _ _ _ H Q _ I h=>Calls.spliced_nil ⟨[],H,I,.nil,h⟩
def zI6 (ha:PEx X e te) (hr:PAx X es t) (hs:starEach (e::es) X.env=(false,eval e X.env)::starEach es X.env:=by rfl):PAx X (e::es) (zQo te t):=by intro pos pins s σ H Q R I h;rw[hs];refine Calls.spliced_cons (wHq (ha pins s σ H _ R I h) (λu s1 ⟨x,H1,I1,r1,q1⟩=>?_) λ_ _ z=>z);exact wHq (hr pos pins s1 σ H1 _ R I1 q1) (λus s2 ⟨xs,H2,I2,r2,q2⟩=>⟨x::xs,H2,I2,.cons r1 r2,q2⟩) λ_ _ z=>z
def zR3 (t:TAx):TEx:=λσ H Q R=>t σ H (λxs H1=>xs.length<=sizeLine/\∀p,H1 p=none->Q (.ref p) (upd H1 p (.lst xs))) R
def zOm (h:PAx X es t):PEx X (.List es pos) (zR3 t):=by intro pins s σ H Q R I hq;refine wpAny_List_spliced (wHq (h pos pins s σ H _ R I hq) (λus s1 ⟨xs,H1,I1,r,z,q⟩=>⟨by rw[← r.length];exact z,?_⟩) λ_ _ z=>z);refine⟨.ref s1.heap.objs.size,upd H1 s1.heap.objs.size (.lst xs),I1.laid (t':=s1.toks) (λb u e=>wG3 _ e) (wG5 _) ?_,rfl,q _ (I1.hok.fresh (wG5 _))⟩;exact⟨z,us,0,r,wHb _ rfl⟩
def zR2 (i:Nat) (te:TEx):TSx:=λD R σ H=>te σ H (λv H1=>D.nx (σ.set i (some v)) H1) (λcls dd H1=>R cls dd σ H1)
def zQz {pins:List (Addr × Obj)} {σ:St} {R:XR} {v:Value} {s:Shared} (h:XP X pins (atS σ λcls dd H1=>R cls dd σ H1) v s):XP X pins R v s:=by obtain⟨σ1,H1,s1,I1,e,T,cls,dd,H',a1,a2,a3,a4,a5,a6,a7,a8,a9,pV,rfl,pT⟩:=h;exact⟨_,H1,s1,I1,e,T,cls,dd,H',a1,a2,a3,a4,a5,a6,a7,a8,a9,pV,pT⟩
def zOi {i:Nat} {pos':Pos} (hN:X.N.Nodup) (hi:X.N[i]?=some x) (hx:Loc X.env.scope x) (he:PEx X e te) (hs:swapsWith e (some (.Name x pos')) pos.line X.env=pure false:=by rfl) (hf:X.fn x=true∨X.env.scope.names.lookup x=some .local:=by first | exact .inl rfl | exact .inr rfl | assumption) :
  PSx X (.Assign [.Name x pos'] e pos) (zR2 i te):=by
 intro pins s σ H D R I h;refine wpAny_Assign_Name (wHq (he pins s σ H _ _ I h) (λv s1 ⟨y,H1,I1,r1,q1⟩=>?_) λ_ _ z=>zQz z) hs;exact zCG I1 hN hi hx r1 (λs2 I2=>⟨_,H1,I2,q1⟩) hf
def zMd {st:Stmt} {ts:TSx} (h1:PSx X st ts):zRy X [st] ts:=by
 intro pins s σ H D R I h;refine wpAny_execs_cons (wHq (h1 pins s σ H D R I h) (λf s1 q=>?_) λ_ _ z=>z);cases f with
 | next=>exact wpAny_execs_nil q
 | ret v=>exact q
 | brk=>exact q
 | cont=>exact q
end
def zGl:entryFor table "proto.unchain"=some Builtin.«proto.unchain»:=entryFor_of_tree (by kernel_rfl)
section
variable {prog:Program} {w:World} {A:Around} {E:Value->Shared->Prop} {s:Shared}
def zKm {α:Type} {e a:Addr} {oe oa:Obj} {vs us:Array Value} {Q:α->Shared->Prop} (hh:A.handled=some (.ref e)) (he:s.heap.get? e=some oe) (hd:oe.data=.fields vs) (h2:vs[2]?=some .none)
  (ha:s.heap.get? a=some oa) (da:oa.data=.fields us) (u2:2 < us.size) (aI:e≠a) (k:E (.ref a) { s with heap:=s.heap.update a (Obj.mapFields (·.setIfInBounds 2 (.ref e))) }):wpAny (model prog w) A (raiseNew (.ref a):Sem α) Q E s:=by
 unfold raiseNew;refine wGY (wpAny_handled ?_);rw[hh];have nb:(Value.ref e != Value.ref a)=true:=by rw[bne_iff_ne];intro z;exact aI (Value.ref.inj z)
 simp only[nb,if_true];refine wGY (wHQ (wpAny_runValue (codeAny_builtin zGl ?_)));unfold Builtin.«proto.unchain»;refine wGY (wId he hd h2 ?_);rw[wG1 (by rfl)];refine wGY (wG2 (wG2 ?_));refine wGY ?_;show wpAny _ _ (setField (.ref a) 2 (.ref e)) _ _ _;exact wpAny_setField (a:=a) ha da u2 (wpAny_throw k)
def zFX {e it:Addr} {oe:Obj} {vs:Array Value} {x left step:Int} {Q:Option Value->Shared->Prop} (hh:A.handled=some (.ref e)) (he:s.heap.get? e=some oe) (hd:oe.data=.fields vs) (h2:vs[2]?=some .none)
  (hit:IsRangeIter s.heap it x left step) (hl:left<=0) (hQ:∀h',Heap.ExtBut it s.heap h'->Q none { s with heap:=h' }):wpAny (model prog w) A (pyNext (.ref it)) Q E s:=by
 have ty:s.TypeIs (.ref it) "range_iterator":=⟨_,hit,rfl⟩;unfold pyNext;refine wGY (wpAny_attempt (wpAny_callSpecial?_slot (name:=Str.ofString "__next__") ty F.slot_range_iterator_next (wpAny_call_entry F.slot_range_iterator_next ty F.entry_range_iterator_next ?_ (F.args_range_iterator_next_1 _))));refine wGY (m:=field (.ref it) 0) (wId hit rfl (x:=rawInt x) rfl ?_);refine wGY (m:=field (.ref it) 1) (wId hit rfl (x:=rawInt left) rfl ?_);refine wGY (m:=field (.ref it) 2) (wId hit rfl (x:=rawInt step) rfl ?_);show wpAny _ _ (if left<=0 then _ else _) _ _ s;rw[wG1 hl];refine wGY (wpAny_rule (wGY ?_));refine wGY (m:=newExc (.type "StopIteration") []) ?_;simp only[newExc,newTuple];refine wGY (wHL ?_ (by size_fits));refine wGY (m:=firstArgMember _ _) (wpAny_of_eq (a:=Value.none) (by first | rfl | (simp only[firstArgMember];rfl)) ?_);refine wHL ?_ (by size_fits);have lt:=wHa he;refine zKm (s:={ s with heap:=_ }) hh (wG3 _ (wG3 _ he)) hd h2 (wHb _ rfl) rfl (by rw[Array.size_append];exact wHi (show 2 < 6 by decide) (Nat.le_add_right _ _)) (wHg (wHi lt (by rw[wHT];exact Nat.le_succ _))) ?_;refine wGY (wpAny_isInstance (T:="StopIteration") (b:=true) ⟨_,wHS _ (wHb _ rfl) rfl,rfl⟩ isSubtype_stop ?_);refine wG2 (hQ _ λb o hb q=>?_);have lb:=wHa q;rw[wHu _ _ (Ne.symm (wHg (wHi lb (by rw[wHT];exact Nat.le_succ _))))];exact wG3 _ (wG3 _ q)
end
structure TurnH (P:Program) (w:World) (K:W.Frag) (e:Addr) (tg:Expr) (J:It) (fp:List Addr) (it:Addr) (tn:Nat->Heap->Prop):Prop where
 mem:it∈fp
 obj:∀i h,tn i h->∀b∈fp,∃o,h.get? b=some o/\∀v,o.data≠.cell v
 keep:∀i h h',tn i h->(∀b∈fp,∀o,h.get? b=some o->h'.get? b=some o)->tn i h'
 item:∀(X:Cx),X.prog=P->X.w=w->X.K=K->X.A.handled=some (.ref e)->∀(i:Nat) (pins:List (Addr × Obj)) (s:Shared) (σ:St) (H:Hp) (E:Value->Shared->Prop),Inv X pins σ H s->(∀b∈fp,zEh X pins H b)->tn i s.heap->J.go i H->
  wpAny (model P w) X.A (pyNext (.ref it)) (λr s1=>∃u,r=some u/\
   wpAny (model P w) X.A (letOwnedTupleGo tg (.ref it) u) (λ_ s2=>∃x H',Inv X pins σ H' s2/\zBl x u/\J.yld i H x H'/\tn (i+1) s2.heap/\∀b∈fp,H' b=none) E s1) E s
 done:∀(X:Cx),X.prog=P->X.w=w->X.K=K->X.A.handled=some (.ref e)->∀(i:Nat) (pins:List (Addr × Obj)) (s:Shared) (σ:St) (H:Hp) (E:Value->Shared->Prop),Inv X pins σ H s->(∀b∈fp,zEh X pins H b)->tn i s.heap->J.stop i H->
  wpAny (model P w) X.A (pyNext (.ref it)) (λr s1=>r=none/\Inv X pins σ H s1) E s
 self:∀(A:Around) (i:Nat) (s:Shared) (Q:Value->Shared->Prop) (E:Value->Shared->Prop),tn i s.heap->Q (.ref it) s->wpAny (model P w) A (pyIter (.ref it)) Q E s
def zQy (e:Addr) (lo:Int) (n:Nat):It:=⟨λi _=>i < n,λi H x H'=>H'=H/\x=.int (lo+i),λi H=>n<=i/\∃cls dd,H e=some (zFG e cls dd)⟩
def zH7 {P:Program} {w:World} {K:W.Frag} {tg:Expr} {e:Addr} (it:Addr) (lo:Int) (n:Nat):TurnH P w K e tg (zQy e lo n) [it] it (λi h=>IsRangeIter h it (lo+(i:Nat)*1) ((n:Int)-(i:Nat)) 1) where
 mem:=by simp
 obj:=λi h st b hb=>by
  have e:b=it:=by simpa using hb
  subst e;exact⟨_,st,λv z=>by have z':Data.fields _=Data.cell v:=z;cases z'⟩
 keep:=λi h h' st k=>k it (by simp) _ st
 item:=by
  intro X hP hw hK hc i pins s σ H E I hf st hg;subst hP hw hK;obtain⟨f0,f1,f2,f3,f4,f5⟩:=hf it (by simp);have hg':i < n:=hg;refine wpAny_pyNext_range_item st ∅ λh' aT sb=>?_;have I1:Inv X pins σ H { s with heap:=h',toks:=s.toks+1 }:=I.turned (λb o hb e=>(sb.2 b hb).trans e) f0 f1 f3 f4 f5;have dA:IsRangeIter h' it (lo+((i+1:Nat):Int)*1) ((n:Int)-((i+1:Nat):Int)) 1:=by
   have e1:lo+((i+1:Nat):Int)*1=lo+(i:Int)*1+1:=by omega
   have e2:(n:Int)-((i+1:Nat):Int)=(n:Int)-(i:Int)-1:=by omega
   rw[e1,e2];exact aT
  refine⟨_,rfl,zJp (s:={ s with heap:=h',toks:=s.toks+1 }) (n:="range_iterator") aT rfl rfl ⋯ ⟨.int (lo+i),H,I1,⟨s.toks,?_⟩,⟨rfl,rfl⟩,dA,λb hb=>(hf b hb).1⟩⟩;rw[Int.mul_one]
 done:=by intro X hP hw hK hc i pins s σ H E I hf st hg;subst hP hw hK;obtain⟨f0,f1,f2,f3,f4,f5⟩:=hf it (by simp);obtain⟨hn,cls,dd,ex⟩:=hg;obtain⟨oe,vs,g1,_,_,g2,g3⟩:=zFG.get I.hok ex;exact zFX hc g1 g2 g3 st ∅ λh' eb=>⟨rfl,I.turned (t':=s.toks) (λb o hb e=>eb b o hb e) f0 f1 f3 f4 f5⟩
 self:=λ_ _ _ _ _ st h=>wpAny_pyIter_rangeiter st h
def zRz (X:Cx) (e:Addr) (pins:List (Addr × Obj)) (σ:St) (tg:Expr) (R:It->Hp->Prop) (iA:Value) (s2:Shared):Prop:=
 ∃(it:Addr) (fp:List Addr) (tn:Nat->Heap->Prop) (J:It) (H':Hp),iA=.ref it/\Inv X pins σ H' s2/\TurnH X.prog X.w X.K e tg J fp it tn/\tn 0 s2.heap/\(∀b∈fp,zEh X pins H' b)/\R J H'
def PIH (X:Cx) (e:Addr) (tg iter:Expr) (wi:TI):Prop:=
 ∀(pins:List (Addr × Obj)) (s:Shared) (σ:St) (H:Hp) (R:It->Hp->Prop),Inv X pins σ H s->wi σ H R->
  wpAny (model X.prog X.w) X.A (eval iter X.env) (λv s1=>wpAny (model X.prog X.w) X.A (pyIter v) (zRz X e pins σ tg R) X.xe s1) X.xe s
def zQS (e:Addr) (ta:TA):TI:=λσ H R=>ta σ H λvs H1=>∃j:Int,vs=[.int j]/\-(2 ^ 62)<=j/\j < 2 ^ 62/\R (zQy e 0 j.toNat) H1
def zKl {X:Cx} {e:Addr} {tg:Expr} {pins:List (Addr × Obj)} {σ:St} {H:Hp} {s:Shared} {R:It->Hp->Prop} {E:Value->Shared->Prop} {hi:Int} {t u v:Tok} {tk:Nat} (I:Inv X pins σ H s) (h3:-(2 ^ 62)<=hi) (h4:hi < 2 ^ 62)
  (q:R (zQy e 0 hi.toNat) H):wpAny (model X.prog X.w) X.A (pyIter (.ref s.heap.objs.size)) (zRz X e pins σ tg R) E { s with heap:=s.heap.push { cls:=.type "range",data:=.fields #[.int 0 t,.int hi u,.int 1 v] },toks:=tk }:=by
 generalize ho:({ cls:=.type "range",data:=.fields #[.int 0 t,.int hi u,.int 1 v] }:Obj)=ob;refine wpAny_pyIter_range (by rw[← ho];exact IsRange.new ..) (small_one ⋯ ⋯ h3 h4) ?_;have I1:Inv X pins σ H { s with heap:=s.heap.push ob,toks:=tk }:=I.kept λb o e=>wG3 _ e;refine⟨(s.heap.push ob).objs.size,[(s.heap.push ob).objs.size],_,_,H,rfl,I1.kept (t':=tk) λb o e=>wG3 _ e,zH7 _ 0 hi.toNat,?_,λb hb=>?_,q⟩
 ·have e1:(0:Int)+((0:Nat):Int)*1=0:=by simp
  have e2:((hi.toNat:Nat):Int)-((0:Nat):Int)=Builtin.Range.rangeSize 0 hi 1:=by rw[rangeSize_one];split<;>omega
  show IsRangeIter _ _ (0+((0:Nat):Int)*1) (((hi.toNat:Nat):Int)-((0:Nat):Int)) 1;rw[e1,e2];exact wHb _ rfl
 have e:b=(s.heap.push ob).objs.size:=by simpa using hb
 rw[e];exact I1.fpOk (wG5 _) (I1.hok.fresh (wG5 _))
def zKu {X:Cx} {e:Addr} {tg:Expr} {a:Expr} {ta:TA} {p pos:Pos} (hg:Gl X "range") (hm:X.mg "range"=none) (ha:PA X [a] ta) (hs:starEach [a] X.env=[(false,eval a X.env)]:=by rfl):PIH X e tg (.Call (.Name "range" p) [a] [] pos) (zQS e ta):=by
 intro pins s σ H R I h;refine Call_ (zER I hg hm boot_range (PyProof.Rows.callWith_type1 (thn (ha pos pins s σ H _ I h) λus s1 ⟨vs,H1,I1,r1,q1⟩=>?_) hs rfl));obtain⟨j,e1,q1,q2,q⟩:=q1;subst e1;cases r1 with
 | cons r rr=>
  cases rr;obtain⟨t,rfl⟩:=r;exact call_range_1 (zKl I1 q1 q2 q)
section
variable {X:Cx} {scope:Scope} {N':List Str} {mp:List (Option Nat)} {C:Addr} {s3:Shared} {H3:Hp} {fp:List Addr} {pins:List (Addr × Obj)} {σ:St}
def zJt {use:Option (Value->Sem Unit)} {Qo:Value->Shared->Prop} {elt tg iter:Expr} {ifs:List Expr} {pos p0:Pos} {wi:TI} {g:TG} {tt:TT} {te:TE} {H:Hp} {s:Shared} {fin:Addr->Hp->Prop} (B:BlkOk X scope N' mp) {hx:Addr} (hc:X.A.handled=some (.ref hx)) (hi:PIH X hx tg iter wi)
  (hg:∀C s3 H3 fp pins,PG (X.blk scope N' C s3 H3 fp pins) tg g) (eR:∀C s3 H3 fp pins,PIf (X.blk scope N' C s3 H3 fp pins) ifs tt) (he:∀C s3 H3 fp pins,PE (X.blk scope N' C s3 H3 fp pins) elt te)
  (hs:∀x,foldedSetIterable iter X.env x=pure x) (I:Inv X pins σ H s) (h:zIw mp wi g tt te σ H fin)
  (gG:∀(l C:Addr) (H':Hp) (s':Shared) (m:Str->Option Value),s'.heap.Ns C m->Inv X pins σ H' s'->zEh X pins H' C->fin l H'->compPost (model X.prog X.w) X.A X.xe use Qo (.ref l) C (.ok .next) s') :
  wpAny (model X.prog X.w) X.A (comprehension (.ListComp elt [⟨tg,iter,ifs,0⟩] scope pos) scope X.env p0 (newList []) false (eval iter X.env) use) Qo X.xe s:=by
 refine wpAny_comprehension_free (use:=use) rfl hs (zEY (B.cells I.ok)) B.kind B.names (thn (hi pins s σ H _ I h) λv s1 h1=>thn h1 λiA s2 h2=>?_);obtain⟨it,fp,tn,J,H2,e,I2,T,dA,f2,hl⟩:=h2;subst e;obtain⟨W,⟨m0,w0⟩,turn⟩:=hl _ I2.fresh;refine wHL ?_;have I3:=I2.lnew (its:=[]) (t':=s2.toks) .nil (wHK _);obtain⟨s3,gC⟩:∃s3:Shared,s3={ s2 with heap:=s2.heap.push { cls:=.type "list",data:=.seq ([]:List Value).toArray } }:=⟨_,rfl⟩;have I3:Inv X pins σ (upd H2 s2.heap.objs.size (.lst [])) s3:=by rw[gC];exact I3
 have jt:∀b o,s2.heap.get? b=some o->s3.heap.get? b=some o:=λb o q=>by rw[gC];exact wG3 _ q
 have aD:∀b∈fp,b < s2.heap.objs.size:=λb hb=>by obtain⟨o,q,_⟩:=T.obj _ _ dA b hb;exact wHa q
 have dM:∀b∈fp,b < s3.heap.objs.size:=λb hb=>by obtain⟨o,q,_⟩:=T.obj _ _ dA b hb;exact wHa (jt _ _ q)
 have f3:∀b∈fp,zEh X pins (upd H2 s2.heap.objs.size (.lst [])) b:=λb hb=>by have f:=f2 b hb;exact⟨by rw[zO (wHg (aD b hb))];exact f.1,f.2⟩
 show wpAny _ _ (newFunctionEnv scope X.env.globals (zAL X.env scope.names []) [] X.env.qual none .none (some X.env)) _ _ { s2 with heap:=s2.heap.push { cls:=.type "list",data:=.seq ([]:List Value).toArray } };rw[← gC];refine wpAny_newFunctionEnv B.nocell (λy hy=>by simp at hy) (λh4 oh mV=>?_) B.kind;have jr:∀b o,s3.heap.get? b=some o->h4.get? b=some o:=λb o q=>mV.extBut b o (wHg (wHa q)) (wG3 _ q);have I4:=B.inv I3 rfl f3 dM (t':=s3.toks+([]:List (Str × Value)).length) jr oh;have iX:tn 0 h4:=T.keep _ _ _ dA λb _ o q=>jr b o (jt b o q);have gQ:∀{H':Hp},(∀b∈fp,H' b=none)->∀b∈fp,zEh (X.blk scope N' s3.heap.objs.size s3 (upd H2 s2.heap.objs.size (.lst [])) fp pins) [] H' b:=λhn b hb=>zEh.blk I3 (wG5 _) (f3 b hb) hb (dM b hb) (hn b hb);have loop:codeAny (model X.prog X.w) X.A (.compLoop (.ListComp elt [⟨tg,iter,ifs,0⟩] scope pos) 0 (.ref it) (.ref s2.heap.objs.size) (compEnvC scope (zAL X.env scope.names []) s3.heap.objs.size X.env))
   (compPost (model X.prog X.w) X.A X.xe use Qo (.ref s2.heap.objs.size) s3.heap.objs.size) { s3 with heap:=h4,toks:=s3.toks+([]:List (Str × Value)).length }:=by
  refine codeAny_loop rfl (λn s'=>∃i σ' H',Inv (X.blk scope N' s3.heap.objs.size s3 (upd H2 s2.heap.objs.size (.lst [])) fp pins) [] σ' H' s'/\tn i s'.heap/\(∀b∈fp,H' b=none)/\W i n σ' H') (λn s' hI=>?_) m0 ⟨0,_,_,I4,iX,λb hb=>(f3 b hb).1,w0⟩;obtain⟨i,σ',H',I',aT,jS,w'⟩:=hI;refine wpAny_noted ?_;rw[compTurn_list];refine wGY (wpAny_standAt (wGY ?_));rcases turn i n σ' H' w' with ⟨stop,qn⟩ | ⟨go,N,hN,step⟩
  ·refine thn (T.done (X.blk scope N' s3.heap.objs.size s3 (upd H2 s2.heap.objs.size (.lst [])) fp pins) rfl rfl rfl hc i [] s' σ' H' _ I' (gQ jS) aT stop) λr s5 aA=>?_;obtain⟨hr,I5⟩:=aA;subst hr;obtain⟨m5,n5,_⟩:=I5.loc;refine wG2 (gG _ _ H' s5 m5 n5 (I3.call' (ch:=fp) I5.os I5.base I5.hok I5.bare λb hb=>?_) (I3.fpOk (wG5 _) I5.free) qn);obtain⟨_,g1,_,g3,g4,g5⟩:=f3 b hb;exact⟨g3,g1,g4,g5⟩
  refine thn (T.item (X.blk scope N' s3.heap.objs.size s3 (upd H2 s2.heap.objs.size (.lst [])) fp pins) rfl rfl rfl hc i [] s' σ' H' _ I' (gQ jS) aT go) λr s5 aA=>?_;obtain⟨u,hr,h5⟩:=aA;subst hr;refine wGY (thn h5 λ_ s6 aA=>?_);obtain⟨x,H6,I6,r6,y6,fT,oU⟩:=aA;have qi:=I6.pinned (gQ oU) (T.obj _ _ fT);have keep:∀{σ7:St} {H7:Hp} {s7:Shared},Inv (X.blk scope N' s3.heap.objs.size s3 (upd H2 s2.heap.objs.size (.lst [])) fp pins) ([]++zF0 fp s6.heap) σ7 H7 s7->N σ7 H7->
    ∃m,m < n/\∃i σ' H',Inv (X.blk scope N' s3.heap.objs.size s3 (upd H2 s2.heap.objs.size (.lst [])) fp pins) [] σ' H' s7/\tn i s7.heap/\(∀b∈fp,H' b=none)/\W i m σ' H':=λ{σ7 H7 s7} I7 n7=>by
   obtain⟨m',hm,w7⟩:=hN σ7 H7 n7;have pin:=λ(b:Addr) (hb:b∈fp) (o:Obj) (q:s6.heap.get? b=some o)=>I7.pin (b,o) (wHp _ (wHp _ (zCH hb q)));refine⟨m',hm,i+1,σ7,H7,I7.unpinned,T.keep _ _ _ fT λb hb o q=>(pin b hb o q).1,λb hb=>?_,w7⟩;obtain⟨o,q,_⟩:=T.obj _ _ fT b hb;exact (pin b hb o q).2.1
  refine wGY (wHq (hg _ _ _ _ _ _ s6 σ' H6 x u _ qi r6 (step x H6 y6)) (λ_ s7 ⟨σ7,H7,I7,q7⟩=>?_) λ_ _ z=>z.elim);refine wGY (wHq (eR _ _ _ _ _ _ s7 σ7 H7 _ I7 q7) (λok s8 ⟨H8,I8,q8⟩=>?_) λ_ _ z=>z.elim);cases ok with
  | false=>exact wG2 ⟨rfl,keep I8 q8⟩
  | true=>
   refine wGY (wGY (wHq (he _ _ _ _ _ _ s8 σ7 H8 _ I8 q8) (λy s9 ⟨v9,H9,I9,r9,xs,e9,z9,q9⟩=>?_) λ_ _ z=>z.elim));refine wGY (wHq (zAx (X:=(X.blk scope N' s3.heap.objs.size s3 (upd H2 s2.heap.objs.size (.lst [])) fp pins)) _ s9 σ7 H9 (.ref s2.heap.objs.size) [v9] (.ref s2.heap.objs.size) [y] (λ_ H'=>N σ7 H') I9 rfl (.cons r9 .nil) ⟨_,xs,v9,rfl,rfl,e9,z9,q9⟩) (λ_ cI ⟨_,fj,I10,_,q10⟩=>?_) λ_ _ z=>z.elim);exact wG2 (wG2 ⟨rfl,keep I10 q10⟩)
 exact codeAny_compStart_list loop (T.self _ 0 _ _ _ iX loop)
def zMe {x:Str} {elt tg iter:Expr} {ifs:List Expr} {pos px dB:Pos} {wi:TI} {g g2:TG} {tt:TT} {te:TE} (N':List Str) (mp:List (Option Nat)) (hk:zHu X.env.scope X.N scope N' mp=true) {hx:Addr} (hc:X.A.handled=some (.ref hx)) (hi:PIH X hx tg iter wi)
  (hg:∀C s3 H3 fp pins,PG (X.blk scope N' C s3 H3 fp pins) tg g) (eR:∀C s3 H3 fp pins,PIf (X.blk scope N' C s3 H3 fp pins) ifs tt) (he:∀C s3 H3 fp pins,PE (X.blk scope N' C s3 H3 fp pins) elt te)
  (h2:PG X (.Name x px) g2) (nO:swapsWith (.ListComp elt [⟨tg,iter,ifs,0⟩] scope pos) (some (.Name x px)) dB.line X.env=pure true:=by rfl)
  (hs:∀x,foldedSetIterable iter X.env x=pure x:=by intro _;rfl):PS X (.Assign [.Name x px] (.ListComp elt [⟨tg,iter,ifs,0⟩] scope pos) dB) (zP0 mp wi g tt te g2):=by
 intro pins s σ H D I h;rw[exec_Assign_Name_used _ _ _ _ nO];refine wGY (wpAny_standAt (wGY ?_));show wpAny _ _ (comprehension (.ListComp elt [⟨tg,iter,ifs,0⟩] scope pos) scope X.env (firstIterPos [⟨tg,iter,ifs,0⟩] pos) (newList []) false (eval iter X.env) (some (assign (.Name x px) X.env)) >>= λ_=>pure PUnit.unit) _ _ s;refine wGY (thn (zJt (use:=some (assign (.Name x px) X.env)) (Qo:=λ_ s'=>SP X pins D .next s') (BlkOk.of hk) hc hi hg eR he hs I h λl C H' s' m hn I' f q=>?_) λ_ s' q=>wG2 (wG2 q));show wpAny _ _ (assign (.Name x px) X.env (.ref l)) _ _ s';obtain⟨o,es,ep,ho,hr⟩:=id hn;obtain⟨f0,f1,f2,f3,f4,f5⟩:=f;have I2:Inv X (pins++[(C,o)]) σ H' s':=I'.pins_of λp hp=>by
  rcases wIm hp with z | z
  ·exact I'.pin p (wHp _ z)
  have e:p=(C,o):=by simpa using z
  subst e;exact⟨ho,f0,f1,f2,λv z=>by rw[hr.1] at z;cases z⟩
 refine thn (h2 _ s' σ H' (.ref l) (.ref l) _ I2 rfl q) λ_ s7 aA=>?_;obtain⟨σ7,H7,I7,q7⟩:=aA;have p7:=I7.pin (C,o) (wHp _ (wHp _ (by simp)));refine⟨m,⟨o,es,ep,p7.1,hr⟩,λh' sb=>⟨σ7,H7,?_,q7⟩⟩;exact I7.unpinned.turned (t':=s7.toks) (λb o hb e=>sb.extBut b o hb e) p7.2.1 f1 f3 f4 f5
end
def zIo {e l:Addr} {lo:Int} {n:Nat} {g:TG} {tt:TT} {te:TE} {fin:Hp->Prop} {σ0:St} {H0:Hp} (Pv:Nat->St->Hp->Prop) (h0:Pv 0 σ0 H0) (hx:∀σ H,Pv n σ H->∃cls dd,H e=some (zFG e cls dd))
  (hs:∀i σ H,i < n->Pv i σ H->g (.int (lo+i)) σ H λσ2 H2=>tt σ2 H2 λb H3=>if b=true then te σ2 H3 λv H4=>∃xs,H4 l=some (.lst xs)/\xs.length < sizeLine/\Pv (i+1) σ2 (upd H4 l (.lst (xs++[v]))) else Pv (i+1) σ2 H3)
  (hd:∀σ H,Pv n σ H->fin H):zDP l (zQy e lo n) g tt te fin σ0 H0:=by
 refine⟨λi m σ H=>m=n-i/\i<=n/\Pv i σ H,⟨n,by simp,wHK _,h0⟩,?_⟩;rintro i m σ H ⟨rfl,hi,p⟩;by_cases aD:i < n
 ·refine .inr ⟨aD,Pv (i+1),λσ' H' p'=>⟨n-(i+1),by omega,rfl,aD,p'⟩,λx H' y=>?_⟩;obtain⟨e,y⟩:=y;subst e y;exact hs i σ _ aD p
 have e:i=n:=by omega
 subst e;exact .inl ⟨⟨wG5 _,hx σ H p⟩,hd σ H p⟩
section
variable {P:Program} {w:World} {K:W.Frag} {mg:Str->Option Value} {base:Heap}
def Fun.okX {x qual:Str} {st:Stmt} {f:Addr} {fd:FuncData} {N ps:List Str} {k:Nat} {sp:Sp} (F:Fun K x qual st f fd) (S:FnScope N ps (zM st)) (len:∀vs H Q E,sp vs H Q E->vs.length=ps.length)
  (aW:∀(cdv:Value) (A:Around) (outer:List Env) (s:Shared) (H:Hp) (vs:List V) (Q:VK) (E:XK),Room k (A.deeper (envOfC qual (zM st) s.heap.objs.size f cdv))->sp vs H Q E->
   ∃t,PSs (zDZ (CXx P w) P w K mg base N qual (zM st) f cdv A outer s H E) (zBf st) t/\t { nx:=λ_ H'=>Q .non H',rt:=Q } (zD5 N vs) H):FnOk P w K mg base (CXx P w) (k+1) f fd ps sp:=by
 obtain⟨oc,od,kV,doc,pm,an,cdv,ct,dX,rfl,lk,aQ⟩:=F.ex;exact zQh lk aQ S len λA outer s H vs Q E hr cM=>aW cdv A outer s H vs Q E hr cM
def zRw (A:Around):Around:={ A with handled:=none }
structure RoomH (k:Nat) (e:Addr) (A:Around):Prop where
 hd:A.handled=some (.ref e)
 rm:Room k (zRw A)
def RoomH.mono {j k:Nat} {e:Addr} {A:Around} (r:RoomH k e A) (h:j<=k):RoomH j e A:=⟨r.hd,r.rm.mono h⟩
def RoomH.of {k:Nat} {e:Addr} {A:Around} (r:Room k A):RoomH k e (A.mark (some (.ref e))):=⟨rfl,⟨rfl,r.dp,r.un⟩⟩
structure FnOkH (P:Program) (w:World) (K:W.Frag) (mg:Str->Option Value) (base:Heap) (k:Nat) (f:Addr) (fd:FuncData) (ps:List Str) (sp:Addr->Sp):Prop where
 len:∀e vs H Q E,sp e vs H Q E->vs.length=ps.length
 run:∀(e:Addr) (A:Around) (outer:List Env) (s:Shared) (H:Hp) (args:Args) (us:List Value) (vs:List V) (Q:VK) (E:XK),RoomH k e A->Env0 P w K mg base A outer s H->BindsTo s fd args (ps.zip us)->zA7 vs us->sp e vs H Q E->
  codeAny (model P w) A (.call (.ref f) args) (CR CX0 outer P w H s Q E) s
def FnOkH.mono {j k:Nat} {f:Addr} {fd:FuncData} {ps:List Str} {sp:Addr->Sp} (F:FnOkH P w K mg base j f fd ps sp) (h:j<=k):FnOkH P w K mg base k f fd ps sp:=⟨F.len,λe A outer s H args us vs Q E hr=>F.run e A outer s H args us vs Q E (hr.mono h)⟩
def cxH (P:Program) (w:World) (K:W.Frag) (mg:Str->Option Value) (base:Heap) (N:List Str) (qual:Str) (scope:Scope) (f:Addr) (cd:Value) (A:Around) (outer:List Env) (s:Shared) (H:Hp) (E:XK):Cx:=
 { zDZ CX0 P w K mg base N qual scope f cd A outer s H E with calm:=false,xe:=λ_ _=>False }
def Fun.okH {x qual:Str} {st:Stmt} {f:Addr} {fd:FuncData} {N ps:List Str} {k:Nat} {sp:Addr->Sp} (F:Fun K x qual st f fd) (S:FnScope N ps (zM st)) (len:∀e vs H Q E,sp e vs H Q E->vs.length=ps.length)
  (aW:∀(cdv:Value) (e:Addr) (A:Around) (outer:List Env) (s:Shared) (H:Hp) (vs:List V) (Q:VK) (E:XK),RoomH k e (A.deeper (envOfC qual (zM st) s.heap.objs.size f cdv))->sp e vs H Q E->
   ∃t,PSs (cxH P w K mg base N qual (zM st) f cdv A outer s H E) (zBf st) t/\t { nx:=λ_ H'=>Q .non H',rt:=Q } (zD5 N vs) H):FnOkH P w K mg base (k+1) f fd ps sp:=by
 obtain⟨oc,od,kV,doc,pm,an,cdv,ct,dX,rfl,lk,aQ⟩:=F.ex;refine⟨len,λe A outer s H args us vs Q E hr e0 hb r cM=>?_⟩;have hl:=len _ _ _ _ _ cM;have kx:K.In s.heap:=e0.mod.kin.keeps λb o q=>(e0.bs b o q).1;have lim:s.heap.NoLimit:=e0.mod.nolimit.keeps λb o q=>(e0.bs b o q).1;refine codeAny_call_function (show A.depth < recursionLimit from hr.rm.depth) (kx _ _ lk) rfl S.co S.gen rfl (W.codeRec_of kx aQ) (hb _ _ _ _ ?_);refine wpAny_newFunctionEnv_cells S.kind (λy hy=>?_) λenv he s1 x=>?_
 ·rcases S.par y.1 (List.of_mem_zip (a:=y.1) (b:=y.2) hy).1 with q | q
  ·exact .inl q
  exact .inr ⟨q,W.cellsFrom_some _ _ _ (.inl q)⟩
 subst he;refine⟨lim.keeps x.toInCall.keep,codeAny_func ?_⟩;obtain⟨t,ht,hq⟩:=aW cdv e A outer s H vs Q E ⟨hr.hd,⟨rfl,(hr.rm.deeper (envOfC qual (zM st) s.heap.objs.size f cdv)).dp,(hr.rm.deeper (envOfC qual (zM st) s.heap.objs.size f cdv)).un⟩⟩ cM;have I0:Inv (zDZ CX0 P w K mg base N qual (zM st) f cdv (zRw A) outer s H E) [] (zD5 N vs) H s1:=zHf S rfl ⟨e0.frames,e0.mod,e0.bs,e0.bsz,e0.funs,e0.frf,e0.hok,e0.bare⟩ hl r x;have I:Inv (cxH P w K mg base N qual (zM st) f cdv A outer s H E) [] (zD5 N vs) H s1:=
  ⟨⟨I0.ok.mod,I0.ok.kind,I0.ok.glob,I0.ok.blt,I0.ok.above,I0.ok.inj,I0.ok.has,I0.ok.cab,λz=>(nomatch (show false=true from z)),I0.ok.frames,I0.ok.stk,I0.ok.exf,I0.ok.bs,I0.ok.bsz,I0.ok.noex,I0.ok.exfs,I0.ok.funs,I0.ok.frf⟩,I0.os,I0.bare,I0.base,I0.loc,I0.cell,I0.free,I0.freeC,I0.pin,I0.hok,I0.len⟩
 refine wHq (ht [] s1 (zD5 N vs) H _ I hq) (λfl s' hs=>?_) λ_ _ z=>z.elim;cases fl with
 | ret u=>
  obtain⟨v,σ',H',J,rv,q⟩:=hs;exact⟨v,H',J.os,J.bare,J.base,J.hok,rv,q⟩
 | next=>
  obtain⟨σ',H',J,q⟩:=hs;exact⟨V.non,H',J.os,J.bare,J.base,J.hok,rfl,q⟩
 | brk=>
  obtain⟨_,_,_,q⟩:=hs;exact wHI q
 | cont=>
  obtain⟨_,_,_,q⟩:=hs;exact wHI q
end
section
variable {X:Cx} {k:Nat} {f:Addr} {fd:FuncData} {ps:List Str} {x:Str} {p pos:Pos} {a:Expr} {es:List Expr} {t:TA}
def zPn (e:Addr) (sp:Addr->Sp) (t:TA):TE:=λσ H Q=>t σ H λvs H1=>sp e vs H1 Q E0
def zI4 {sp:Addr->Sp} {e:Addr} (F:FnOkH X.prog X.w X.K X.mg X.base k f fd ps sp) (hr:RoomH k e X.A) (hg:Gl X x) (hm:X.mg x=some (.ref f)) (hk:W.keepIn X.K (.ref f)=true) (hb:zAg X.K fd ps [])
  (ha:PA X (a::es) t) (cQ:(x == ("__debug__":Str))=false:=by decide) (he:starEach (a::es) X.env=(false,eval a X.env)::starEach es X.env:=by rfl) (aK:(backTo pos (starEach es X.env)).any (·.1)=false:=by rfl) :
  PE X (.Call (.Name x p) (a::es) [] pos) (zPn e sp t):=by
 intro pins s σ H Q I h;refine wpAny_Call_Name_kw (zBU I hg hm ?_ cQ);refine W.callWith_K (h₀:=X.base) I.ok.mod.kin hk (thn (ha pos pins s σ H _ I h) λus s1 ⟨vs,H1,I1,r,q⟩=>⟨I1.kIn,?_⟩) he aK;have hl:us.length=ps.length:=by rw[← r.length];exact F.len _ _ _ _ _ q
 refine wpAny_call (codeAny_mono (F.run e X.A X.stack s1 H1 ⟨us,[]⟩ us vs Q E0 hr I1.env0 (by have:=hb s1 us I1.kIn (by rw[wHx];exact hl);rwa [wHx] at this) r q) λr s' hq=>?_);cases r with
 | error ev=>exact wHI hq
 | ok fl=>
  cases fl with
  | ret u=>exact I1.after hq
  | next=>exact wHI hq
  | brk=>exact wHI hq
  | cont=>exact wHI hq
end
def zLj {K:W.Frag} {C:Addr} {od:Option Obj} {name:Str} {a g:Value} (hc:(W.clsIn K C).isSome=true) (ha:W.findIn K (.ref C) name=some (some a)) (hg:W.specialIn K a "__get__"=some (some g)) (ht:W.takesIn K a=some true) :
  W.findObj K C od name=some (.bind g a):=by
 cases q:W.clsIn K C with
 | none=>rw[q] at hc;cases hc
 | some cd=>simp[W.findObj,q,ha,hg,ht]
def vcl:V->Value
 | .ref D=>.ref D
 | .ty n=>.type n
 | _=>.none
def Its (x:Str):It:=⟨λi _=>i < x.length,λi H v H'=>H'=H/\∃c,x.cps.toList[i]?=some c/\v=.str (tx [c]),λi _=>x.length<=i⟩
def zLr {x:Str} {i c:Nat} (h:x.cps.toList[i]?=some c):x.cps[i]?=some c:=by simpa using h
def zJD {P:Program} {w:World} {K:W.Frag} {tg:Expr} (it:Addr) (x:Str) (t:Tok):Turn P w K tg (Its x) [it] it (λi h=>h.IsStrIter it "str_ascii_iterator" x t i) where
 mem:=by simp
 obj:=λi h st b hb=>by obtain⟨o,e,c,d⟩:=st;rw[show b=it from by simpa using hb];exact⟨o,e,λv z=>by rw[d] at z;cases z⟩
 keep:=λi h h' ⟨o,e,r⟩ k=>⟨o,k it (by simp) o e,r⟩
 item:=by
  intro X hP hw hK hc i pins s σ H E I hf st hg;subst hP hw hK;obtain⟨f0,f1,f2,f3,f4,f5⟩:=hf it (by simp);have hi:i < x.cps.toList.length:=by rw[← zB0];exact hg
  have hx:x.cps.toList[i]?=some x.cps.toList[i]:=wG0 hi;refine wpAny_pyNext_ascii_item st (zLr hx) λh' aT sb=>?_;have I1:Inv X pins σ H { s with heap:=h',toks:=s.toks+1 }:=I.turned (λb o hb e=>(sb.2 b hb).trans e) f0 f1 f3 f4 f5;obtain⟨o,e,c,d⟩:=id aT;exact⟨_,rfl,zJp (s:={ s with heap:=h',toks:=s.toks+1 }) e c d ⋯ ⟨.str (tx [x.cps.toList[i]]),H,I1,⟨_,rfl⟩,⟨rfl,_,hx,rfl⟩,aT,λb hb=>(hf b hb).1⟩⟩
 done:=by
  intro X hP hw hK hc i pins s σ H E I hf st hg;subst hP hw hK;obtain⟨f0,f1,f2,f3,f4,f5⟩:=hf it (by simp);have hn:x.cps[i]?=none:=by rw[← wH8];exact wH0 (by rw[← zB0];exact hg)
  exact wpAny_pyNext_ascii_end (I.ok.hd hc) st hn λh' eb=>⟨rfl,I.turned (t':=s.toks) (λb o hb e=>eb b o hb e) f0 f1 f3 f4 f5⟩
 self:=λ_ _ _ _ _ st h=>wpAny_pyIter_striter_ascii st h
def zJC {P:Program} {w:World} {K:W.Frag} {tg:Expr} (it:Addr) (x:Str) (t:Tok):Turn P w K tg (Its x) [it] it (λi h=>h.IsStrIter it "str_iterator" x t i) where
 mem:=by simp
 obj:=λi h st b hb=>by obtain⟨o,e,c,d⟩:=st;rw[show b=it from by simpa using hb];exact⟨o,e,λv z=>by rw[d] at z;cases z⟩
 keep:=λi h h' ⟨o,e,r⟩ k=>⟨o,k it (by simp) o e,r⟩
 item:=by
  intro X hP hw hK hc i pins s σ H E I hf st hg;subst hP hw hK;obtain⟨f0,f1,f2,f3,f4,f5⟩:=hf it (by simp);have hi:i < x.cps.toList.length:=by rw[← zB0];exact hg
  have hx:x.cps.toList[i]?=some x.cps.toList[i]:=wG0 hi;refine wpAny_pyNext_wide_item st (zLr hx) λh' aT sb=>?_;have I1:Inv X pins σ H { s with heap:=h',toks:=s.toks+1 }:=I.turned (λb o hb e=>(sb.2 b hb).trans e) f0 f1 f3 f4 f5;obtain⟨o,e,c,d⟩:=id aT;exact⟨_,rfl,zJp (s:={ s with heap:=h',toks:=s.toks+1 }) e c d ⋯ ⟨.str (tx [x.cps.toList[i]]),H,I1,⟨_,rfl⟩,⟨rfl,_,hx,rfl⟩,aT,λb hb=>(hf b hb).1⟩⟩
 done:=by
  intro X hP hw hK hc i pins s σ H E I hf st hg;subst hP hw hK;obtain⟨f0,f1,f2,f3,f4,f5⟩:=hf it (by simp);have hn:x.cps[i]?=none:=by rw[← wH8];exact wH0 (by rw[← zB0];exact hg)
  exact wpAny_pyNext_wide_end (I.ok.hd hc) st hn λh' eb=>⟨rfl,I.turned (t':=s.toks) (λb o hb e=>eb b o hb e) f0 f1 f3 f4 f5⟩
 self:=λ_ _ _ _ _ st h=>wpAny_pyIter_striter_wide st h
section
variable {X:Cx} {tg:Expr}
inductive IStr (x:V) (H1:Hp) (R:It->Hp->Prop):Prop
 | mk (z:_):(x=.str z)->(R (Its z) H1)->IStr x H1 R
def zRP (tl:TE):TI:=λσ H R=>tl σ H λx H1=>IStr x H1 R
def zPB {l:Expr} {tl:TE} (hl:PE X l tl):PI X tg l (zRP tl):=by
 intro pins s σ H R I h;refine thn (hl pins s σ H _ I h) λv s1 aA=>?_;obtain⟨x,H1,I1,r1,z,e,q⟩:=aA;subst e;obtain⟨t,rfl⟩:=r1;have fp:∀b∈[s1.heap.objs.size],zEh X pins H1 b:=λb hb=>by rw[show b=s1.heap.objs.size from by simpa using hb];exact I1.fpOk (wG5 _) (I1.hok.fresh (wG5 _))
 cases ha:z.cps.all (· < 128)
 ·exact wpAny_pyIter_wide ha ⟨s1.heap.objs.size,[s1.heap.objs.size],_,_,H1,rfl,I1.kept (t':=s1.toks) λb o e=>wG3 _ e,zJC _ z t,⟨_,wHb _ rfl,rfl,rfl⟩,fp,q⟩
 exact wpAny_pyIter_ascii ha ⟨s1.heap.objs.size,[s1.heap.objs.size],_,_,H1,rfl,I1.kept (t':=s1.toks) λb o e=>wG3 _ e,zJD _ z t,⟨_,wHb _ rfl,rfl,rfl⟩,fp,q⟩
end
def zMK {l:Addr} {x:Str} {g:TG} {tt:TT} {te:TE} {fin:Hp->Prop} {σ0:St} {H0:Hp} (Pv:Nat->St->Hp->Prop) (h0:Pv 0 σ0 H0)
  (hs:∀i c σ H,x.cps.toList[i]?=some c->Pv i σ H->g (.str (tx [c])) σ H λσ2 H2=>tt σ2 H2 λb H3=>if b=true then te σ2 H3 λv H4=>∃xs,H4 l=some (.lst xs)/\xs.length < sizeLine/\Pv (i+1) σ2 (upd H4 l (.lst (xs++[v]))) else Pv (i+1) σ2 H3)
  (hd:∀σ H,Pv x.length σ H->fin H):zDP l (Its x) g tt te fin σ0 H0:=by
 refine⟨λi m σ H=>m=x.length-i/\i<=x.length/\Pv i σ H,⟨x.length,by simp,wHK _,h0⟩,?_⟩;rintro i m σ H ⟨rfl,hi,p⟩;by_cases aD:i < x.length
 ·refine .inr ⟨aD,Pv (i+1),λσ' H' p'=>⟨x.length-(i+1),by omega,rfl,aD,p'⟩,λv H' aA=>?_⟩;obtain⟨e,c,hc,ev⟩:=aA;subst e ev;exact hs i c σ _ hc p
 have e:i=x.length:=by omega
 subst e;exact .inl ⟨wG5 _,hd σ H p⟩
open Builtin.Str in
theorem zQc (i:Int) (u:Option Int) (n:Nat) (h:0<=i):strSliceIndices (some i) u 1 n=strSliceIndices (some (min i n)) u 1 n:=by
 have e:max 0 (min i (n:Int))=max 0 (min (min i (n:Int)) (n:Int)):=by omega
 have e1:(if i < 0 then i+(n:Int) else i)=i:=wGZ ∅;have e2:(if min i (n:Int) < 0 then min i (n:Int)+(n:Int) else min i (n:Int))=min i (n:Int):=wGZ ∅;unfold strSliceIndices;simp only[e1,e2];rw[show (if (1:Int) > 0 then max 0 (min i (n:Int)) else max (-1) (min i ((n:Int)-1)))=(if (1:Int) > 0 then max 0 (min (min i (n:Int)) (n:Int)) else max (-1) (min (min i (n:Int)) ((n:Int)-1))) from by rw[wG1 ⋯,wG1 ⋯,e]]
open Builtin.Str in
theorem zQd (i:Int) (l:Option Int) (n:Nat) (h:0<=i):strSliceIndices l (some i) 1 n=strSliceIndices l (some (min i n)) 1 n:=by
 have e:max 0 (min i (n:Int))=max 0 (min (min i (n:Int)) (n:Int)):=by omega
 have e1:(if i < 0 then i+(n:Int) else i)=i:=wGZ ∅;have e2:(if min i (n:Int) < 0 then min i (n:Int)+(n:Int) else min i (n:Int))=min i (n:Int):=wGZ ∅;unfold strSliceIndices;simp only[e1,e2];rw[show (if (1:Int) > 0 then max 0 (min i (n:Int)) else max (-1) (min i ((n:Int)-1)))=(if (1:Int) > 0 then max 0 (min (min i (n:Int)) (n:Int)) else max (-1) (min (min i (n:Int)) ((n:Int)-1))) from by rw[wG1 ⋯,wG1 ⋯,e]]
theorem zLM (x:Str) (j:Int) (h:0<=j):StrLaws.sliceText x none (some j)=tx (x.cps.toList.take j.toNat):=by
 have e:StrLaws.sliceText x none (some j)=StrLaws.sliceText x none (some (min j x.length)):=by unfold StrLaws.sliceText;rw[zQd j none x.length h]
 have l:=zB0 x;rw[e,StrLaws.sliceText_to ⟨by omega,by omega⟩];show tx _=tx _;rw[List.drop_zero,Int.sub_zero];by_cases c:j<=x.length
 ·rw[Int.min_eq_left c]
 rw[Int.min_eq_right ∅,wHX ∅,wHX ∅]
theorem zIU (x:Str) (i:Int) (h:0<=i):StrLaws.sliceText x (some i) none=tx (x.cps.toList.drop i.toNat):=by
 have e:StrLaws.sliceText x (some i) none=StrLaws.sliceText x (some (min i x.length)) none:=by unfold StrLaws.sliceText;rw[zQc i none x.length h]
 have l:=zB0 x;rw[e,StrLaws.sliceText_from ⟨by omega,by omega⟩];show tx _=tx _;by_cases c:i<=x.length
 ·rw[Int.min_eq_left c,wHX (by rw[wHP];omega)]
 rw[Int.min_eq_right ∅,List.drop_of_length_le (show x.cps.toList.length<=i.toNat by omega),List.drop_of_length_le (show x.cps.toList.length<=(x.length:Int).toNat by omega)];simp
section
variable {X:Cx}
def zRE:V->Option Int->Option Int->Hp->VK->Prop:=λx lo hi H Q=>∃z,x=.str z/\z.length<=sizeLine/\((lo=none/\∃j,hi=some j/\0<=j/\Q (.str (tx (z.cps.toList.take j.toNat))) H)∨(∃i,lo=some i/\hi=none/\0<=i/\Q (.str (tx (z.cps.toList.drop i.toNat))) H))
def zNa:SlR X zRE:=by
 intro pins s σ H x v vl vu lo hi sl Q I rx hs pl pu h;obtain⟨z,rfl,hz,h⟩:=h;obtain⟨t,rfl⟩:=rx;refine⟨"str",_,F.slot_str_getitem.lookup,typeIs_str _ _ _,?_⟩;obtain⟨o,g1,g2,g3⟩:=hs;rcases h with ⟨rfl,j,rfl,j0,q⟩ | ⟨i,rfl,rfl,i0,q⟩
 ·cases pl;cases pu with
  | int _ tj=>
   refine wpAny_getItem_str_slice (l:=none) (u:=some (j,tj)) (st:=none) ⟨o,g1,g2,g3⟩ rfl (post_val_or_str (c:=((1:Int) == 1 && (slicePicked z none (some (j,tj)) none).length == z.length)=true) ⟨wHe (Txt.slice_le z _ _) hz,λt' k=>⟨.str _,H,I.tok _,⟨_,rfl⟩,?_⟩⟩);have e:=zLM z j j0;unfold StrLaws.sliceText at e;unfold slicePicked;rw[show (none:Option (Int × Tok)).map (·.1)=none from rfl,show (some (j,tj)).map (·.1)=some j from rfl];rw[show ((none:Option Int)).getD 1=1 from rfl];rw[e];exact q
 cases pu;cases pl with
 | int _ ti=>
  refine wpAny_getItem_str_slice (l:=some (i,ti)) (u:=none) (st:=none) ⟨o,g1,g2,g3⟩ rfl (post_val_or_str (c:=((1:Int) == 1 && (slicePicked z (some (i,ti)) none none).length == z.length)=true) ⟨wHe (Txt.slice_le z _ _) hz,λt' k=>⟨.str _,H,I.tok _,⟨_,rfl⟩,?_⟩⟩);have e:=zIU z i i0;unfold StrLaws.sliceText at e;unfold slicePicked;rw[show (none:Option (Int × Tok)).map (·.1)=none from rfl,show (some (i,ti)).map (·.1)=some i from rfl];rw[show ((none:Option Int)).getD 1=1 from rfl];rw[e];exact q
inductive RInS (x:V) (y:V) (H:Hp) (Q:VK):Prop
 | mk (c:_) (z:_):(x=.str (tx [c]))->(y=.str z)->(Q (.bl (decide (c∈z.cps.toList))) H)->RInS x y H Q
def zJf:OpR X (compareOp .In) (λx y H Q=>RInS x y H Q):=by intro pins s σ H x y v u Q I rx ry h;obtain⟨c,z,rfl,rfl,q⟩:=h;refine zK4 pins s σ H _ _ v u Q I rx ry ⟨tx [c],z,rfl,rfl,?_⟩;rw[show tx [c]=(⟨#[c]⟩:Str) from rfl,StrLaws.found_one];exact q
theorem zIL:∀{bs:List Bool} {us:List Value},zA7 (bs.map V.bl) us->us=bs.map Value.bool
 | [],_,.nil=>rfl
 | b::bs,_,.cons e r=>by rw[show _=Value.bool b from e,zIL r];rfl
inductive RAll (K:W.Frag) (xs:List V) (H:Hp) (Q:VK):Prop
 | mk (p:Addr) (bs:List Bool):(xs=[.ref p])->(SqL K H p (bs.map V.bl))->(Q (.bl (bs.all id)) H)->RAll K xs H Q
def zMQ (hc:X.calm=true):zB6 X (.builtin "all") (λxs H Q=>RAll X.K xs H Q):=by
 intro pins s σ H xs us Q I r h;obtain⟨p,bs,rfl,hS,q⟩:=h;obtain⟨u,rfl,ru⟩:=r.one;cases ru;obtain⟨its,rv,pl,hz⟩:=I.list hS;have hi:=zIL rv;have hp:p < s.heap.objs.size:=by obtain⟨o,n,e,_⟩:=pl;exact wHa e
 refine call_all_walk (wpAny_pyIter_list pl.isList ?_);refine⟨s.heap.objs.size,_,_,_,_,_,λi=>bs.getD i true,rfl,Walks.list (A:=X.A.in1) (show X.A.in1.handled=none from I.ok.hd hc) s.heap.objs.size p (wHg hp) its.toArray,⟨⟨_,wHb _ rfl,rfl,rfl⟩,pl.isList.push _⟩,λi v s' Q' E' hv q'=>?_,λh' tk hm=>?_⟩
 ·have fD:its.toArray[i]?=some v:=hv;have:v=.bool (bs.getD i true):=by
   rw[hi] at fD;simp only[List.getElem?_toArray,wG6] at fD;rw[wG4];cases e:bs[i]? with
   | none=>rw[e] at fD;cases fD
   | some b=>rw[e] at fD;exact (wG8 fD).symm
  rw[this];exact wpAny_truthy_bool q'
 have e:(List.range its.toArray.size).all (λi=>bs.getD i true)=bs.all id:=by
  rw[wHh,hi,wGX];rw[Bool.eq_iff_iff,List.all_eq_true,List.all_eq_true];constructor
  ·intro h b hb;obtain⟨i,aD,rfl⟩:=List.getElem_of_mem hb;have:=h i (List.mem_range.mpr aD);rw[wG4,wG0 aD] at this;exact this
  intro h i hi;rw[wG4,wG0 (List.mem_range.mp hi)];exact h _ (wHs _)
 rw[e];exact⟨.bl (bs.all id),H,I.kept λb o q=>hm b o (λz=>by rw[wIj z] at q;exact absurd (wHa q) (Nat.lt_irrefl _)) (wG3 _ q),rfl,q⟩
def zRK (te:TE) (t:TJ):TJ:=λσ H out Q=>te σ H λx H1=>∃z,x=.str z/\(∀c∈z.cps.toList,c < 16 ^ 8)/\z.length<=100000/\∀y:Str,y.length<=1000002->(out++y).length<=sizeLine/\t σ H1 (out++y) Q
def zKs {e:Expr} {te:TE} {pos} {es:List Expr} {t:TJ} (he:PE X e te) (h:PJ X es t):PJ X (.FormattedValue e 114 none pos::es) (zRK te t):=λpins s σ H out Q I hq=>by
 refine joinParts_cons (wpAny_FormattedValue_repr (thn (he pins s σ H _ I hq) λv s1 aA=>?_));obtain⟨x,H1,I1,r1,z,ez,hc,hz,q⟩:=aA;subst ez;obtain⟨t1,rfl⟩:=r1;have lr:=PySem.StrLaws.reprText_len z hc;have lr2:(PySem.reprText z).length<=1000002:=by omega
 have lr3:(PySem.reprText z).length<=sizeLine:=sz _ ∅;obtain⟨q1,q2⟩:=q _ lr2;exact wpAny_pyReprObj_str (formatField_str (λt' tk=>⟨q1,h pins _ σ H1 _ Q (I1.tok _) q2⟩) lr3) lr3
end
def zKz {P:Program} {w:World} {X:Cx}:zDy (CXx P w) X E0:=by intro pins σ H s ev s' I hx;obtain⟨_,_,_,_,_,_,_,_,_,_,_,_,_,_,_,q⟩:=hx;exact q.elim
inductive Deed where
 | house (n:Str)
 | pact (g t:Str) (p f l:Int)
 | loss (h:Str) (d a:Int)
def Deed.tag:Deed->Str
 | .house _=>Str.ofString "house"
 | .pact ..=>Str.ofString "pact"
 | .loss ..=>Str.ofString "loss"
def Deed.rest:Deed->List V
 | .house n=>[.str n]
 | .pact g t p f l=>[.str g,.str t,.int p,.int f,.int l]
 | .loss h d a=>[.str h,.int d,.int a]
def Deed.vs (d:Deed):List V:=.str d.tag::d.rest
def Deed.isH:Deed->Bool
 | .house _=>true
 | _=>false
def Deed.isP:Deed->Bool
 | .pact ..=>true
 | _=>false
def tg1:decide (V.str "pact"=V.str "house")=false:=by nofun
def tg2:decide (V.str "loss"=V.str "house")=false:=by nofun
def tg3:decide (V.str "house"=V.str "pact")=false:=by nofun
def tg4:decide (V.str "loss"=V.str "pact")=false:=by nofun
def zJG (d:Deed):decide (V.str d.tag=V.str "house")=d.isH:=by
 cases d
 ·exact wHB rfl
 ·exact tg1
 exact tg2
def zLH (d:Deed):decide (V.str d.tag=V.str "pact")=d.isP:=by
 cases d
 ·exact tg3
 ·exact wHB rfl
 exact tg4
def zL (ds:List Deed):List Str:=ds.filterMap λd=>match d with | .house n=>some n | _=>none
abbrev Pct:=Str × Str × Int × Int × Int
def Pct.vs (p:Pct):List V:=[.str p.1,.str p.2.1,.int p.2.2.1,.int p.2.2.2.1,.int p.2.2.2.2]
def zV (ds:List Deed):List Pct:=ds.filterMap λd=>match d with | .pact g t p f l=>some (g,t,p,f,l) | _=>none
abbrev Lss:=Str × Int × Int
def Lss.vs (p:Lss):List V:=[.str p.1,.int p.2.1,.int p.2.2]
theorem zEM (a b:List Deed):zL (a++b)=zL a++zL b:=List.filterMap_append
def zEG (a b:List Deed):zV (a++b)=zV a++zV b:=List.filterMap_append
def zEL {ds:List Deed} {i:Nat} {d:Deed} (h:ds[i]?=some d):zL (ds.take (i+1))=zL (ds.take i)++zL [d]:=by rw[← zEM,wHC,h];rfl
def zEF {ds:List Deed} {i:Nat} {d:Deed} (h:ds[i]?=some d):zV (ds.take (i+1))=zV (ds.take i)++zV [d]:=by rw[← zEG,wHC,h];rfl
def zGX (ds:List Deed):(zL ds).length<=ds.length:=List.length_filterMap_le _ _
def zGK (ds:List Deed):(zV ds).length<=ds.length:=List.length_filterMap_le _ _
def zFs (x:Addr) (H H':Hp):Prop:=∀b o,b≠x->H b=some o->H' b=some o
def zFs.of {x:Addr} {H H':Hp} (s:zAf H H'):zFs x H H':=λb o _ e=>s b o e
def zFs.trans {x:Addr} {H H1 H2:Hp} (a:zFs x H H1) (b:zFs x H1 H2):zFs x H H2:=λc o n e=>b c o n (a c o n e)
def zFs.upd {x:Addr} {H:Hp} {o:HO}:zFs x H (upd H x o):=λb u n e=>(zO n).trans e
def zFs.seq {K:W.Frag} {x:Addr} {H H':Hp} {a:Addr} {xs:List V} (k:zFs x H H') (n:a≠x) (h:SqL K H a xs):SqL K H' a xs:=by
 rcases h with (h | ⟨o,h⟩) | h
 ·exact .inl (.inl (k _ _ n h))
 ·exact .inl (.inr ⟨o,k _ _ n h⟩)
 exact .inr h
def zAD (H:Hp) (C b tl:Addr) (ds:List Deed):Prop:=
 ∃(dx:Addr) (q:List Addr),H b=some (.ins C dx [("told",.ref tl)])/\H tl=some (.lst (q.map V.ref))/\q.length=ds.length/\∀(i:Nat) (a:Addr) (d:Deed),q[i]?=some a->ds[i]?=some d->H a=some (.tup d.vs)
def zAD.same {H H':Hp} {C b tl:Addr} {ds:List Deed} (x:zAD H C b tl ds) (s:zAf H H'):zAD H' C b tl ds:=by obtain⟨dx,q,h1,h2,h3,h4⟩:=x;exact⟨dx,q,s _ _ h1,s _ _ h2,h3,λi a d e1 e2=>s _ _ (h4 i a d e1 e2)⟩
def zAD.keep {H H':Hp} {C b tl y:Addr} {ds:List Deed} (x:zAD H C b tl ds) (k:zFs y H H') (n:tl≠y) (ho:∃xs,H y=some (.lst xs)):zAD H' C b tl ds:=by obtain⟨dx,q,h1,h2,h3,h4⟩:=x;obtain⟨xs,hy⟩:=ho;exact⟨dx,q,k _ _ (zBG h1 hy (by intro z;cases z)) h1,k _ _ n h2,h3,λi a d e1 e2=>k _ _ (zBG (h4 i a d e1 e2) hy (by intro z;cases z)) (h4 i a d e1 e2)⟩
def zAD.snoc {H:Hp} {C b tl p:Addr} {ds:List Deed} {d:Deed} {q:List Addr} {dx:Addr} (h1:H b=some (.ins C dx [("told",.ref tl)])) (h2:H tl=some (.lst (q.map V.ref))) (h3:q.length=ds.length)
  (h4:∀(i:Nat) (a:Addr) (d:Deed),q[i]?=some a->ds[i]?=some d->H a=some (.tup d.vs)) (hp:H p=some (.tup d.vs)):zAD (upd H tl (.lst (q.map V.ref++[V.ref p]))) C b tl (ds++[d]):=by
 refine⟨dx,q++[p],?_,?_,by rw[wG7,wG7,h3];rfl,λi a d' e1 e2=>?_⟩
 ·rw[zO (zBG h1 h2 (by intro z;cases z))];exact h1
 ·rw[zB,wG9];rfl
 have g:H a=some (.tup d'.vs):=by
  by_cases c:i < q.length
  ·rw[wHl c] at e1;rw[wHl ∅] at e2;exact h4 i a d' e1 e2
  rw[wHj ∅] at e1;rw[wHj ∅] at e2;have z:i-q.length=0:=by have:=(wIi e1).1;rw[wHM] at this;omega
  have z2:i-ds.length=0:=by omega
  rw[z] at e1;rw[z2] at e2;cases e1;cases e2;exact hp
 rw[zO (zBG g h2 (by intro z;cases z))];exact g
def zOI {n:Nat}:Str.empty.length<=n:=wHK _
def zRt {a b:Str} {n k:Nat} (ha:a.length<=n) (hb:b.length<=k):(a++b).length<=n+k:=by rw[zIf a,zIf b,zJB,zCM,wG7];rw[zB0] at ha hb;omega
def zGt:bootBuiltins "ValueError"=some (.type "ValueError"):=by nofun
def zIN (n:Str):Prop:=(∀c∈n.cps.toList,97<=c/\c<=122)/\1<=n.length/\n.length<=8
def zKX (c:Nat):Bool:=decide (c∈(Str.ofString "abcdefghijklmnopqrstuvwxyz").cps.toList)
def zHe (c:Nat):zKX c=true↔97<=c/\c<=122:=by
 have e:(Str.ofString "abcdefghijklmnopqrstuvwxyz").cps.toList=(List.range 26).map (97 + ·):=by nofun
 unfold zKX;rw[e,decide_eq_true_iff,List.mem_map];constructor
 ·rintro⟨a,ha,rfl⟩;have:=List.mem_range.mp ha;omega
 rintro⟨h1,h2⟩;exact⟨c-97,List.mem_range.mpr ∅,by omega⟩
instance (n:Str):Decidable (zIN n):=inferInstanceAs (Decidable (_/\_/\_))
def zFF (n:Str):Prop:=(∀c∈n.cps.toList,c < 1114112)/\n.length<=1000
def zFF.c16 {n:Str} (h:zFF n):∀c∈n.cps.toList,c < 16 ^ 8:=λc hc=>by have:=h.1 c hc;omega
def zIN.sane {n:Str} (h:zIN n):zFF n:=⟨λc hc=>by have:=h.1 c hc;omega,by have:=h.2.2;omega⟩
def zLa (n:Str) (ns:List Str):inV (.str n) (ns.map V.str)=decide (n∈ns):=by
 unfold inV;rw[Bool.eq_iff_iff,decide_eq_true_iff]
 induction ns with
 | nil=>simp
 | cons x r ih=>
  simp only[wHW,List.any_cons,Bool.or_eq_true,wHN];rw[ih];constructor
  ·rintro (z | z)
   ·left
    have z':(x == n)=true:=z;exact (beq_iff_eq.mp z').symm
   exact .inr z
  rintro (z | z)
  ·left
   show (x == n)=true;rw[z];exact beq_self_eq_true _
  exact .inr z
def zHl (ns:List Str):(ns.map V.str).all zGj=true:=by
 rw[List.all_eq_true];intro x hx;obtain⟨z,_,rfl⟩:=List.mem_map.mp hx
 rfl
mutual
inductive RdD (K:W.Frag) (H:Hp):V->PyData->Prop
 | non:RdD K H .non .none
 | bl (b:Bool):RdD K H (.bl b) (.bool b)
 | int (i:Int):RdD K H (.int i) (.int i)
 | str (x:Str):RdD K H (.str x) (.str x)
 | lst {a:Addr} {xs:List V} {ds:List PyData}:SqL K H a xs->RdA K H xs ds->RdD K H (.ref a) (.list ds)
 | tup {a:Addr} {xs:List V} {ds:List PyData}:SqT K H a xs->RdA K H xs ds->RdD K H (.ref a) (.tuple ds)
inductive RdA (K:W.Frag) (H:Hp):List V->List PyData->Prop
 | nil:RdA K H [] []
 | cons {x:V} {xs:List V} {d:PyData} {ds:List PyData}:RdD K H x d->RdA K H xs ds->RdA K H (x::xs) (d::ds)
end
section
variable {X:Cx} {pins:List (Addr × Obj)} {σ:St} {H:Hp} {s:Shared}
mutual
theorem RdD.reads (I:Inv X pins σ H s):∀{x:V} {d:PyData},RdD X.K H x d->∀u,zBl x u->∃as,Reads s.heap u d as
 | _,_,.non,u,r=>by cases r;exact⟨_,.none⟩
 | _,_,.bl b,u,r=>by cases r;exact⟨_,.bool b⟩
 | _,_,.int i,u,r=>by obtain⟨t,rfl⟩:=r;exact⟨_,.int i t⟩
 | _,_,.str i,u,r=>by obtain⟨t,rfl⟩:=r;exact⟨_,.str i t⟩
 | _,_,.lst h g,u,r=>by cases r;obtain⟨its,rv,pl,hz⟩:=I.list h;obtain⟨as,ra⟩:=RdA.reads I g its rv;obtain⟨o,n,e1,e2,_,e3⟩:=pl;exact⟨_,.list e1 e2 e3 (by simpa using ra)⟩
 | _,_,.tup h g,u,r=>by cases r;obtain⟨its,rv,pl,hz⟩:=I.tuple h;obtain⟨as,ra⟩:=RdA.reads I g its rv;obtain⟨o,e1,e2,n,e3⟩:=pl;exact⟨_,.tuple e1 e2 e3 (by simpa using ra)⟩
theorem RdA.reads (I:Inv X pins σ H s):∀{xs:List V} {ds:List PyData},RdA X.K H xs ds->∀us,zA7 xs us->∃as,ReadsAll s.heap us ds as
 | _,_,.nil,us,r=>by cases r;exact⟨_,.nil⟩
 | _,_,.cons h g,us,r=>by
  cases r with
  | cons r1 r2=>
   obtain⟨a1,h1⟩:=RdD.reads I h _ r1;obtain⟨a2,h2⟩:=RdA.reads I g _ r2;exact⟨_,.cons h1 h2⟩
end
inductive RNeD (K:W.Frag) (x:V) (y:V) (H:Hp) (Q:VK):Prop
 | mk (d e:PyData):RdD K H x d->RdD K H y e->(PySem.SeqAt.shaped d=true)->(PySem.SeqAt.shaped e=true)->(Q (.bl (!PyData.eqv d e)) H)->RNeD K x y H Q
def zPL (hu:X.A.units+64 < cLine):OpR X (compareOp .NotEq) (λx y H Q=>RNeD X.K x y H Q):=by intro pins s σ H x y v u Q I rx ry h;obtain⟨d,e,h1,h2,h3,h4,q⟩:=h;obtain⟨as,r1⟩:=h1.reads I v rx;obtain⟨bs,r2⟩:=h2.reads I u ry;exact ne_dataH r1 r2 h3 h4 hu ⟨.bl _,H,I,rfl,q⟩
end
def zOH (xs:List PyData):PyData.eqv (.list xs) (.list [])=xs.isEmpty:=by cases xs<;>simp[PyData.eqv,PyData.eqvAll]
end L2
namespace L2
open PySem PySem.Spec PyProof.Rows PySem.W
section
variable {prog:Program} {w:World} {A:Around} {E:Value->Shared->Prop} {s:Shared} {K:W.Frag} {x C:Addr} {ox:Obj} {od:Option Obj} {name:Str} {tk:Tok}
def zL9 {g a:Value} {Q:Fin->Shared->Prop} (X:K.In s.heap) (I:W.InstAt s.heap x ox C od) (hf:W.findObj K C od name=some (.bind g a))
  (h:wpAny (model prog w) A (call g [a,.ref x,.ref C]) (λv s'=>Q (.done (.ret v)) s') E s) :
  wpAny (model prog w) A (Builtin.«object.__getattribute__» ⟨[.ref x,.str name tk],[]⟩) Q E s:=by
 have L0:=I.type (M:=model prog w);have L1:=looks_find (M:=model prog w) X I hf;unfold Builtin.«object.__getattribute__»;refine wGY (wG2 ?_);refine wGY (wG2 ?_);refine wGY (L0.here ?_);refine wGY (L1.here ?_);show wpAny _ _ (holding [a] (call g [a,.ref x,.ref C]) >>= ret) _ _ _;exact wGY (wHQ (wHq h (λv s' z=>wG2 z) λ_ _ z=>z))
def zJ3 {v:Value} {Q:Fin->Shared->Prop} (X:K.In s.heap) (I:W.InstAt s.heap x ox C od) (hf:W.findObj K C od name=some (.value v))
  (h:Q (.done (.ret v)) s) :
  wpAny (model prog w) A (Builtin.«object.__getattribute__» ⟨[.ref x,.str name tk],[]⟩) Q E s:=by
 have L0:=I.type (M:=model prog w);have L1:=looks_find (M:=model prog w) X I hf;unfold Builtin.«object.__getattribute__»;refine wGY (wG2 ?_);refine wGY (wG2 ?_);refine wGY (L0.here ?_);refine wGY (L1.here ?_);exact wG2 h
def zJ4 {M:Model} {fC:Value} {Q:Unit->Shared->Prop} (X:K.In s.heap) (I:W.InstAt s.heap x ox C od) (hm:W.mroIn K C (.type "BaseException")=some true) (hq:Q PUnit.unit s) :
  wpAny M A (checkBuiltinCall "BaseException.__getattribute__" ⟨[.ref x,fC],[]⟩) Q E s:=by
 have L0:=I.type (M:=M);have L1:=looks_mroIn (M:=M) X hm;have hk:builtinKind "BaseException.__getattribute__"=some .slot:=by nofun
 have gB:splitId "BaseException.__getattribute__"=some ("BaseException","__getattribute__"):=by nofun
 have ha:=F.args_bexc_ga (.ref x) fC;simp only[checkBuiltinCall,hk,gB];refine wGY ?_;unfold isInstance;refine wGY (L0.here (L1.here ?_));obtain⟨hh,gg,d,t,os⟩:=s
 repeat (first | exact hq | wp_step)
def zMV {fill expr:Bool} {Q:Value->Shared->Prop} (X:K.In s.heap) (I:W.InstAt s.heap x ox C od) (hga:W.findIn K (.ref C) "__getattribute__"=some (some (.builtin "BaseException.__getattribute__")))
  (hk:W.findIn K (.ref C) "__getattr__"=some none) (hm:W.mroIn K C (.type "BaseException")=some true)
  (h:∀A',wpAny (model prog w) A' (Builtin.«object.__getattribute__» ⟨[.ref x,.str name tk],[]⟩) (λfin s'=>match fin with | .done (.ret v)=>wpAny (model prog w) A (handedOut v) Q E s' | _=>False) (λ_ _=>False) s) :
  wpAny (model prog w) A (getAttrBy (.ref x) (.str name tk) fill expr) Q E s:=by
 have L0:=I.type (M:=model prog w);have L1:=looks_findIn (M:=model prog w) X hga;have L2:=looks_findIn (M:=model prog w) X hk;have nF:(expr && onTheHeap (Value.builtin "BaseException.__getattribute__"))=false:=by cases expr<;>rfl
 have hx2:(Value.builtin "BaseException.__getattribute__" == Value.builtin "object.__getattribute__")=false:=by nofun
 unfold getAttrBy;refine wHQ (wGY (L0.here (wGY (L1.here ?_))));dsimp only;rw[hx2,Bool.and_false,wGZ ⋯];unfold getAttrByItsOwn;refine wGY ?_;show wpAny _ _ (typeLookup (.ref C) "__getattr__") _ _ _;refine L2.here ?_;refine wGY (wpAny_attempt (wHQ ?_));unfold callGetattribute;rw[nF,wGZ ⋯];unfold boundAndCalled;refine wGY (wpAny_of_eq (F.attrBase_ValueError.ga.bind (.ref x)) ?_);refine wpAny_call ?_;refine codeAny_call_builtin F.attrBase_ValueError.ga.plain F.entry_bexc_ga (zJ4 X I hm (wHq (h _) (λfin s' z=>?_) λ_ _ z=>z.elim));rcases fin with (_ | _ | _ | _) | _<;>first | exact z | exact z.elim
end
structure ExcX (K:W.Frag) (C:Addr):Prop where
 ga:W.findIn K (.ref C) "__getattribute__"=some (some (.builtin "BaseException.__getattribute__"))
 gt:W.findIn K (.ref C) "__getattr__"=some none
 mb:W.mroIn K C (.type "BaseException")=some true
 cl:(W.clsIn K C).isSome=true
 fc:W.findIn K (.ref C) "__class__"=some (some (.builtin "object.__class__"))
 sg:W.specialIn K (.builtin "object.__class__") "__get__"=some (some (.builtin "getset_descriptor.__get__"))
 tk:W.takesIn K (.builtin "object.__class__")=some true
 mo:W.mroIn K C (.type "object")=some true
def zHb {K:W.Frag} {e C:Addr} (k:ExcX K C):PySem.W.KitX K (.ref e) (.ref C) (λh=>∃oe od,W.InstAt h e oe C od) where
 ty:=λ_ _ _ ⟨_,_,I⟩=>I.type
 it:=λM h X _=>by
  have hc:=k.cl;unfold W.clsIn at hc
  split at hc
  case h_2=>cases hc
  case h_1 c' d' cd' iZ ho=>
   intro A' Q' E' s' kk q;unfold isType loadHead;exact wGY (wpAny_loadPart (kk _ _ (X _ _ ho)) (wG2 q))
 ne:=λh tp dd its n sl X htp=>by
  refine wIl λq=>?_;have z:C=tp:=Value.ref.inj (beq_iff_eq.mp q);subst z;have hc:=k.cl;unfold W.clsIn at hc
  split at hc
  case h_2=>cases hc
  case h_1 c' d' cd' iZ ho=>cases (X _ _ ho).symm.trans htp
 ca:=λ{prog w A E Q s} X I q=>by obtain⟨oe,od,I⟩:=I;unfold getAttr? getAttrBy?;refine wGY (wpAny_mkText (wGY (wpAny_attempt ?_)));refine zMV (s:={ s with toks:=s.toks+1 }) X I k.ga k.gt k.mb λA'=>?_;refine zL9 (s:={ s with toks:=s.toks+1 }) X I (zLj k.cl k.fc k.sg k.tk) ?_;exact wpAny_call (W.class_get (s:={ s with toks:=s.toks+1 }) (ox:=oe) (od:=od) X I k.mo (W.handed_on rfl (wG2 q)))
def zD0 (H:Hp) (dd:Option Addr):Prop:=∀dx,dd=some dx->∃fs,H dx=some (.xd fs)
def zD0.no {H:Hp}:zD0 H none:=λ_ e=>nomatch e
def zD0.same {H H':Hp} {dd:Option Addr} (x:zD0 H dd) (s:zAf H H'):zD0 H' dd:=λdx e=>let ⟨fs,q⟩:=x dx e;⟨fs,s _ _ q⟩
section
variable {X:Cx}
inductive RIsX (K:W.Frag) (xs:List V) (H:Hp) (Q:VK):Prop
 | mk (e:_) (C:_) (dd:_) (y:_) (b:_):(xs=[.ref e,y])->(H e=some (zFG e (.ref C) dd))->zD0 H dd->ExcX K C->(vcl y≠.none)->(W.kitOne K (.ref C) (vcl y)=some b)->(Q (.bl b) H)->RIsX K xs H Q
def zBe:zB6 X (.builtin "isinstance") (λxs H Q=>RIsX X.K xs H Q):=by
 intro pins s σ H xs us Q I r h;obtain⟨e,C,dd,y,b,rfl,he,hD,k,hv,hb,q⟩:=h;obtain⟨u,v,rfl,r1,r2⟩:=zA7.two r;cases (show u=Value.ref e from r1);have ev:v=vcl y:=by
  cases y<;>first
   | exact absurd rfl hv
   | exact r2
 rw[ev];obtain⟨oe,vs,g1,g2,g3,g4,g5⟩:=zFG.get I.hok he;have nc:W.notCls oe=true:=by
  obtain⟨c,d,dt,sl⟩:=oe;cases g4
  rfl
 cases dd with
 | none=>exact W.kia_one (zHb k) I.kIn ⟨oe,none,g1,g2,nc,by rw[g3];trivial⟩ hb (λz=>nomatch z) λtk=>⟨.bl b,H,I.tok _,rfl,q⟩
 | some dx=>
  obtain⟨fs,hx⟩:=hD dx rfl;obtain⟨ob,nY⟩:=zIF I.hok hx;exact W.kia_one (zHb k) I.kIn ⟨oe,some ob,g1,g2,nc,by rw[g3];exact nY⟩ hb (λz=>nomatch z) λtk=>⟨.bl b,H,I.tok _,rfl,q⟩
end
def zMJ {K:W.Frag} {a l:Addr} {ys:List V} {g:TG} {tt:TT} {te:TE} {fin:Hp->Prop} {σ0:St} {H0:Hp} (Pv:Nat->St->Hp->Prop) (h0:Pv 0 σ0 H0) (hl:∀i σ H,i<=ys.length->Pv i σ H->SqT K H a ys)
  (hs:∀i x σ H,ys[i]?=some x->Pv i σ H->g x σ H λσ2 H2=>tt σ2 H2 λb H3=>if b=true then te σ2 H3 λv H4=>∃xs,H4 l=some (.lst xs)/\xs.length < sizeLine/\Pv (i+1) σ2 (upd H4 l (.lst (xs++[v]))) else Pv (i+1) σ2 H3)
  (hd:∀σ H,Pv ys.length σ H->fin H):zDP l (Itt K a) g tt te fin σ0 H0:=by
 refine⟨λi m σ H=>m=ys.length-i/\i<=ys.length/\Pv i σ H,⟨ys.length,by simp,wHK _,h0⟩,?_⟩;rintro i m σ H ⟨rfl,hi,p⟩;have q:=hl i σ H hi p;by_cases aD:i < ys.length
 ·refine .inr ⟨⟨ys,ys[i],q,by simp[aD]⟩,Pv (i+1),λσ' H' p'=>⟨ys.length-(i+1),by omega,rfl,aD,p'⟩,λx H' y=>?_⟩;obtain⟨e,y⟩:=y;subst e;exact hs i x σ _ (y ys q) p
 have e:i=ys.length:=by omega
 subst e;exact .inl ⟨⟨ys,q,wG5 _⟩,hd σ H p⟩
theorem zFJ (k:Str):∀{vs:List Value} {ys:List Str},StrsAre vs ys->∀(i:Nat) (h:i < vs.length) (h':i < ys.length),isStrOf k vs[i]=(ys[i] == k)
 | _,_,.nil,i,h,_=>absurd h (wHd _)
 | _,_,.cons n t r,0,_,_=>rfl
 | _,_,.cons n t r,i+1,h,h'=>zFJ k r i (Nat.lt_of_succ_lt_succ h) (Nat.lt_of_succ_lt_succ h')
section
variable {X:Cx}
def zMN:zB6 X (.type "str") (λxs H Q=>(∃i,xs=[.int i]/\i.natAbs.log2 < 1920/\Q (.str (toString i)) H)∨∃z,xs=[.str z]/\Q (.str z) H):=by
 intro pins s σ H xs us Q I r h;rcases h with ⟨i,a,b,c⟩ | ⟨z,rfl,q⟩
 ·exact zHn pins s σ H xs us Q I r ⟨i,a,b,c⟩
 obtain⟨u,rfl,ru⟩:=r.one;obtain⟨t,rfl⟩:=ru;exact P.str_of_str ⟨.str z,H,I,⟨_,rfl⟩,q⟩
inductive RIndex (K:W.Frag) (x:V) (vs:List V) (H:Hp) (Q:VK):Prop
 | mk (l:Addr) (ns:List Str) (n:Str):(x=.ref l)->(vs=[.str n])->(SqL K H l (ns.map V.str))->(n∈ns)->(Q (.int (ns.idxOf n:Nat)) H)->RIndex K x vs H Q
def zNf (K:W.Frag):V->List V->Hp->VK->Prop:=λx vs H Q=>RIndex K x vs H Q
def zM0:MtR X "list.index" (zNf X.K):=by
 intro pins s σ H x vs v us Q I rx rv h;obtain⟨l,ns,n,rfl,rfl,hS,hn,q⟩:=h;cases rx;obtain⟨u,rfl,ru⟩:=rv.one;obtain⟨tu,rfl⟩:=ru;obtain⟨its,r,pl,hz⟩:=I.list hS;have ia:StrsAre its ns:=zH8 r;have aF:its.length=ns.length:=by rw[← r.length,wGX]
 obtain⟨⟨cls,dd,data,sl⟩,ho,hc,nn,hd⟩:=id pl.isList;simp only at hc hd;subst hc hd;have hj:ns.idxOf n < ns.length:=List.idxOf_lt_length_iff.mpr hn;rw[wGX] at hz;have hs:sizeLine=16777216:=sizeLine_eq;refine call_meets F.slot_list_index ⟨_,ho,rfl⟩ F.entry_list_index (F.args_list_index_2 _ _)
  (PySem.SeqAt.list_indexAt l its.toArray nn dd sl (.str n tu) (isStrOf n) (ns.idxOf n) (by simpa [aF] using hj) ∅ ?_ ?_) ⟨ho,λy hy=>(eq_isStrOf n tu ia y (by simpa using hy)).at _ _,⟨.int _,H,I.tok _,⟨_,rfl⟩,q⟩⟩
 ·show isStrOf n its[ns.idxOf n]=true;rw[zFJ n ia _ ∅ hj];simpa using List.getElem_idxOf hj
 intro j hjs aD;show isStrOf n its[j]=false;rw[zFJ n ia j (by simpa using hjs) ∅];have:=List.not_of_lt_findIdx (p:=(· == n)) (xs:=ns) (i:=j) aD;simpa using this
def zEN (K:W.Frag) (h:X.K=K:=by rfl):MtR X "list.index" (zNf K):=by subst h;exact zM0
end
def zEK {i:Int} (h:i.natAbs < 10 ^ 60):(Str.ofString (toString i)).length<=1000:=by
 by_cases c:0<=i
 ·obtain⟨m,rfl⟩:=Int.eq_ofNat_of_zero_le c;rw[zOJ,zCM];exact wHe (zLl 59 m ∅) ⋯
 obtain⟨m,hm⟩:=Int.eq_ofNat_of_zero_le (show 0<=-i by omega);have:i=-((m:Nat):Int):=by omega
 rw[this,zQl ∅,zCM];have:=zLl 59 m ∅;show _+1<=_;omega
def zO1 {i:Int} (h:i.natAbs < 10 ^ 60):i.natAbs.log2 < 1920:=by
 have k:(10:Nat) ^ 60 < 2 ^ 1920:=by nofun
 generalize i.natAbs=j at h;by_cases z:j=0
 ·rw[z];exact (by decide:Nat.log2 0 < 1920)
 exact (Nat.log2_lt z).mpr (Nat.lt_trans h k)
def zIB (n:Str):((n.cps.toList.map zKX).all id)=true↔∀c∈n.cps.toList,97<=c/\c<=122:=by
 rw[List.all_eq_true];constructor
 ·intro h c hc;exact (zHe c).mp (h _ (List.mem_map.mpr ⟨c,hc,rfl⟩))
 intro h b hb;obtain⟨c,hc,rfl⟩:=List.mem_map.mp hb;exact (zHe c).mpr (h c hc)
def zI8 (x:Str):tx x.cps.toList=x:=(zIf x).symm
def Deed.Ok:Deed->Prop
 | .house n=>zFF n
 | .pact g u p f l=>zFF g/\zFF u/\p.natAbs < 10 ^ 60/\f.natAbs < 10 ^ 60/\l.natAbs < 10 ^ 60
 | .loss h y a=>zFF h/\y.natAbs < 10 ^ 60/\a.natAbs < 10 ^ 60
def wOf:V->Str
 | .int i=>Str.ofString (toString i)
 | .str z=>z
 | _=>Str.empty
def Deed.words (d:Deed):List Str:=d.vs.map wOf
def Deed.row (d:Deed):Str:=Str.join (Str.ofString " ") d.words
def WOk (x:V):Prop:=(∃i,x=.int i/\i.natAbs < 10 ^ 60)∨∃z,x=.str z/\z.length<=1000
def zNF (d:Deed):d.tag.length<=1000:=by
 cases d
 ·exact (by nofun:(Str.ofString "house").length<=1000)
 ·exact (by nofun:(Str.ofString "pact").length<=1000)
 exact (by nofun:(Str.ofString "loss").length<=1000)
def Deed.Ok.words {d:Deed} (h:d.Ok):∀x∈d.vs,WOk x:=by
 intro x hx;unfold Deed.vs at hx;rcases wIn hx with z | hx
 ·refine .inr ⟨_,z,?_⟩;exact zNF d
 cases d with
 | house n=>simp only[Deed.rest,List.mem_singleton] at hx;exact .inr ⟨n,hx,h.2⟩
 | pact g u p f l=>
  simp only[Deed.rest,wHN,wHE,or_false] at hx;rcases hx with z | z | z | z | z
  ·exact .inr ⟨_,z,h.1.2⟩
  ·exact .inr ⟨_,z,h.2.1.2⟩
  ·exact .inl ⟨_,z,h.2.2.1⟩
  ·exact .inl ⟨_,z,h.2.2.2.1⟩
  exact .inl ⟨_,z,h.2.2.2.2⟩
 | loss g u p=>
  simp only[Deed.rest,wHN,wHE,or_false] at hx;rcases hx with z | z | z
  ·exact .inr ⟨_,z,h.1.2⟩
  ·exact .inl ⟨_,z,h.2.1⟩
  exact .inl ⟨_,z,h.2.2⟩
def WOk.len {x:V} (h:WOk x):(wOf x).length<=1000:=by
 rcases h with ⟨i,rfl,hi⟩ | ⟨z,rfl,hz⟩
 ·exact zEK hi
 exact hz
def zPd (d:Deed):d.vs.length<=6:=by cases d<;>(show _<=_;simp[Deed.vs,Deed.rest])
theorem zIx:∀ls:List Str,(∀l∈ls,l.length<=1000)->(ls.map (·.length)).sum<=ls.length*1000
 | [],_=>wG5 _
 | x::r,h=>by have h1:=h x wH4;have h2:=zIx r λl hl=>h l (wHR _ hl);rw[wHW,List.sum_cons,wHZ];omega
def zAe (H:Hp) (l:Addr) (yss:List (List V)):Prop:=∃q:List Addr,H l=some (.lst (q.map V.ref))/\q.length=yss.length/\∀(i:Nat) (a:Addr) (ys:List V),q[i]?=some a->yss[i]?=some ys->H a=some (.tup ys)
def zAe.same {H H':Hp} {l:Addr} {yss:List (List V)} (x:zAe H l yss) (s:zAf H H'):zAe H' l yss:=by obtain⟨q,h1,h2,h3⟩:=x;exact⟨q,s _ _ h1,h2,λi a ys e1 e2=>s _ _ (h3 i a ys e1 e2)⟩
def zAe.keep {H H':Hp} {l x:Addr} {yss:List (List V)} (y:zAe H l yss) (k:zFs x H H') (n:l≠x) (hx:∃xs,H x=some (.lst xs)):zAe H' l yss:=by obtain⟨q,h1,h2,h3⟩:=y;obtain⟨xs,hx⟩:=hx;exact⟨q,k _ _ n h1,h2,λi a ys e1 e2=>k _ _ (zBG (h3 i a ys e1 e2) hx (by intro z;cases z)) (h3 i a ys e1 e2)⟩
def zAe.nil {H:Hp} {l:Addr} (h:H l=some (.lst [])):zAe H l []:=⟨[],h,rfl,λi a ys e=>by simp at e⟩
def zAe.snoc {H:Hp} {l p:Addr} {yss:List (List V)} {ys:List V} {q:List Addr} (h1:H l=some (.lst (q.map V.ref))) (h2:q.length=yss.length)
  (h3:∀(i:Nat) (a:Addr) (ys:List V),q[i]?=some a->yss[i]?=some ys->H a=some (.tup ys)) (hp:H p=some (.tup ys)):zAe (upd H l (.lst (q.map V.ref++[V.ref p]))) l (yss++[ys]):=by
 refine⟨q++[p],by rw[zB,wG9];rfl,by rw[wG7,wG7,h2];rfl,λi a d' e1 e2=>?_⟩;have g:H a=some (.tup d'):=by
  by_cases c:i < q.length
  ·rw[wHl c] at e1;rw[wHl ∅] at e2;exact h3 i a d' e1 e2
  rw[wHj ∅] at e1;rw[wHj ∅] at e2;have z:i-q.length=0:=by have:=(wIi e1).1;rw[wHM] at this;omega
  have z2:i-yss.length=0:=by omega
  rw[z] at e1;rw[z2] at e2;cases e1;cases e2;exact hp
 rw[zO (zBG g h1 (by intro z;cases z))];exact g
def zMH (x:V) (xs:List V):zD1 (x::xs) (some 1) none=xs:=by
 show ((x::xs).drop (HT.sIx (x::xs).length 0 (some 1))).take _=xs;have e1:HT.sIx (x::xs).length 0 (some 1)=1:=by unfold HT.sIx;simp
 have e2:HT.sIx (x::xs).length (x::xs).length none=xs.length+1:=rfl;rw[e1,e2];simp
def zKJ (x:V) (xs:List V):¬(HT.sIx (x::xs).length 0 (some 1)=0/\HT.sIx (x::xs).length (x::xs).length none=(x::xs).length):=by
 have e1:HT.sIx (x::xs).length 0 (some 1)=1:=by unfold HT.sIx;simp
 rw[e1];intro z;exact absurd z.1 ⋯
def zMy {H:Hp} {C x dx l:Addr} (nx:H x=none) (nd:H dx=none) (ne:dx≠x) (hl:upd (upd H dx (.own x)) x (.ins C dx []) l=none) :
  zAD (upd (upd (upd (upd H dx (.own x)) x (.ins C dx [])) l (.lst [])) x (.ins C dx [("told",.ref l)])) C x l []/\zAf H (upd (upd (upd (upd H dx (.own x)) x (.ins C dx [])) l (.lst [])) x (.ins C dx [("told",.ref l)]))/\H l=none:=by
 have hlx:l≠x:=λz=>by rw[z,zB] at hl;cases hl
 rw[zO hlx] at hl;have hld:l≠dx:=λz=>by rw[z,zB] at hl;cases hl
 rw[zO hld] at hl;refine⟨⟨dx,[],zB,by rw[zO hlx];exact zB,rfl,λi a d e _=>by simp at e⟩,λb o e=>?_,hl⟩;rw[zO (zP e nx),zO (zP e hl),zO (zP e nx),zO (zP e nd)];exact e
def zNO {X:Cx} (K:W.Frag) (h:X.K=K:=by rfl):SlR X (zRp K):=by subst h;exact zPp
def zDi {X:Cx} (K:W.Frag) (h:X.K=K:=by rfl):SlR X (zRq K):=by subst h;exact zNN
section
variable {es:List Expr} {env:Env}
def zT {a b c p}:starEach (.BinOp a b c p::es) env=(false,eval (.BinOp a b c p) env)::starEach es env:=by rfl
def zG2 {a b p}:starEach (.UnaryOp a b p::es) env=(false,eval (.UnaryOp a b p) env)::starEach es env:=by rfl
def zA2 {a b c p}:starEach (.ListComp a b c p::es) env=(false,eval (.ListComp a b c p) env)::starEach es env:=by rfl
def zG3 {a b c p}:starEach (.Compare a b c p::es) env=(false,eval (.Compare a b c p) env)::starEach es env:=by rfl
def zR {a b c p}:starEach (.Call a b c p::es) env=(false,eval (.Call a b c p) env)::starEach es env:=by rfl
def zFh {a p}:starEach (.JoinedStr a p::es) env=(false,eval (.JoinedStr a p) env)::starEach es env:=by rfl
def zJ {a k p}:starEach (.Constant a k p::es) env=(false,eval (.Constant a k p) env)::starEach es env:=by rfl
def zCN {a b p}:starEach (.Attribute a b p::es) env=(false,eval (.Attribute a b p) env)::starEach es env:=by rfl
def zF {a b p}:starEach (.Subscript a b p::es) env=(false,eval (.Subscript a b p) env)::starEach es env:=by rfl
def zA {a p}:starEach (.Name a p::es) env=(false,eval (.Name a p) env)::starEach es env:=by rfl
def zEt {a p}:starEach (.List a p::es) env=(false,eval (.List a p) env)::starEach es env:=by rfl
def zAX {a k p}:starEach (.Tuple a k p::es) env=(false,eval (.Tuple a k p) env)::starEach es env:=by rfl
end
section
variable {X:Cx} {es:List Expr} {t:TA}
def zK1 {y1 y2:Str} {k1 k2:Nat} {p1 p2:Pos} (h:PA X es t):PA X (.Constant (.str y1) k1 p1::.Constant (.str y2) k2 p2::es) (zA0 (tC (.str y1)) (zA0 (tC (.str y2)) t)):=zI zAF (zI zAF h zJ) zJ
def zOr {y1 y2 y3:Str} {k1 k2 k3:Nat} {p1 p2 p3:Pos} (h:PA X es t):PA X (.Constant (.str y1) k1 p1::.Constant (.str y2) k2 p2::.Constant (.str y3) k3 p3::es) (zA0 (tC (.str y1)) (zA0 (tC (.str y2)) (zA0 (tC (.str y3)) t))):=zI zAF (zK1 h) zJ
def zEH {y1 y2 y3 y4 y5:Str} {k1 k2 k3 k4 k5:Nat} {p1 p2 p3 p4 p5:Pos} (h:PA X es t):PA X (.Constant (.str y1) k1 p1::.Constant (.str y2) k2 p2::.Constant (.str y3) k3 p3::.Constant (.str y4) k4 p4::.Constant (.str y5) k5 p5::es) (zA0 (tC (.str y1)) (zA0 (tC (.str y2)) (zA0 (tC (.str y3)) (zA0 (tC (.str y4)) (zA0 (tC (.str y5)) t))))):=zK1 (zOr h)
def zN {e1 e2:Expr} {t1 t2:TE} (h1:PE X e1 t1) (h2:PE X e2 t2) (h:PA X es t) (s1:starEach (e1::e2::es) X.env=(false,eval e1 X.env)::starEach (e2::es) X.env) (s2:starEach (e2::es) X.env=(false,eval e2 X.env)::starEach es X.env):PA X (e1::e2::es) (zA0 t1 (zA0 t2 t)):=zI h1 (zI h2 h s2) s1
def zZ {e1 e2 e3:Expr} {t1 t2 t3:TE} (h1:PE X e1 t1) (h2:PE X e2 t2) (h3:PE X e3 t3) (h:PA X es t) (s1:starEach (e1::e2::e3::es) X.env=(false,eval e1 X.env)::starEach (e2::e3::es) X.env) (s2:starEach (e2::e3::es) X.env=(false,eval e2 X.env)::starEach (e3::es) X.env) (s3:starEach (e3::es) X.env=(false,eval e3 X.env)::starEach es X.env):PA X (e1::e2::e3::es) (zA0 t1 (zA0 t2 (zA0 t3 t))):=zI h1 (zN h2 h3 h s2 s3) s1
end
def zRV (K:W.Frag) (xs:List Str) (v:Value):Prop:=∃b,v=.ref b/\∀H:Hp,SqT K H b (xs.map V.str)
structure KForms (P:Program) (w:World) (K:W.Frag) (d:Addr) (D:List (Str × List Str)):Prop where
 low:(d == sysModules)=false
 at_:∃us:List (Str × Value),us.map (·.1)=D.map (·.1)/\(∀x v,(x,v)∈us->∀l,(x,l)∈D->zRV K l v)/\∀h:Heap,K.In h->h.DictOf (PySem.strKind P w) d us
section
def KForms.some {P:Program} {w:World} {K:W.Frag} {d:Addr} {D:List (Str × List Str)} (_:KForms P w K d D) {us:List (Str × Value)} (hm:us.map (·.1)=D.map (·.1)) (k:Str):(valueAt us k).isSome=decide (k∈D.map (·.1)):=by
 rw[← hm];unfold valueAt;rw[Option.isSome_map];by_cases h:k∈us.map (·.1)
 ·rw[wHB h];obtain⟨p,hp,e⟩:=List.mem_map.mp h;exact List.find?_isSome.mpr ⟨p,hp,by simpa using e⟩
 rw[wHy h];rw[Option.isSome_eq_false_iff,Option.isNone_iff_eq_none];exact List.find?_eq_none.mpr λp hp=>by intro z;exact h (List.mem_map.mpr ⟨p,hp,by simpa using z⟩)
end
section
variable {X:Cx}
def zOn {y0 y1 y2 y3 y4 y5 y6 y7 y8 y9:Str} {j0 j1 j2 j3 j4 j5 j6 j7 j8 j9:Nat} {p0 p1 p2 p3 p4 p5 p6 p7 p8 p9 pos:Pos}:PE X (.List [.Constant (.str y0) j0 p0,.Constant (.str y1) j1 p1,.Constant (.str y2) j2 p2,.Constant (.str y3) j3 p3,.Constant (.str y4) j4 p4,.Constant (.str y5) j5 p5,.Constant (.str y6) j6 p6,.Constant (.str y7) j7 p7,.Constant (.str y8) j8 p8,.Constant (.str y9) j9 p9] pos) (zPl (zA0 (tC (.str y0)) (zA0 (tC (.str y1)) (zA0 (tC (.str y2)) (zA0 (tC (.str y3)) (zA0 (tC (.str y4)) (zA0 (tC (.str y5)) (zA0 (tC (.str y6)) (zA0 (tC (.str y7)) (zA0 (tC (.str y8)) (zA0 (tC (.str y9)) zJJ))))))))))):=by with_reducible exact zAk (zEH (zEH zE))
def zPH {y0 y1 y2 y3 y4:Str} {j0 j1 j2 j3 j4:Nat} {p0 p1 p2 p3 p4 pos:Pos}:PE X (.List [.Constant (.str y0) j0 p0,.Constant (.str y1) j1 p1,.Constant (.str y2) j2 p2,.Constant (.str y3) j3 p3,.Constant (.str y4) j4 p4] pos) (zPl (zA0 (tC (.str y0)) (zA0 (tC (.str y1)) (zA0 (tC (.str y2)) (zA0 (tC (.str y3)) (zA0 (tC (.str y4)) zJJ)))))):=by with_reducible exact zAk (zEH zE)
end
section
variable {X:Cx} {T:String} {name:Str} {id:String} {r:V->List V->Hp->VK->Prop} {o e:Expr} {es:List Expr} {to:TE} {t:TA} {apos aB:Pos}
def zBv (K:W.Frag) (pa:PlainAttrs T) (slot:Slot T name id) (jv:typeOf (.builtin id)=pure (.type "method_descriptor")) (hm:MtR X id r) (ho:PE X o to) (ha:PA X (e::es) t) (hK:X.K=K:=by rfl)
  (bQ:attributeBase o name X.env (eval o X.env)=eval o X.env:=by rfl)
  (gH:((backTo aB (starEach (e::es) X.env)).all (λx=>!x.1) && (backToKw aB (keywordEach [] X.env)).all (λx=>x.1.isSome)
   && decide ((e::es).length+([]:List Keyword).length+(if ([]:List Keyword).isEmpty then 0 else 1) < 30))=true:=by rfl)
  (bP:(apos.endLine == aB.line)=true:=by rfl) (hs:starEach (e::es) X.env=(false,eval e X.env)::starEach es X.env:=by rfl) (aU:(backTo aB (starEach es X.env)).any (·.1)=false:=by rfl) :
  PE X (.Call (.Attribute o name apos) (e::es) [] aB) (tBM K T r to t):=by
 subst hK;exact zOo pa slot jv hm ho ha bQ gH bP hs aU
end
def zAb {X:Cx} {tg l:Expr} {tl:TE} (K:W.Frag) (hl:PE X l tl) (h:X.K=K:=by rfl):PI X tg l (zQf K tl):=by subst h;exact zOl hl
open PySem.W (KasT)
def zMU {α:Type} (n:Nat) (lt:Nat->Nat->Bool) (P:α->Prop):KasT α->Prop
 | .ret a=>P a
 | .ask i j k=>i < n/\j < n/\zMU n lt P (k (lt i j))
theorem zMU.bind {α β:Type} {n:Nat} {lt:Nat->Nat->Bool} {P:α->Prop} {R:β->Prop} {f:α->KasT β}:∀{t:KasT α},zMU n lt P t->(∀a,P a->zMU n lt R (f a))->zMU n lt R (t.bind f)
 | .ret a,h,k=>k a h
 | .ask i j g,⟨h1,h2,h3⟩,k=>⟨h1,h2,zMU.bind h3 k⟩
theorem zMU.wp {α:Type} {n:Nat} {lt:Nat->Nat->Bool} {P:α->Prop} {cmp:Nat->Nat->(Bool->Shared->Prop)->Shared->Prop} {Q:α->Shared->Prop} {s:Shared} (hc:∀i j C,i < n->j < n->C (lt i j) s->cmp i j C s) (hq:∀a,P a->Q a s):∀{t:KasT α},zMU n lt P t->KasT.kasWp cmp t Q s
 | .ret a,h=>hq a h
 | .ask i j g,⟨h1,h2,h3⟩=>hc i j _ h1 h2 (zMU.wp hc hq h3)
structure LtOk (n:Nat) (lt:Nat->Nat->Bool):Prop where
 tr:∀a b c,a < n->b < n->c < n->lt a b=true->lt b c=true->lt a c=true
 tot:∀a b,a < n->b < n->a≠b->lt a b=false->lt b a=true
abbrev gp (p:Array Nat) (k:Nat):Nat:=p.getD k 0
def zOA {p:Array Nat} {k:Nat}:gp p k=(p[k]?).getD 0:=Array.getD_eq_getD_getElem?
def Pm.size {n:Nat} {p:Array Nat} (h:Pm n p):p.size=n:=by have:=h.length_eq;rw[wIh,wHt] at this;exact this
def Pm.inj {n:Nat} {p:Array Nat} (h:Pm n p) {i j:Nat} (hi:i < n) (hj:j < n) (e:i≠j):gp p i≠gp p j:=by
 have nd:p.toList.Nodup:=h.nodup_iff.mpr List.nodup_range;have hs:=h.size;have g:∀k,k < n->gp p k=p.toList.getD k 0:=λk hk=>by rw[zOA,wG4,wH8]
 rw[g i hi,g j hj];have hl:p.toList.length=n:=by rw[wHt];exact hs
 rw[wG4,wG4,wG0 ∅,wG0 ∅];intro z;exact e ((List.getElem_inj (h₀:=by omega) (h₁:=by omega) nd).mp z)
section
variable {n:Nat} {lt:Nat->Nat->Bool}
def Chn (lt:Nat->Nat->Bool) (p:Array Nat) (m:Nat):Prop:=∀i j,i < j->j < m->lt (gp p i) (gp p j)=true
def Chn.one (p:Array Nat):Chn lt p 1:=λi j h1 h2=>by omega
variable (L:LtOk n lt) (hn:0 < n)
include L hn
theorem Chn.snoc {p:Array Nat} (h:Pm n p) {m:Nat} (c:Chn lt p m) (h1:1<=m) (hm:m < n) (e:lt (gp p (m-1)) (gp p m)=true):Chn lt p (m+1):=λi j gF hj=>by
 by_cases z:j=m
 ·subst z;by_cases y:i=j-1
  ·subst y;exact e
  exact L.tr _ _ _ (h.lt hn _) (h.lt hn _) (h.lt hn _) (c i (j-1) ∅ ∅) e
 exact c i j gF ∅
end
def Chn.pw {n:Nat} {lt:Nat->Nat->Bool} {p:Array Nat} (h:Pm n p) (c:Chn lt p n):p.toList.Pairwise λi j=>lt i j=true:=by rw[List.pairwise_iff_getElem];intro i j hi hj gF;have hs:=h.size;rw[wHt] at hi hj;have:=c i j gF ∅;rw[zOA,zOA,wHO ∅,wHO ∅] at this;exact this
end L2
namespace L2
open PySem PySem.Spec PyProof.Rows PySem.W Builtin Builtin.ObjectAttr
def zIP:List Value->Bool
 | .ref _::r=>zIP r
 | l=>l == vEr
theorem zG0 (self:Value):∀{l:List Value},zIP l=true->refuseLoop self "__setattr__" l=pure PUnit.unit
 | .ref c::r,e=>by rw[refuseLoop_ref];exact zG0 self (show zIP r=true from e)
 | [],e=>by cases e
 | .type n::r,e=>by have z:Value.type n::r=vEr:=beq_iff_eq.mp e;rw[z];exact F.store_ValueError.passes self
 | .int ..::r,e=>by have z:=beq_iff_eq.mp (show (_ == vEr)=true from e);cases z
 | .none::r,e=>by have z:=beq_iff_eq.mp (show (_ == vEr)=true from e);cases z
 | .bool ..::r,e=>by have z:=beq_iff_eq.mp (show (_ == vEr)=true from e);cases z
 | .str ..::r,e=>by have z:=beq_iff_eq.mp (show (_ == vEr)=true from e);cases z
 | .builtin ..::r,e=>by have z:=beq_iff_eq.mp (show (_ == vEr)=true from e);cases z
theorem zMW:∀{l:List Value},zIP l=true->l.contains (.type "object")=true
 | .ref c::r,e=>by rw[List.contains_cons,zMW (show zIP r=true from e),Bool.or_true]
 | [],e=>by cases e
 | .type n::r,e=>by rw[show Value.type n::r=vEr from beq_iff_eq.mp e];rfl
 | .int ..::r,e=>by have z:=beq_iff_eq.mp (show (_ == vEr)=true from e);cases z
 | .none::r,e=>by have z:=beq_iff_eq.mp (show (_ == vEr)=true from e);cases z
 | .bool ..::r,e=>by have z:=beq_iff_eq.mp (show (_ == vEr)=true from e);cases z
 | .str ..::r,e=>by have z:=beq_iff_eq.mp (show (_ == vEr)=true from e);cases z
 | .builtin ..::r,e=>by have z:=beq_iff_eq.mp (show (_ == vEr)=true from e);cases z
def zQ3 (K:W.Frag) (C:Addr):Bool:=(clsIn K C).any λcd=>zIP cd.mro
section
variable {prog:Program} {w:World} {A:Around} {E:Value->Shared->Prop} {s:Shared} {K:W.Frag} {x C:Addr} {oe:Obj} {name:Str} {v:Value} {tk:Tok}
def zN8 {Q:PySem.Fin->Shared->Prop} {b:Bool} (X:K.In s.heap) (hh:hasDictIn K C=true) (hx:s.heap.get? x=some oe) (hc:oe.cls=.ref C) {vs:Array Value} (eD:oe.data=.fields vs) (hd:oe.dict=none)
  (h:∀h' fk,(∀b o,b≠x->s.heap.get? b=some o->h'.get? b=some o)->h'.get? x=some { oe with dict:=some s.heap.objs.size }->h'.Ns1 s.heap.objs.size (λy=>if y=name then some v else none)->Q (.done (.ret .none)) { s with heap:=h',toks:=fk }) :
  wpAny (model prog w) A (storeInOwnDict (.ref x) (.ref C) (.str name tk) name v b) Q E s:=by
 obtain⟨cd,aQ,bY⟩:=any_some hh;refine wGY (wG2 (wGY (wGY (wpAny_loadPart hx ?_))));rw[hc];refine wGY ((looks_clsIn X aQ).here ?_);rw[bY,wGZ ⋯];dsimp only;rw[hd];dsimp only;rw[wGZ (by simp[typeHasDict])];rw[eD];dsimp only;have hs:x≠s.heap.objs.size:=wHg (wHa hx);have dZ:(s.heap.push { cls:=.type "dict",data:=.dict #[] }).get? x=some oe:=wG3 _ hx;refine wGY (wpAny_alloc' (wGY (wpAny_update' dZ (wG2 ?_))));dsimp only;obtain⟨h1,lu⟩:∃h1,h1=(s.heap.push { cls:=.type "dict",data:=.dict #[] }).update x λo=>{ cls:=o.cls,dict:=some s.heap.objs.size,data:=o.data,slots:=o.slots }:=⟨_,rfl⟩;rw[← lu];have gd:h1.get? s.heap.objs.size=some { cls:=.type "dict",data:=.dict #[] }:=by rw[lu];exact (wHu _ _ hs).trans (wHb _ rfl)
 have gx:h1.get? x=some { oe with dict:=some s.heap.objs.size }:=by
  rw[lu];refine wHS _ dZ ?_;obtain⟨c,d,dt,sl⟩:=oe;cases eD
  rfl
 have gk:∀b o,b≠x->s.heap.get? b=some o->h1.get? b=some o:=λb o n e=>by rw[lu];exact (wHu _ _ (Ne.symm n)).trans (wG3 _ e)
 have nd:h1.Ns1 s.heap.objs.size λ_=>none:=Heap.Ns1.of_empty ⟨_,#[],_,gd,rfl,λe he=>absurd he (by simp),λ_=>rfl⟩;unfold storeInDict newKeyGuard;refine wGY (wG2 (wGY (wpAny_nsSet1 (s:={ s with heap:=h1 }) nd λh2 n2 sb=>?_)));obtain⟨oD,esD,epD,jC,jM,jO⟩:=n2.count (PySem.Within.cons name v PySem.Within.nil);refine wGY (wpAny_lookBehind jC (by rw[jM];exact pastItsLine_dict (wHe jO (by rw[wHZ,List.length_nil,sizeLine_eq];omega))) ?_);exact wG2 (h h2 _ (λb o n e=>(sb.2 b (wHg (wHa e))).trans (gk b o n e)) ((sb.2 x hs).trans gx) n2)
def zN7 {Q:PySem.Fin->Shared->Prop} {b:Bool} {dx:Addr} {mA:Str->Option Value} {ns:List Str} (X:K.In s.heap) (hh:hasDictIn K C=true) (hx:s.heap.get? x=some oe) (hc:oe.cls=.ref C) (hd:oe.dict=some dx) (hn:s.heap.Ns1 dx mA) (hw:PySem.Within mA ns) (hz:ns.length<=1000)
  (h:∀h' fk,(∀b o,b≠dx->s.heap.get? b=some o->h'.get? b=some o)->h'.Ns1 dx (λy=>if y=name then some v else mA y)->Q (.done (.ret .none)) { s with heap:=h',toks:=fk }) :
  wpAny (model prog w) A (storeInOwnDict (.ref x) (.ref C) (.str name tk) name v b) Q E s:=by
 obtain⟨cd,aQ,bY⟩:=any_some hh;refine wGY (wG2 (wGY (wGY (wpAny_loadPart hx ?_))));rw[hc];refine wGY ((looks_clsIn X aQ).here ?_);rw[bY,wGZ ⋯];dsimp only;rw[hd];refine wG2 ?_;dsimp only;unfold storeInDict newKeyGuard;refine wGY (wG2 (wGY (wpAny_nsSet1 hn λh2 n2 sb=>?_)));obtain⟨oD,esD,epD,jC,jM,jO⟩:=n2.count (PySem.Within.cons name v hw);refine wGY (wpAny_lookBehind jC (by rw[jM];exact pastItsLine_dict (wHe jO (by rw[wHZ,sizeLine_eq];omega))) ?_);exact wG2 (h h2 _ (λb o n e=>(sb.2 b n).trans e) n2)
def zIt {Q:Unit->Shared->Prop} (X:K.In s.heap) {od:Option Obj} (I:InstAt s.heap x oe C od) (hv:zQ3 K C=true) (hs:findIn K (.ref C) "__setattr__"=some (some (.builtin "object.__setattr__"))) (ht:findIn K (.ref C) name=some none)
  (h:∀A' b,wpAny (model prog w) A' (storeInOwnDict (.ref x) (.ref C) (.str name s.toks) name v b) (λfin s'=>fin=.done (.ret .none)/\Q PUnit.unit s') (λ_ _=>False) { s with toks:=s.toks+1 }) :
  wpAny (model prog w) A (setAttr (.ref x) name v) Q E s:=by
 refine set_plain X I hs ?_;have SF:=F.store_object;obtain⟨cd,hc,ho⟩:=any_some hv;have ne:cd.mro.isEmpty=false:=by
  cases q:cd.mro with
  | nil=>rw[q] at ho;cases ho
  | cons _ _=>rfl
 have J:K.In ({ s with toks:=s.toks+1 }:Shared).heap:=X;have sub:Looks (model prog w) s.heap (isInstance (.ref x) (.type "object")) true:=I.type.andThen (looks_mroIn X (by unfold mroIn;rw[hc,Option.bind_some,wGZ (by rw[ne];decide),zMW ho]));refine codeAny_call_builtin SF.slot.plain SF.entry (@check_slot (model prog w) _ _ { s with toks:=s.toks+1 } "object.__setattr__" "object" "__setattr__" (.ref x) [.str name s.toks,v] [] _ SF.kind SF.split sub (SF.args (.ref x) (.str name s.toks) v) ?_);have hm:Looks (model prog w) s.heap (mroOf (.ref C)) cd.mro:=(looks_clsIn X hc).andThen .now;rw[osa_eq,refuse_eq];refine wGY (wGY (I.type.here (s:={ s with toks:=s.toks+1 }) (wGY (hm.here (s:={ s with toks:=s.toks+1 }) ?_))));rw[zG0 _ ho];refine wG2 (wGY (I.type.here (s:={ s with toks:=s.toks+1 }) (wGY ((looks_findIn X ht).here (s:={ s with toks:=s.toks+1 }) (wGY (wG2 ?_))))));dsimp only;refine wHq (h _ _) (λfin s' z=>?_) λ_ _ z=>z.elim;obtain⟨rfl,q⟩:=z;exact q
end
end L2
namespace L2
open PySem PySem.Spec PyProof.Rows PySem.W
def zDd (e:Addr) (cls:Value) (dd:Option Addr):HO:=.ext λh=>∃oe vs,h.get? e=some oe/\oe.cls=cls/\oe.dict=dd/\oe.data=.fields vs/\vs[1]?=some .none/\vs[2]?=some .none
def XdN (a:Addr) (fs:List (Str × V)):HO:=.ext λh=>∃mA,h.Ns1 a mA/\∀f,zH1 (fs.lookup f) (mA f)
section
variable {P:Program} {w:World} {H:Hp} {h:Heap} {e:Addr} {cls:Value} {dd:Option Addr} {fs:List (Str × V)}
def zDd.mk {oe:Obj} {vs:Array Value} (a:h.get? e=some oe) (b:oe.cls=cls) (c:oe.dict=dd) (d:oe.data=.fields vs) (h1:vs[1]?=some .none) (h2:vs[2]?=some .none):ObjOk P w H h e (zDd e cls dd):=
 ⟨⟨oe,vs,a,b,c,d,h1,h2⟩,⟨oe,a⟩,λ_ _ ⟨oe,vs,q,r⟩ k=>⟨oe,vs,k _ q,r⟩⟩
def zDd.get (x:HOk P w H h) (q:H e=some (zDd e cls dd)):∃oe vs,h.get? e=some oe/\oe.cls=cls/\oe.dict=dd/\oe.data=.fields vs/\vs[1]?=some .none/\vs[2]?=some .none:=(x e _ q).1
def XdN.mk {mA:Str->Option Value} (n:h.Ns1 e mA) (r:∀f,zH1 (fs.lookup f) (mA f)):ObjOk P w H h e (XdN e fs):=
 ⟨⟨mA,n,r⟩,let ⟨o,_,_,q,_⟩:=n;⟨o,q⟩,λ_ _ ⟨mA,n,r⟩ k=>⟨mA,n.at k,r⟩⟩
def XdN.get (x:HOk P w H h) (q:H e=some (XdN e fs)):∃mA,h.Ns1 e mA/\∀f,zH1 (fs.lookup f) (mA f):=(x e _ q).1
end
structure XF (K:W.Frag) (C:Addr) (f:Str):Prop where
 ve:zQ3 K C=true
 hd:hasDictIn K C=true
 sa:findIn K (.ref C) "__setattr__"=some (some (.builtin "object.__setattr__"))
 no:findIn K (.ref C) f=some none
theorem mem_of_lookup {g:Str} {v:V}:∀{fs:List (Str × V)},fs.lookup g=some v->g∈fs.map (·.1)
 | [],q=>by cases q
 | (a,b)::r,q=>by
  by_cases z:g=a
  ·exact z ▸ wH4
  have hb:(g == a)=false:=beq_eq_false_iff_ne.mpr z;simp only[List.lookup,hb] at q;exact wHR _ (mem_of_lookup q)
def zH1.none_at {o:Option Value} (r:zH1 none o):o=none:=by
 cases o with
 | none=>rfl
 | some v=>exact absurd r (by intro z;exact z)
section
variable {X:Cx} {pins:List (Addr × Obj)} {σ:St} {H:Hp} {s:Shared} {E:Value->Shared->Prop} {A:Around} {x C:Addr} {f:Str} {y:V} {u:Value}
def zLP {Q:Unit->Shared->Prop} (I:Inv X pins σ H s) (e:H x=some (zDd x (.ref C) none)) (k:XF X.K C f) (ry:zBl y u)
  (h:∀s' dx,H dx=none->dx≠x->Inv X pins σ (upd (upd H x (zDd x (.ref C) (some dx))) dx (XdN dx [(f,y)])) s'->Q PUnit.unit s'):wpAny (model X.prog X.w) A (setAttr (.ref x) f u) Q E s:=by
 obtain⟨oe,vs,hx,hc,hd,eD,h1,h2⟩:=zDd.get I.hok e;have J:InstAt s.heap x oe C none:=⟨hx,hc,by unfold notCls;rw[eD],by rw[hd];trivial⟩;refine zIt I.kIn J k.ve k.sa k.no λA' b=>zN8 (s:={ s with toks:=s.toks+1 }) I.kIn k.hd hx hc eD hd λh' fk keep nG hn=>⟨rfl,?_⟩;have nd:s.heap.get? s.heap.objs.size=none:=wIe (wG5 _);have nH:H s.heap.objs.size=none:=I.hok.fresh (wG5 _);have ne:s.heap.objs.size≠x:=λz=>by rw[z,hx] at nd;cases nd
 refine h _ s.heap.objs.size nH ne ?_;have mu:Mut (H x):=by rw[e];exact True.intro
 have n':upd H x (zDd x (.ref C) (some s.heap.objs.size)) s.heap.objs.size=none:=by rw[zO ne];exact nH
 refine I.call' (s':={ s with heap:=h',toks:=fk }) (ch:=[]) rfl ((Un.write mu (.inl rfl) (λb o n q=>keep b o n q) ⟨_,nG⟩).put nd n') ((I.hok.write mu (.inl rfl) (λb o n q=>keep b o n q) ⟨_,nG⟩ (zDd.mk nG hc rfl eD h1 h2)).put n' (XdN.mk hn λg=>?_)) I.bare λb z=>nomatch z
 show zH1 (List.lookup g [(f,y)]) (if g=f then some u else none);by_cases q:g=f
 ·rw[wG1 q,q];simp only[List.lookup,beq_self_eq_true];exact ry
 rw[wGZ q];have hb:(g == f)=false:=beq_eq_false_iff_ne.mpr q;simp only[List.lookup,hb]
 trivial
def zLO {Q:Unit->Shared->Prop} {dx:Addr} {fs:List (Str × V)} (I:Inv X pins σ H s) (e:H x=some (zDd x (.ref C) (some dx))) (ed:H dx=some (XdN dx fs)) (hz:fs.length<=1000) (k:XF X.K C f) (ry:zBl y u)
  (h:∀s',Inv X pins σ (upd H dx (XdN dx ((f,y)::fs))) s'->Q PUnit.unit s'):wpAny (model X.prog X.w) A (setAttr (.ref x) f u) Q E s:=by
 obtain⟨oe,vs,hx,hc,hd,eD,h1,h2⟩:=zDd.get I.hok e;obtain⟨mA,hn,hr⟩:=XdN.get I.hok ed;obtain⟨od,_,_,hod,_⟩:=id hn;have J:InstAt s.heap x oe C (some od):=⟨hx,hc,by unfold notCls;rw[eD],by rw[hd];exact hod⟩;have wi:PySem.Within mA (fs.map (·.1)):=λg hg=>by
  cases q:fs.lookup g with
  | none=>have:=hr g;rw[q] at this;exact absurd (zH1.none_at this) hg
  | some v=>
   exact mem_of_lookup q
 refine zIt I.kIn J k.ve k.sa k.no λA' b=>zN7 (s:={ s with toks:=s.toks+1 }) I.kIn k.hd hx hc hd hn wi (by rw[wGX];exact hz) λh' fk keep iG=>⟨rfl,h _ ?_⟩;have mu:Mut (H dx):=by rw[ed];exact True.intro
 obtain⟨od',_,_,nW,_⟩:=id iG;refine I.write (t':=fk) mu (.inl rfl) (λb o n q=>keep b o n q) ⟨_,nW⟩ (XdN.mk iG λg=>?_);by_cases q:g=f
 ·rw[wG1 q,q];simp only[List.lookup,beq_self_eq_true];exact ry
 rw[wGZ q];have hb:(g == f)=false:=beq_eq_false_iff_ne.mpr q;simp only[List.lookup,hb];exact hr g
end
end L2
namespace L2
open PySem PySem.Spec PyProof.Rows PySem.W
def zFo (K:W.Frag) (C:Addr) (below:List Value) (made:String):Bool:=
 (K.lookup C).any λo=>o.cls == .type "type" && (match o.data,o.slots.toList with
  | .cls c,[_,_,_,_,some (.builtin m),_]=>(match c.mro with
   | v::r=>v == .ref C && m == made && !c.hasDel && tailIn K below r
   | []=>false)
  | _,_=>false)
def zEW {K:W.Frag} {h:Heap} {C:Addr} {below:List Value} {made:String} (X:K.In h) (q:zFo K C below made=true) :
  ∃tl ns nm qn bs hd sn sub ab col dd k0 k1 k2 k3 k5,h.get? C=some (excClassObj nm qn C ns bs tl hd sn sub ab col dd k0 k1 k2 k3 k5 made)/\OwnTail h below tl:=by
 unfold zFo at q;obtain⟨o,ho,q⟩:=any_some q;obtain⟨oc,dd,dt,sl⟩:=o;rw[wHw,beq_iff_eq] at q;obtain⟨q0,q⟩:=q;dsimp only at q0 q;subst q0
 split at q
 ·rename_i c k0 k1 k2 k3 m k5 hs
  obtain⟨nm,bs,mro,ns,qn,hd,sn,sub,ab,col,del⟩:=c;dsimp only at q
  split at q
  ·rename_i v r
   simp only[wHw,beq_iff_eq,Bool.not_eq_true'] at q;obtain⟨⟨⟨rfl,rfl⟩,rfl⟩,ht⟩:=q;have iE:sl=#[k0,k1,k2,k3,some (.builtin m),k5]:=Array.toList_inj.mp hs;subst iE;exact⟨r,ns,nm,qn,bs,hd,sn,sub,ab,col,dd,k0,k1,k2,k3,k5,X _ _ ho,W.tail_of_in X ht⟩
  cases q
 cases q
section
variable {prog:Program} {w:World} {A:Around} {E:Value->Shared->Prop} {s:Shared} {K:W.Frag} {e C:Addr} {text:Value}
def zKZ {oe:Obj} {vs:Array Value} {Q:Value->Shared->Prop} (X:K.In s.heap) (hx:zFo K C vEr "ValueError.__new__"=true) (he:s.heap.get? e=some oe) (hc:oe.cls=.ref C) (hd:oe.data=.fields vs) (hv:2 < vs.size)
  (h:∀h' t,(∀b o,b≠e->s.heap.get? b=some o->h'.get? b=some o)->h'.get? e=some { oe with data:=.fields (vs.setIfInBounds 0 t) }->Q .none { s with heap:=h' }) :
  wpAny (model prog w) A (call (.builtin "ValueError.__init__") [.ref e,text]) Q E s:=by
 obtain⟨tl,ns,nm,qn,bs,iK,sn,sub,ab,col,dd,k0,k1,k2,k3,k5,hC,T⟩:=zEW X hx;have F:=F.excBase_ValueError;obtain⟨hh,g,dr,t,os⟩:=s;refine wpAny_call (codeAny_call_builtin F.init.plain F.initEntry (wpAny_check_init_subT F T hC he hc ?_))
 wp_walk
 rw[hd]
 wp_walk
 obtain⟨x0,nF⟩:∃x0,vs[0]?=some x0:=⟨_,wHO ∅⟩;rw[nF];refine wG2 (wGY ?_);have he':(hh.push { cls:=.type "tuple",data:=.seq #[text] }).get? e=some oe:=wG3 _ he;have hee:e≠hh.objs.size:=wHg (wHa he);refine wpAny_setField he' hd ∅ ?_;have fin:∀{Q':Unit->Shared->Prop} {E':Value->Shared->Prop} {s':Shared},Q' PUnit.unit s'->wpAny (model prog w) A.in1 (match x0 with | .ref _=>letGo [x0] | _=>pure PUnit.unit) Q' E' s':=λq=>by cases x0<;>first | exact wG2 q | exact wpAny_letGo q
 refine fin (wG2 ?_);refine h _ (.ref hh.objs.size) (λb o n q=>(wHu _ _ (Ne.symm n)).trans (wG3 _ q)) ?_;refine (wHS _ he' (Obj.isFreed_of_fields (Obj.data_mapFields hd _))).trans ?_;obtain⟨c,d,dt,sl⟩:=oe;cases hd
 rfl
def zM4 {f:Addr} {rest:List Value} {Q:PySem.Fin->Shared->Prop} (X:K.In s.heap) (hx:zFo K C vEr "ValueError.__new__"=true) (hi:findIn K (.ref C) "__init__"=some (some (.ref f))) (hf:typeIn K (.ref f)=some (.type "function")) (hm:mroIn K C (.ref C)=some true) (hz:rest.length<=sizeLine)
  (h:∀h' e,Heap.MadeExcOf s.heap h' e (.ref C) rest->wpAny (model prog w) A (call (.ref f) (.ref e::rest)) (λr s'=>r=.none/\Q (.done (.ret (.ref e))) s') E { s with heap:=h' }) :
  wpAny (model prog w) A (Builtin.«type.__call__» ⟨.ref C::rest,[]⟩) Q E s:=by
 obtain⟨tl,ns,nm,qn,bs,iK,sn,sub,ab,col,dd,k0,k1,k2,k3,k5,hC,T⟩:=zEW X hx;have F:=F.excBase_ValueError;obtain⟨hh,g,dr,t,os⟩:=s
 repeat (first | with_reducible refine wpAny_loadPart_at hC ?_ | with_reducible refine wpAny_madeBy_exc hC ?_ | wp_step)
 refine codeAny_call_builtin_code (Code.quiet_builtin _ F.quiet) (wpAny_check_new_subT F T hC ?_);refine codeAny_exc_new_subT F T hC ?_ hz;obtain⟨h1,e1⟩:∃h1,h1=(hh.push { cls:=.type "tuple",data:=.seq rest.toArray }).push { cls:=.ref C,data:=.fields #[.ref hh.objs.size,.none,.none,.none,.bool false,.none] }:=⟨_,rfl⟩;have kp:∀b o,hh.get? b=some o->h1.get? b=some o:=λb o q=>by rw[e1];exact wG3 _ (wG3 _ q)
 have ge:h1.get? (hh.objs.size+1)=some { cls:=.ref C,data:=.fields #[.ref hh.objs.size,.none,.none,.none,.bool false,.none] }:=by have:=wHb (hh.push { cls:=.type "tuple",data:=.seq rest.toArray }) (o:={ cls:=.ref C,data:=.fields #[.ref hh.objs.size,.none,.none,.none,.bool false,.none] }) rfl;rw[wHT] at this;rw[e1];exact this
 have gt:h1.get? hh.objs.size=some { cls:=.type "tuple",data:=.seq rest.toArray }:=by rw[e1];exact wG3 _ (wHb _ rfl)
 have X1:K.In h1:=λb o q=>kp b o (X b o q);have C1:=kp _ _ hC;show wpAny _ _ _ _ _ _;rw[← e1];have I:InstAt h1 (hh.objs.size+1) { cls:=.ref C,data:=.fields #[.ref hh.objs.size,.none,.none,.none,.bool false,.none] } C none:=⟨ge,rfl,rfl,trivial⟩;have L:Looks (model prog w) h1 (isInstance (.ref (hh.objs.size+1)) (.ref C)) true:=I.type.andThen (looks_mroIn X1 hm);refine wGY (L.here (s:=⟨h1,g,dr,t,os⟩) ?_);rw[wGZ ⋯];refine wGY (wHQ (special_fn (s:=⟨h1,g,dr,t,os⟩) X1 I hi hf ?_));refine wHq (h h1 (hh.objs.size+1) ⟨kp,wIe (Nat.le_succ _),hh.objs.size,ge,wIe (wG5 _),gt⟩) (λr s' z=>?_) λ_ _ z=>z;obtain⟨rfl,q⟩:=z;dsimp only;rw[wGZ (by simp)];exact wG2 q
def zMP {f:Addr} {rest:List Value} {Q:Value->Shared->Prop} (X:K.In s.heap) (hx:zFo K C vEr "ValueError.__new__"=true) (hi:findIn K (.ref C) "__init__"=some (some (.ref f))) (hf:typeIn K (.ref f)=some (.type "function")) (hm:mroIn K C (.ref C)=some true) (hz:rest.length<=sizeLine)
  (h:∀h' e,Heap.MadeExcOf s.heap h' e (.ref C) rest->wpAny (model prog w) (A.under (.builtin "type.__call__" ⟨.ref C::rest,[]⟩)) (call (.ref f) (.ref e::rest)) (λr s'=>r=.none/\Q (.ref e) s') E { s with heap:=h' }) :
  wpAny (model prog w) A (call (.ref C) rest) Q E s:=by
 obtain⟨tl,ns,nm,qn,bs,iK,sn,sub,ab,col,dd,k0,k1,k2,k3,k5,hC,T⟩:=zEW X hx;obtain⟨hh,g,dr,t,os⟩:=s;have f1:=tc_lookup;have f2:=tc_bind (.ref C);have hT:(⟨hh,g,dr,t,os⟩:Shared).TypeIs (.ref C) "type":=⟨_,hC,rfl⟩;refine wpAny_call (codeAny_of_tree ?_);show wpAny _ _ (callAny (.ref C) _) _ _ _
 repeat (any_goals (first | assumption | with_reducible refine wpAny_loadPart_at hC ?_ | wp_step))
 refine⟨rfl,codeAny_call_builtin_at (Code.quiet_builtin _ (by nofun)) entry_typeCall (wpAny_check_type_call_sub hC (zM4 X hx hi hf hm hz λh' e mk=>?_))⟩;exact h h' e mk
end
section
variable {M:Model} {A:Around} {E:Value->Shared->Prop} {env:Env} {s:Shared} {x:Sem Value} {K:W.Frag} {C:Addr}
def zJc {Q:Flow->Shared->Prop} (hh:A.handled=none)
  (hx:zFo K C vEr "ValueError.__new__"=true)
  (h:wpAny M A x (λv s1=>∃e oe vs,v=.ref e/\K.In s1.heap/\s1.heap.get? e=some oe/\oe.cls=.ref C/\oe.data=.fields vs/\vs[1]?=some .none/\E (.ref e) s1) E s) :
  wpAny M A (raiseStmt env (some x) none) Q E s:=by
 unfold raiseStmt;refine wGY (wHq h (λv s1 h1=>?_) λ_ _ z=>z);obtain⟨e,oe,vs,rfl,X,he,hc,hd,h1,hE⟩:=h1;obtain⟨tl,ns,nm,qn,bs,iK,sn,sub,ab,col,dd,k0,k1,k2,k3,k5,hC,T⟩:=zEW X hx;have hcB:(Value.ref C::tl).contains (.type "BaseException")=true:=by rw[List.contains_cons,T.hasType (b:=true) rfl,Bool.or_true]
 obtain⟨hp,g,d,tk,os⟩:=s1
 repeat (first | (with_reducible refine wpAny_loadPart_at he ?_;rw[hc]) | with_reducible refine wpAny_loadPart_at hC ?_ | (with_reducible refine wpAny_isSubtype_exc hC ?_;rw[hcB]) | wp_step)
 rw[hd];refine wG2 ?_;rw[h1];refine wG2 ?_;rw[wGZ (by simp)];exact wG2 (wpAny_raiseNew_none hh hE)
end
section
variable {prog:Program} {w:World} {A:Around} {E:Value->Shared->Prop} {env:Env} {s:Shared} {K:W.Frag} {C f:Addr} {n:Str} {np aB pos:Pos} {args:List Expr}
def zFp {Q:Flow->Shared->Prop} (hh:A.handled=none) (aU:(backTo aB (starEach args env)).any (·.1)=false) (hx:zFo K C vEr "ValueError.__new__"=true) (hi:findIn K (.ref C) "__init__"=some (some (.ref f))) (hf:typeIn K (.ref f)=some (.type "function")) (hm:mroIn K C (.ref C)=some true)
  (h:wpAny (model prog w) A (eval (.Name n np) env) (λv s1=>v=.ref C/\wpAny (model prog w) A (evalArgs (.ref C) true (backTo aB (starEach args env)) []) (λa s2=>a.kw=[]/\a.pos.length<=sizeLine/\K.In s2.heap/\
   ∀h' e,Heap.MadeExcOf s2.heap h' e (.ref C) a.pos->wpAny (model prog w) (A.under (.builtin "type.__call__" ⟨.ref C::a.pos,[]⟩)) (call (.ref f) (.ref e::a.pos)) (λr s3=>r=.none/\∃oe vs,K.In s3.heap/\s3.heap.get? e=some oe/\oe.cls=.ref C/\oe.data=.fields vs/\vs[1]?=some .none/\E (.ref e) s3) E { s2 with heap:=h' }) E s1) E s) :
  wpAny (model prog w) A (exec (.Raise (some (.Call (.Name n np) args [] aB)) none pos) env) Q E s:=by
 rw[arm_exec_Raise];refine wGY (wpAny_standAt (zJc (K:=K) (C:=C) hh hx ?_));refine wGY (wHq (wpAny_Call_ofName (wHq h (λv s1 h1=>?_) λ_ _ z=>z)) (λv s3 h3=>wGY (wpAny_standAt (wG2 h3))) λ_ _ z=>z);obtain⟨rfl,h1⟩:=h1;unfold callWith;refine wGY (wHQ (wHq h1 (λa s2 h2=>wGY (wpAny_standAt ?_)) λ_ _ z=>z));obtain⟨ap,ak⟩:=a;obtain⟨hk,hl,X,h3⟩:=h2;obtain rfl:ak=[]:=hk;simp only[aU];obtain⟨tl,ns,nm,qn,bs,iK,sn,sub,ab,col,dd,k0,k1,k2,k3,k5,hC,T⟩:=zEW X hx;obtain⟨hp,g,d,tk,os⟩:=s2;refine wGY (wpAny_keeperOf_exc hC ?_);refine wGY (zMP X hx hi hf hm hl λh' e mk=>?_);refine wHq (h3 h' e mk) (λr s3 z=>?_) λ_ _ z=>z;obtain⟨rfl,oe,vs,a1,a2,a3,a4,a5,a6⟩:=z;exact⟨rfl,wGY (wHQ (wpAny_point (wG2 ⟨e,oe,vs,rfl,a1,a2,a3,a4,a5,a6⟩)))⟩
end
end L2
namespace L2
open PySem PySem.Spec PyProof.Rows PySem.W
def zLX (H:Hp) (e:Addr):Hp:=λb=>if b=e then none else H b
def zGE {H:Hp} {e:Addr}:zLX H e e=none:=by unfold zLX;rw[wG1 rfl]
theorem zHR {H:Hp} {e b:Addr} (h:b≠e):zLX H e b=H b:=by unfold zLX;rw[wGZ h]
section
variable {X:Cx} {pins:List (Addr × Obj)} {σ:St} {H:Hp} {s:Shared}
def Inv.shed {e dx:Addr} {cls:Value} {fs:List (Str × V)} (I:Inv X pins σ H s) (he:H e=some (zDd e cls (some dx))) (hd:H dx=some (XdN dx fs)) (ne:dx≠e):Inv X pins σ (upd (zLX H e) dx (.xd fs)) s:=by
 have other:∀b,b≠dx->b≠e->upd (zLX H e) dx (.xd fs) b=H b:=λb n1 n2=>by rw[zO n1,zHR n2]
 have nd:∀b o,H b=some o->(∀φ,o≠.ext φ)->b≠dx/\b≠e:=λb o q n=>⟨λz=>by rw[z,hd] at q;exact n _ (wG8 q).symm,λz=>by rw[z,he] at q;exact n _ (wG8 q).symm⟩;refine I.call' (s':=s) (ch:=[]) rfl ⟨λb o q _ _ _=>q,λb o q _ _ _=>⟨o.slots,q⟩,λb o q n _=>?_,λb o q _=>⟨o,q⟩,λb xs q=>?_,λb o u q=>?_,λb ps q=>⟨#[],?_⟩⟩ (λb u q=>?_) I.bare λb z=>nomatch z
 ·rw[other b (λz=>by rw[z,hd] at n;cases n) (λz=>by rw[z,he] at n;cases n)];exact n
 ·obtain⟨n1,n2⟩:=nd b _ q λφ z=>nomatch z
  rw[other b n1 n2];exact q
 ·obtain⟨n1,n2⟩:=nd b _ q λφ z=>nomatch z
  rw[other b n1 n2];exact q
 ·obtain⟨n1,n2⟩:=nd b _ q λφ z=>nomatch z
  rw[other b n1 n2,q];simp
 by_cases z:b=dx
 ·subst z;rw[zB] at q;cases q;exact XdN.get I.hok hd
 by_cases z2:b=e
 ·subst z2;rw[zO z,zGE] at q;cases q
 rw[other b z z2] at q;refine (I.hok b u q).stay (λ_ _ _ r=>r) (λc r=>?_) λc xs r=>?_
 ·obtain⟨n1,n2⟩:=nd c _ r λφ z=>nomatch z
  rw[other c n1 n2];exact r
 obtain⟨n1,n2⟩:=nd c _ r λφ z=>nomatch z
 rw[other c n1 n2];exact r
def Inv.newX {C e:Addr} {rest:List Value} {h':Heap} (I:Inv X pins σ H s) (mk:Heap.MadeExcOf s.heap h' e (.ref C) rest):H e=none/\Inv X pins σ (upd H e (zDd e (.ref C) none)) { s with heap:=h' }:=by have nH:H e=none:=zCJ I.hok mk.new;obtain⟨t,ht,_⟩:=mk.there;refine⟨nH,I.call' (s':={ s with heap:=h' }) (ch:=[]) rfl ((⟨λb o q _ _ _=>mk.keeps _ _ q,λb o q _ _ _=>⟨o.slots,mk.keeps _ _ q⟩,λb o q n _=>n,λb o q _=>⟨o,mk.keeps _ _ q⟩,λ_ _ q=>q,λ_ _ _ q=>q,λb ps q=>⟨#[],by rw[q];simp⟩⟩:Un (frs X.stack) [] H H s.heap h').put mk.new nH) ((I.hok.kept mk.keeps).put nH (zDd.mk ht rfl rfl rfl rfl rfl)) I.bare λb z=>nomatch z⟩
end
structure XMk (K:W.Frag) (C f:Addr):Prop where
 ex:zFo K C vEr "ValueError.__new__"=true
 init:findIn K (.ref C) "__init__"=some (some (.ref f))
 fn:isFn K (.ref f)=true
 self:mroIn K C (.ref C)=some true
def zOc (E:XK) (C:Addr) (sp:Sp) (ta:TA):TS:=λ_ σ H=>ta σ H λvs H1=>vs.length<=100/\∀e,H1 e=none->sp (.ref e::vs) (upd H1 e (zDd e (.ref C) none)) (λr H2=>r=.non/\∃dx fs,dx≠e/\H2 e=some (zDd e (.ref C) (some dx))/\H2 dx=some (XdN dx fs)/\E (.ref C) (some dx) (upd (zLX H2 e) dx (.xd fs))) E0
section
variable {P:Program} {w:World} {K:W.Frag} {mg:Str->Option Value} {base:Heap} {N:List Str} {qual:Str} {scope:Scope} {f:Addr} {cd:Value} {A:Around} {outer:List Env} {s0:Shared} {H0:Hp} {E:XK}
def zKp {k:Nat} {n:Str} {C fI:Addr} {fd:FuncData} {ps:List Str} {sp:Sp} {e1:Expr} {es:List Expr} {ta:TA} {np aB pos:Pos} (M:XMk K C fI) (F:FnOk P w K mg base CX0 k fI fd ps sp)
  (hr:Room (k+1) (zDZ (CXx P w) P w K mg base N qual scope f cd A outer s0 H0 E).A) (hb:zAg K fd ps []) (hg:Gl (zDZ (CXx P w) P w K mg base N qual scope f cd A outer s0 H0 E) n) (hm:mg n=some (.ref C))
  (ha:PA (zDZ (CXx P w) P w K mg base N qual scope f cd A outer s0 H0 E) (e1::es) ta) (hd:(n == ("__debug__":Str))=false:=by decide)
  (bT:starEach (e1::es) (zDZ (CXx P w) P w K mg base N qual scope f cd A outer s0 H0 E).env=(false,eval e1 (zDZ (CXx P w) P w K mg base N qual scope f cd A outer s0 H0 E).env)::starEach es (zDZ (CXx P w) P w K mg base N qual scope f cd A outer s0 H0 E).env:=by rfl)
  (aK:(backTo aB (starEach (e1::es) (zDZ (CXx P w) P w K mg base N qual scope f cd A outer s0 H0 E).env)).any (·.1)=false:=by rfl) :
  PS (zDZ (CXx P w) P w K mg base N qual scope f cd A outer s0 H0 E) (.Raise (some (.Call (.Name n np) (e1::es) [] aB)) none pos) (zOc E C sp ta):=by
 intro pins s σ H D I h;refine zFp (K:=K) (C:=C) (f:=fI) (I.ok.hd rfl) aK M.ex M.init (beq_iff_eq.mp M.fn) M.self (zBU I hg hm ⟨rfl,?_⟩ hd);have hA:=ha aB pins s σ H _ I h;rw[bT] at hA ⊢;refine Calls.evalArgs_plain (wHq hA (λus s2 ⟨vs,H1,I1,r,hl,q⟩=>?_) λ_ _ z=>z);refine⟨rfl,by show us.length<=_;rw[← r.length];exact small ∅,I1.kIn,λh' e mk=>?_⟩;obtain⟨nH,I2⟩:=I1.newX mk;have hq:=q e nH;have old:∀b,s2.heap.get? b=none->s0.heap.get? b=none:=λb z=>by
  cases y:s0.heap.get? b with
  | none=>rfl
  | some o=>obtain⟨o',h'⟩:=I1.base.there b o y (λz=>nomatch z);rw[z] at h';cases h'
 have r2:zA7 (V.ref e::vs) (Value.ref e::us):=.cons rfl r;have hln:(Value.ref e::us).length=ps.length:=by have e9:=r2.length;rw[F.len _ _ _ _ hq] at e9;exact e9.symm
 refine wpAny_call (codeAny_mono (F.run _ (zDZ (CXx P w) P w K mg base N qual scope f cd A outer s0 H0 E).stack _ _ ⟨Value.ref e::us,[]⟩ (Value.ref e::us) _ _ E0 (hr.make C us []) (I2.env0.make C us []) ?_ r2 hq) λrr s' dH=>?_)
 ·have:=hb { s2 with heap:=h' } (Value.ref e::us) I2.kIn (by rw[wHx];exact hln);rw[wHx] at this;exact this
 cases rr with
 | error ev=>exact zC9 (X:=zDZ (CXx P w) P w K mg base N qual scope f cd A outer s0 H0 E) pins σ _ _ ev s' I2 dH
 | ok fl=>
  cases fl with
  | ret u=>
   obtain⟨v,H2,I3,rv,ev,dx,fs,ne,he,eU,qE⟩:=I2.after dH;subst ev;obtain⟨oe,ws,g1,g2,g3,g4,g5,g6⟩:=zDd.get I3.hok he;refine⟨rv,oe,ws,I3.kIn,g1,g2,g4,g5,?_⟩;have I4:=I3.shed he eU ne;refine zF7 (s:=s') I3.ok.frames I3.stack rfl g1 g4 g5 g6 λeZ T' m nT x'=>?_;have gO:upd (zLX H2 e) dx (.xd fs) e=none:=by rw[zO (Ne.symm ne)];exact zGE
   have gP:upd (zLX H2 e) dx (.xd fs) T'=none:=zCJ I4.hok nT;have jh:s0.heap.get? T'=none:=by
    cases y:s0.heap.get? T' with
    | none=>rfl
    | some o=>obtain⟨o',h'⟩:=I3.base.there T' o y (λz=>nomatch z);rw[nT] at h';cases h'
   rw[g2,g3] at x';exact zK3 (s'':={ s' with heap:=eZ }) I4 m rfl I4.bare x' (λb hb=>by
    simp at hb;rcases hb with z | z
    ·rw[z];exact old e mk.new
    ·rw[z];exact jh) (λb hb=>by
    simp at hb;rcases hb with z | z
    ·rw[z];exact gO
    rw[z];exact gP) (old e mk.new) jh gO gP qE
  | next=>exact wHI dH
  | brk=>exact wHI dH
  | cont=>exact wHI dH
end
end L2
namespace L2
open PySem PySem.Spec PyProof.Rows PySem.W
structure XB (K:W.Frag) (B:Addr):Prop where
 ga:specialIn K (.ref B) "__getattribute__"=some (some (.builtin "type.__getattribute__"))
 rd:readsIn K B (.type "type")=true
 fc:findCls K (.ref B) (.type "type") "__init__"=some (.val (.builtin "ValueError.__init__"))
def zPh (K:W.Frag) (ta:TA):TE:=λσ H Q=>ta σ H λxs H1=>∃e C dd z,xs=[.ref e,.str z]/\H1 e=some (zDd e (.ref C) dd)/\zFo K C vEr "ValueError.__new__"=true/\Q .non H1
def sXF (K:W.Frag) (ta tv:TE) (f:Str):TS:=λD σ H=>tv σ H λy H1=>ta σ H1 λx H2=>∃e C,x=.ref e/\XF K C f/\((H2 e=some (zDd e (.ref C) none)/\∀dx,H2 dx=none->dx≠e->D.nx σ (upd (upd H2 e (zDd e (.ref C) (some dx))) dx (XdN dx [(f,y)])))∨
 ∃dx fs,H2 e=some (zDd e (.ref C) (some dx))/\H2 dx=some (XdN dx fs)/\fs.length<=1000/\D.nx σ (upd H2 dx (XdN dx ((f,y)::fs))))
section
variable {X:Cx} {o value:Expr} {f n:Str} {np pos pos' apos aB:Pos} {ta tv:TE} {B:Addr} {e1:Expr} {es:List Expr} {t:TA}
def zP5 (ha:PE X o ta) (hv:PE X value tv) (hs:swapsWith value (some (.Attribute o f pos')) pos.line X.env=pure false):PS X (.Assign [.Attribute o f pos'] value pos) (sXF X.K ta tv f):=by
 intro pins s σ H D I h;refine plainObj_wpAny_Assign_Attribute (thn (hv pins s σ H _ I h) λu s1 ⟨y,H1,I1,ry,q⟩=>thn (ha pins s1 σ H1 _ I1 q) λov s2 ⟨x,H2,I2,rx,e,C,ex,k,q2⟩=>?_) hs;subst ex;obtain rfl:ov=Value.ref e:=rx;rcases q2 with ⟨he,q2⟩ | ⟨dx,fs,he,hd,hz,q2⟩
 ·exact zLP I2 he k ry λs3 dx eU ne I3=>⟨σ,_,I3,q2 dx eU ne⟩
 exact zLO I2 he hd hz k ry λs3 I3=>⟨σ,_,I3,q2⟩
def zMh (b:XB X.K B) (hg:Gl X n) (hm:X.mg n=some (.ref B)) (ha:PA X (e1::es) t) (hd:(n == ("__debug__":Str))=false:=by decide) {pl:Sem Bool}
  (bT:starEach (e1::es) X.env=(false,eval e1 X.env)::starEach es X.env:=by rfl) (aK:(backTo aB (starEach es X.env)).any (·.1)=false:=by rfl)
  (ht:eval (.Call (.Attribute (.Name n np) "__init__" apos) (e1::es) [] aB) X.env=(do
   let ov ← eval (.Name n np) X.env
   standAt apos.atName
   let (f,first) ← holding [ov] (getMethod ov "__init__" pl)
   callWith aB f first (backTo aB (starEach (e1::es) X.env)) (backToKw aB (keywordEach [] X.env))):=by rfl) :
  PE X (.Call (.Attribute (.Name n np) "__init__" apos) (e1::es) [] aB) (zPh X.K t):=by
 intro pins s σ H Q I h;refine W.methodCall_KW (pl:=pl) (zBU I hg hm ?_ hd) ht;refine method_cls I.kIn b.ga (cls_value I.kIn b.rd b.fc rfl ?_);have I1:Inv X pins σ H { s with toks:=s.toks+1 }:=I.tok _;have hA:=ha aB pins _ σ H _ I1 h;rw[bT] at hA ⊢;refine Calls.callWith_builtin (by show (false || (backTo aB (starEach es X.env)).any (·.1))=false;rw[aK];rfl) (Calls.evalArgs_plain (thn hA λus s2 ⟨vs,H2,I2,r2,e,C,dd,z,ex,he,hx,q⟩=>?_));subst ex;obtain⟨u1,u2,rfl,r1,r3⟩:=zLD r2;obtain rfl:u1=Value.ref e:=r1;obtain⟨oe,ws,g1,g2,g3,g4,g5,g6⟩:=zDd.get I2.hok he;have sz:2 < ws.size:=(Array.getElem?_eq_some_iff.mp g6).1;refine zKZ I2.kIn hx g1 g2 g4 sz λh' t' keep hn=>⟨.non,H2,?_,rfl,q⟩;have mu:Mut (H2 e):=by rw[he];exact True.intro
 have I3:=I2.write (t':=s2.toks) mu (.inl rfl) (λb u n q=>keep b u n q) ⟨_,hn⟩ (o:=zDd e (.ref C) dd) (zDd.mk hn g2 g3 rfl (by rw[Array.getElem?_setIfInBounds_ne ⋯];exact g5) (by rw[Array.getElem?_setIfInBounds_ne ⋯];exact g6));have eH:upd H2 e (zDd e (.ref C) dd)=H2:=by
  funext b
  by_cases y:b=e
  ·subst y;rw[zB,he]
  rw[zO y]
 rw[eH] at I3;exact I3
end
end L2
namespace L2
open PySem PySem.Spec PyProof.Rows PySem.W
def zQ4 (K:W.Frag) (ta:TE) (f:Str):TE:=λσ H Q=>ta σ H λx H1=>∃e C dx fs v,x=.ref e/\H1 e=some (zFG e (.ref C) (some dx))/\H1 dx=some (.xd fs)/\ExcX K C/\hasDictIn K C=true/\findIn K (.ref C) f=some none/\fs.lookup f=some v/\Q v H1
section
variable {X:Cx} {o:Expr} {f:Str} {pos:Pos} {ta:TE}
def zKw (he:PE X o ta) (hb:attributeBase o f X.env (eval o X.env)=eval o X.env):PE X (.Attribute o f pos) (zQ4 X.K ta f):=by
 intro pins s σ H Q I h;refine zL2 hb (thn (he pins s σ H _ I h) λu s1 aA=>?_);obtain⟨x,H1,I1,rx,e,C,dx,fs,v,ex,e1,e2,kx,kd,ka,l,q⟩:=aA;subst ex;obtain rfl:u=Value.ref e:=rx;obtain⟨oe,vs,g1,g2,g3,g4,g5⟩:=zFG.get I1.hok e1;obtain⟨mA,hn,hr⟩:=I1.hok dx _ e2;obtain⟨od,ho,hl⟩:=zHa hn;have J:InstAt s1.heap e oe C (some od):=⟨g1,g2,by unfold notCls;rw[g4],by rw[g3];exact ho⟩;have rv:=hr f;rw[l] at rv;obtain⟨u,hu,ru⟩:∃u,mA f=some u/\zBl v u:=by
  cases q:mA f with
  | none=>rw[q] at rv;exact absurd rv (by intro z;exact z)
  | some u=>rw[q] at rv;exact⟨u,rfl,rv⟩
 have hf:findObj X.K C (some od) f=some (.value u):=findObj_own kd ka rfl (by rw[hl f,hu]);have I2:Inv X pins σ H1 { s1 with toks:=s1.toks+1 }:=I1.tok _;refine wGY (wpAny_mkText ?_);refine zMV (s:={ s1 with toks:=s1.toks+1 }) I1.kIn J kx.ga kx.gt kx.mb λA'=>zJ3 (s:={ s1 with toks:=s1.toks+1 }) I1.kIn J hf ?_;exact handed_on (zHh ru) ⟨v,H1,I2,ru,q⟩
end
def zQk (D:Ends) (i:Nat):Ends:={ nx:=λσ2 H2=>D.nx (σ2.set i none) H2,rt:=D.rt,bk:=λσ2 H2=>D.bk (σ2.set i none) H2,ct:=λσ2 H2=>D.ct (σ2.set i none) H2 }
def zQ5 (K:W.Frag) (C1 C2:Addr) (i:Nat) (tb:TSx) (kB kA:Addr->TS):TS:=λD σ H=>tb D (λcls dd σ' H'=>
 (W.exmOne K cls (.ref C1)=some true/\∀e,H' e=none->kB e (zQk D i) (σ'.set i (some (.ref e))) (upd H' e (zFG e cls dd)))∨
 (W.exmOne K cls (.ref C1)=some false/\W.exmOne K cls (.ref C2)=some true/\∀e,H' e=none->kA e (zQk D i) (σ'.set i (some (.ref e))) (upd H' e (zFG e cls dd)))) σ H
section
variable {X:Cx} {pos:Pos}
def zOj {C1 C2:Addr} {i:Nat} {n c1 c2:Str} {body:List Stmt} {b1 b2:Stmt} {cZ cY:List Stmt} {tb:TSx} {kB kA:Addr->TS} {lA jz kh jy:Pos} (hN:X.N.Nodup) (hi:X.N[i]?=some n) (hn:X.env.scope.names.lookup n=some .local)
  (hg1:Gl X c1) (oq:X.mg c1=some (.ref C1)) (o9:Gl X c2) (oo:X.mg c2=some (.ref C2)) (hb:zRy X body tb) (hh1:∀e,PSs (X.hot e) (b1::cZ) (kB e)) (hh2:∀e,PSs (X.hot e) (b2::cY) (kA e)) (hS:X.stack=X.env::X.outer:=by rfl) (hF:X.env.frame=some X.env.locals:=by rfl) (hd1:(c1 == ("__debug__":Str))=false:=by decide) (hd2:(c2 == ("__debug__":Str))=false:=by decide) :
  PS X (.Try body [.ExceptHandler (some (.Name c1 lA)) (some n) (b1::cZ) jz,.ExceptHandler (some (.Name c2 kh)) (some n) (b2::cY) jy] [] [] pos) (zQ5 X.K C1 C2 i tb kB kA):=by
 intro pins s σ H D I h;refine wpAny_Try_except (wHq (hb pins s σ H D _ I h) (λfl s1 q=>?_) λev s1 q=>?_)
 ·cases fl with
  | next=>exact wpAny_execs_nil q
  | ret v=>exact q
  | brk=>exact q
  | cont=>exact q
 obtain⟨σ1,H1,s0,I1,e,T,cls,dd,H',rfl,os,bare,un,hok,x,ne,nT,he,hT,jN⟩:=q;have I1':=I1.call' (ch:=[]) os un hok bare (λb z=>nomatch z);have old:∀b,s1.heap.get? b=none->s0.heap.get? b=none:=λb z=>by
  cases y:s0.heap.get? b with
  | none=>rfl
  | some o=>obtain⟨o',h'⟩:=un.there b o y (λz=>nomatch z);rw[z] at h';cases h'
 have held:∀(h':Heap) (T':Addr) (fl:Value),s1.heap.get? T'=none->Moved (frs X.stack) [e,T,T'] s1.heap h'->zDN h' e T' cls dd fl->Inv X pins σ1 (upd H' e (zFG e cls dd)) { s1 with heap:=h' }:=λh' T' fl nT' mv x'=>by
  refine I1.call' (ch:=[]) os ((un.moved mv (λb o eb z=>?_) λ_ _ _ z=>z).put ne he) ((hok.moved mv λb o eb=>⟨λz=>?_,λz=>?_⟩).put he (zFG.ok x')) bare (λb z=>nomatch z)
  ·simp at z;rcases z with z | z | z
   ·rw[z,ne] at eb;cases eb
   ·rw[z,nT] at eb;cases eb
   rw[z,old T' nT'] at eb;cases eb
  ·rw[I1'.stkFree b z] at eb;cases eb
  simp at z;rcases z with z | z | z
  ·rw[z,he] at eb;cases eb
  ·rw[z,hT] at eb;cases eb
  rw[z,zCJ hok nT'] at eb;cases eb
 have frames:X.A.frames=some (X.env::X.outer):=by rw[← hS];exact I.ok.frames
 have stack:s1.heap.FunFrames X.base (X.env::X.outer):=by rw[← hS];exact I1'.stack
 refine zKI frames stack hF x λh2 T' m2 n2 x2=>zEU (s:={ s1 with heap:=h2 }) x2 λh3 m3 x3=>?_;have m2':Moved (frs X.stack) [e,T,T'] s1.heap h2:=by rw[hS];exact m2.mono (λ_ z=>z) λb z=>by simp at z;rcases z with z | z<;>simp[z]
 have nB:Moved (frs X.stack) [e,T,T'] s1.heap h3:=m2'.trans (m3.mono (λ_ z=>nomatch z) λb z=>by simp at z;simp[z]);have I3:=held h3 T' .none n2 nB x3;have lt:PySem.W.Looks (model X.prog X.w) h3 (typeOf (.ref e)) cls:=by obtain⟨oe,vs,oT,ts,g1,g2,_⟩:=x3;exact g2 ▸ (PySem.W.Looks.ld g1).andThen .now
 refine wpAny_handleBy_cons (codeAny_handlers_test (zBU (X:=X.hot e) I3.hot hg1 oq ?_ hd1)) (by intro z;cases z);rcases jN with ⟨oi,nJ⟩ | ⟨nZ,oi,nJ⟩
 ·refine (W.exm_one I3.kIn lt oi).at ?_;show codeAny _ _ _ _ _;refine codeAny_handlers_suite_as (zEU (s:={ s1 with heap:=h3 }) x3 λh4 m4 x4=>?_);have I4:=held h4 T' .none n2 (nB.trans (m4.mono (λ_ z=>nomatch z) λb z=>by simp at z;simp[z])) x4;refine zCG (X:=X.hot e) (v:=.ref e) I4.hot hN hi (.inl hn) rfl (λs5 I5=>?_) (.inr hn);refine wHq (hh1 e pins s5 _ _ _ I5 (nJ e he)) (λfl s6 q=>?_) λ_ _ z=>z.elim;cases fl with
  | next=>
   obtain⟨σ6,H6,I6,q6⟩:=q;exact zCC (I6.cool I.ok) hN hi hn λs7 I7=>⟨_,H6,I7,q6⟩
  | ret v=>
   obtain⟨v6,σ6,H6,I6,r6,q6⟩:=q;exact zCC (I6.cool I.ok) hN hi hn λs7 I7=>⟨v6,_,H6,I7,r6,q6⟩
  | brk=>
   obtain⟨σ6,H6,I6,q6⟩:=q;exact zCC (I6.cool I.ok) hN hi hn λs7 I7=>⟨_,H6,I7,q6⟩
  | cont=>
   obtain⟨σ6,H6,I6,q6⟩:=q;exact zCC (I6.cool I.ok) hN hi hn λs7 I7=>⟨_,H6,I7,q6⟩
 refine (W.exm_one I3.kIn lt nZ).at ?_;show wpAny _ _ _ _ _ _;refine wpAny_handleBy_cons (codeAny_handlers_test (zBU (X:=X.hot e) I3.hot o9 oo ?_ hd2)) (by intro z;cases z);refine (W.exm_one I3.kIn lt oi).at ?_;show codeAny _ _ _ _ _;refine codeAny_handlers_suite_as (zEU (s:={ s1 with heap:=h3 }) x3 λh4 m4 x4=>?_);have I4:=held h4 T' .none n2 (nB.trans (m4.mono (λ_ z=>nomatch z) λb z=>by simp at z;simp[z])) x4;refine zCG (X:=X.hot e) (v:=.ref e) I4.hot hN hi (.inl hn) rfl (λs5 I5=>?_) (.inr hn);refine wHq (hh2 e pins s5 _ _ _ I5 (nJ e he)) (λfl s6 q=>?_) λ_ _ z=>z.elim;cases fl with
 | next=>
  obtain⟨σ6,H6,I6,q6⟩:=q;exact zCC (I6.cool I.ok) hN hi hn λs7 I7=>⟨_,H6,I7,q6⟩
 | ret v=>
  obtain⟨v6,σ6,H6,I6,r6,q6⟩:=q;exact zCC (I6.cool I.ok) hN hi hn λs7 I7=>⟨v6,_,H6,I7,r6,q6⟩
 | brk=>
  obtain⟨σ6,H6,I6,q6⟩:=q;exact zCC (I6.cool I.ok) hN hi hn λs7 I7=>⟨_,H6,I7,q6⟩
 | cont=>
  obtain⟨σ6,H6,I6,q6⟩:=q;exact zCC (I6.cool I.ok) hN hi hn λs7 I7=>⟨_,H6,I7,q6⟩
end
open PySem.Builtin.Tuple (tupleHashOf tupleItemsOf)
structure VKind (prog:Program) (w:World) (K:Type) [DecidableEq K] where
 is:Heap->K->Value->Prop
 hash:K->Int
 draws:K->Nat
 deep:Nat
 inj:∀{h:Heap} {v:Value} {x y:K},is h x v->is h y v->x=y
 keeps:∀{h h':Heap} {k:K} {v:Value} {d:Addr} {o:Obj} {es ep},is h k v->h.get? d=some o->o.data=.dict es ep->Heap.SameBut d h h'->is h' k v
 pyHash:∀{A:Around} {E:Value->Shared->Prop} {s:Shared} {k:K} {v:Value} {Q:Int->Shared->Prop},A.units+deep < cLine->is s.heap k v->Q (hash k) { s with toks:=s.toks+draws k }->
  wpAny (model prog w) A (PySem.pyHash v) Q E s
 eqBool:∀{A:Around} {E:Value->Shared->Prop} {s:Shared} {x y:K} {u v:Value} {Q:Bool->Shared->Prop},A.units+deep < cLine->is s.heap x u->is s.heap y v->Q (decide (x=y)) s->
  wpAny (model prog w) A (PySem.eqBool u v) Q E s
 quiet:∀{A:Around} {E:Value->Shared->Prop} {s:Shared} {k:K} {v:Value} {n:Nat} {Q:Bool->Shared->Prop},deep<=n->is s.heap k v->Q true s->wpAny (model prog w) A (eqIsQuiet n v) Q E s
section
variable {prog:Program} {w:World} {K:Type} [DecidableEq K]
def VKind.of (knd:PySem.KeyKind prog w K):VKind prog w K where
 is:=λ_ k v=>knd.is k v=true
 hash:=knd.hash
 draws:=λ_=>1
 deep:=0
 inj:=λhx hy=>knd.inj _ _ _ hx hy
 keeps:=λx _ _ _=>x
 pyHash:=λ_ x q=>knd.pyHash x q
 eqBool:=λ_ x y q=>knd.eqBool x y q
 quiet:=λ{A E s k v n Q} _ x q=>by rw[eqIsQuiet_byValue n (knd.byValue k v x)];exact wG2 q
variable (vk:VKind prog w K)
inductive Mems (h:Heap):List K->List Value->Prop
 | nil:Mems h [] []
 | cons {k:K} {v:Value} {ks:List K} {vs:List Value}:vk.is h k v->Mems h ks vs->Mems h (k::ks) (v::vs)
def zRd (h:Heap) (ks:List K) (v:Value):Prop:=∃(a:Addr) (o:Obj) (its:Array Value) (n:Nat),v=.ref a/\h.get? a=some o/\o.cls=.type "tuple"/\o.data=.seq its n/\Mems vk h ks its.toList
variable {vk}
def Mems.one {h:Heap}:∀{x y:List K} {vs:List Value},Mems vk h x vs->Mems vk h y vs->x=y
 | _,_,_,.nil,.nil=>rfl
 | _,_,_,.cons a b,.cons c d=>by rw[vk.inj a c,b.one d]
theorem Mems.keep {h h':Heap} {d:Addr} {o:Obj} {es ep} (e1:h.get? d=some o) (e2:o.data=.dict es ep) (e3:Heap.SameBut d h h'):∀{x:List K} {vs:List Value},Mems vk h x vs->Mems vk h' x vs
 | _,_,.nil=>.nil
 | _,_,.cons a b=>.cons (vk.keeps a e1 e2 e3) (b.keep e1 e2 e3)
def zMt {h h':Heap} {a d:Addr} {o o':Obj} {es ep} {its:Array Value} {n:Nat} (q:h.get? a=some o') (q2:o'.data=.seq its n) (e1:h.get? d=some o) (e2:o.data=.dict es ep) (e3:Heap.SameBut d h h'):h'.get? a=some o':=by
 have ne:a≠d:=λz=>by subst z;rw[q] at e1;rw[wG8 e1,e2] at q2;cases q2
 rw[e3.2 a ne];exact q
variable {A:Around} {E:Value->Shared->Prop} {s:Shared}
def zMC {a:Addr} {o:Obj} {its:Array Value} {n:Nat} {hs:List Int} {tk:Nat} {Q:Int->Shared->Prop} (hu:A.units < cLine) (ho:s.heap.get? a=some o) (hc:o.cls=.type "tuple") (hd:o.data=.seq its n)
  (zOZ:∀(b0:Array Int) (R:Array Int->Shared->Prop),(∀b:Array Int,b.toList=b0.toList++hs->R b { s with toks:=s.toks+tk })->∀F:Value->Array Int->Sem (ForInStep (Array Int)),(∀v b R' E' s',wpAny (model prog w) A.in1 (PySem.pyHash v) (λi s2=>R' (.yield (b.push i)) s2) E' s'->wpAny (model prog w) A.in1 (F v b) R' E' s')->wpAny (model prog w) A.in1 (forIn its.toList b0 F) R E s)
  (h:Q (reduceHash (tupleHashOf hs)) { s with toks:=s.toks+(tk+1) }):wpAny (model prog w) A (PySem.pyHash (.ref a)) Q E s:=by
 have hT:s.TypeIs (.ref a) "tuple":=⟨o,ho,hc⟩;unfold PySem.pyHash
 first | unfold pyHashByItsType | skip
 first | refine wGY (wpAny_cRoomFor_or (.inr hu) ?_) | skip
 refine wGY (wpAny_specialOf hT F.slot_tuple_hash.lookup ?_);show wpAny _ _ (if (some (Value.builtin "tuple.__hash__") == some Value.none)=true then _ else _) Q E s;rw[wGZ (λz=>absurd (beq_builtin_none _ ▸ z) wHf)];refine wGY (wpAny_specialOf hT F.slot_tuple_hash.lookup ?_);show wpAny _ _ (callSpecialIfBoundUnlessNone? (.ref a) "__hash__" _ >>= _) Q E s;refine wGY (wpAny_callSpecialIfBoundUnlessNone?_slot hT F.slot_tuple_hash (wpAny_call_entry F.slot_tuple_hash hT F.entry_tuple_hash ?_ (F.args_tuple_hash_1 _)));show wpAny _ _ (tupleItemsOf (.ref a) >>= _) _ _ s;refine wGY (wpAny_tupleItemsOf ho hd (wGY ?_));rw[← Array.forIn_toList];refine zOZ _ _ (λb hb=>?_) _ λv b R' E' s' k=>?_
 ·have oM:b.toList=hs:=by rw[hb];simp
  show wpAny _ _ (retInt (tupleHashOf b.toList)) _ _ _;rw[oM];refine wpAny_ret_mkInt ?_;show wpAny _ _ (if (decide (-(2:Int) ^ 63<=tupleHashOf hs) && decide (tupleHashOf hs < 2 ^ 63))=true then _ else _) Q E _;unfold reduceHash at h
  split at h
  ·rename_i c
   rw[wG1 c];exact wG2 (by simpa [Nat.add_assoc] using h)
  rename_i c
  rw[wGZ c];exact wGY (wpAny_rule (wG2 (by simpa [Nat.add_assoc] using h)))
 exact wGY (wHq k (λ_ _ z=>by first | exact wG2 z | exact wGY (wG2 (wG2 z))) λ_ _ z=>z)
theorem zGZ {F:Value->Array Int->Sem (ForInStep (Array Int))} (hF:∀v b R' E' s',wpAny (model prog w) A (PySem.pyHash v) (λi s2=>R' (.yield (b.push i)) s2) E' s'->wpAny (model prog w) A (F v b) R' E' s') (hu:A.units+vk.deep < cLine) :
  ∀{ks:List K} {vs:List Value} {s:Shared} {b0:Array Int} {R:Array Int->Shared->Prop},Mems vk s.heap ks vs->(∀b:Array Int,b.toList=b0.toList++ks.map vk.hash->R b { s with toks:=s.toks+(ks.map vk.draws).sum })->wpAny (model prog w) A (forIn vs b0 F) R E s
 | _,_,s,b0,R,.nil,h=>by rw[List.forIn_nil];exact wG2 (h b0 (by simp))
 | _,_,s,b0,R,@Mems.cons _ _ _ _ _ _ k v ks vs a r,h=>by rw[List.forIn_cons];refine wGY (hF _ _ _ _ _ (vk.pyHash hu a ?_));refine zGZ hF hu (s:={ s with toks:=s.toks+vk.draws k }) r λb hb=>?_;have q:=h b (by rw[hb,Array.toList_push,wHW,wHD];rfl);rw[wHW,List.sum_cons,← Nat.add_assoc] at q;exact q
def zNy (x:Value × Value) (_:Option Fin × Unit):Sem (ForInStep (Option Fin × Unit)):=do
 let c ← PySem.eqBool x.1 x.2
 if (!c)=true then do
  let r ← ret (Value.bool false)
  pure (ForInStep.done (some r,PUnit.unit))
 else pure (ForInStep.yield (none,PUnit.unit))
def zQi {a b:Addr} {oa ob:Obj} {xs ys:Array Value} {na nb:Nat} {r z:Bool} {Q:Bool->Shared->Prop} (hu:A.units < cLine) (ha:s.heap.get? a=some oa) (hca:oa.cls=.type "tuple") (eD:oa.data=.seq xs na)
  (hb:s.heap.get? b=some ob) (hcb:ob.cls=.type "tuple") (cQ:ob.data=.seq ys nb) (same:a=b->r=true) (hr:r=(z && (xs.size == ys.size)))
  (zOZ:∀R:Option Fin × Unit->Shared->Prop,(z=true->R (none,PUnit.unit) s)->(z=false->R (some (.done (.ret (.bool false))),PUnit.unit) s)->wpAny (model prog w) A.in1 (forIn (List.zip xs.toList ys.toList) (none,PUnit.unit) zNy) R E s)
  (h:Q r s):wpAny (model prog w) A (PySem.eqBool (.ref a) (.ref b)) Q E s:=by
 have hTa:s.TypeIs (.ref a) "tuple":=⟨oa,ha,hca⟩;have hTb:s.TypeIs (.ref b) "tuple":=⟨ob,hb,hcb⟩;unfold PySem.eqBool
 try with_reducible refine wHQ ?_
 show wpAny _ _ (if (Value.ref a == Value.ref b)=true then _ else _) Q E s;by_cases hab:(Value.ref a == Value.ref b)=true
 ·rw[wG1 hab];have e:a=b:=Value.ref.inj (eq_of_beq hab);rw[same e] at h;exact wGY (wpAny_rule (wG2 h))
 rw[wGZ hab];refine wGY (wpAny_richCompare_same_room (op:=.Eq) hTa hTb F.slot_tuple_eq (wpAny_call_entry F.slot_tuple_eq hTa F.entry_tuple_eq ?_ (F.args_tuple_eq_2 _ _)) hu);have fin:∀k:Bool,k=r->∃v,Fin.done (.ret (Value.bool k))=.done (.ret v)/\v≠.notImplemented/\wpAny (model prog w) A (truthOfDropped v) Q E s:=λk e=>⟨_,rfl,(λe=>nomatch e),wpAny_truthy_bool (by rw[e];exact h)⟩;show wpAny _ _ (isInstance (.ref b) (.type "tuple") >>= _) _ _ s;refine wGY (wpAny_isInstance hTb isSubtype_tuple_tuple ?_);simp only[Bool.not_true,Bool.false_eq_true,if_false];refine wGY (wpAny_tupleItemsOf ha eD ?_);refine wGY (wpAny_tupleItemsOf hb cQ (wGY ?_));refine zOZ _ (λe=>?_) λe=>?_
 ·show wpAny _ _ (pure (Fin.done (.ret (.bool (xs.size == ys.size)))):Sem Fin) _ _ _;exact wG2 (fin _ (by rw[hr,e];rfl))
 exact wG2 (fin _ (by rw[hr,e];rfl))
def zq:List K->List K->Bool
 | k::ks,j::js=>decide (k=j) && zq ks js
 | _,_=>true
theorem zOV:∀{x y:List K},decide (x=y)=(zq x y && (x.length == y.length))
 | [],[]=>by simp[zq]
 | [],_::_=>by simp[zq]
 | _::_,[]=>by simp[zq]
 | k::ks,j::js=>by
  have ih:=zOV (x:=ks) (y:=js);by_cases e:k=j
  ·subst e;rw[show zq (k::ks) (k::js)=zq ks js by simp[zq],show ((k::ks).length == (k::js).length)=(ks.length == js.length) by simp,← ih];simp
  simp[zq,e]
theorem zKL (hu:A.units+vk.deep < cLine):∀{x y:List K} {us vs:List Value} {R:Option Fin × Unit->Shared->Prop},Mems vk s.heap x us->Mems vk s.heap y vs->(zq x y=true->R (none,PUnit.unit) s)->(zq x y=false->R (some (.done (.ret (.bool false))),PUnit.unit) s)->
  wpAny (model prog w) A (forIn (List.zip us vs) (none,PUnit.unit) zNy) R E s
 | _,_,_,_,R,.nil,_,h,_=>by rw[List.zip_nil_left,List.forIn_nil];exact wG2 (h rfl)
 | _,_,_,_,R,.cons _ _,.nil,h,_=>by rw[List.zip_nil_right,List.forIn_nil];exact wG2 (h rfl)
 | _,_,_,_,R,@Mems.cons _ _ _ _ _ _ k1 v1 ks1 vs1 a r,@Mems.cons _ _ _ _ _ _ k2 v2 ks2 vs2 b q,h,h'=>by
  rw[List.zip_cons_cons,List.forIn_cons];refine wGY (wGY (vk.eqBool hu a b ?_));by_cases e:k1=k2
  ·rw[wHB e];refine wG2 ?_;refine zKL hu r q (λz=>h ?_) λz=>h' ?_
   ·simp[zq,e,z]
   simp[zq,e,z]
  rw[wHy e];refine wGY (wG2 (wG2 ?_));exact wG2 (h' (by simp[zq,e]))
def Mems.length {h:Heap}:∀{x:List K} {vs:List Value},Mems vk h x vs->x.length=vs.length
 | _,_,.nil=>rfl
 | _,_,.cons _ b=>by rw[wHZ,wHZ,b.length]
theorem zKo {a:Addr} {o:Obj} {its:Array Value} {n k:Nat} {Q:Bool->Shared->Prop} (ho:s.heap.get? a=some o) (hc:o.cls=.type "tuple") (hd:o.data=.seq its n)
  (each:∀v∈its.toList,∀R:Bool->Shared->Prop,R true s->wpAny (model prog w) A (eqIsQuiet k v) R E s) (h:Q true s):wpAny (model prog w) A (eqIsQuiet (k+1) (.ref a)) Q E s:=by
 have hT:s.TypeIs (.ref a) "tuple":=⟨o,ho,hc⟩;unfold eqIsQuiet;refine wGY (wpAny_specialOf hT F.slot_tuple_eq.lookup ?_);show wpAny _ _ (isInstance (.ref a) (.type "tuple") >>= _) _ _ s;refine wGY (wpAny_isInstance hT isSubtype_tuple_tuple ?_);simp only[Bool.not_true,Bool.false_eq_true,if_false];refine wGY (wpAny_seqItems ho hd (wGY ?_));show wpAny _ _ (forIn its _ _) _ _ s;rw[← Array.forIn_toList];refine wpAny_forIn_list _ (λrest r s'=>r.1=none/\s'=s/\∀v∈rest,v∈its.toList) _ ?_ ?_ _ _ ⟨rfl,rfl,λv hv=>hv⟩
 ·rintro v rest r s' ⟨hr,rfl,eX⟩;refine wGY (each v (eX v wH4) _ ?_);simp only[Bool.not_true,Bool.false_eq_true,if_false];exact wG2 ⟨rfl,rfl,λu hu'=>eX u (wHR _ hu')⟩
 rintro⟨r1,r2⟩ s' ⟨hr,rfl,_⟩;cases hr;exact wG2 h
def Mems.each {h:Heap}:∀{x:List K} {vs:List Value},Mems vk h x vs->∀v∈vs,∃k,vk.is h k v
 | _,_,.nil,v,hv=>nomatch hv
 | _,_,.cons a b,v,hv=>by
  rcases wIn hv with z | z
  ·subst z;exact⟨_,a⟩
  exact b.each v z
def VKind.seq (vk:VKind prog w K):VKind prog w (List K) where
 is:=λh ks v=>zRd vk h ks v
 hash:=λks=>reduceHash (tupleHashOf (ks.map vk.hash))
 draws:=λks=>(ks.map vk.draws).sum+1
 deep:=vk.deep+1
 inj:=by rintro h v x y ⟨a,o,its,n,rfl,e1,_,e3,m⟩ ⟨a',o',its',n',ea,fi,_,fM,m'⟩;cases ea;rw[e1] at fi;cases fi;rw[e3] at fM;cases fM;exact m.one m'
 keeps:=by rintro h h' k v d o es ep ⟨a,o2,its,n,rfl,e1,e2,e3,m⟩ g1 g2 g3;exact⟨a,o2,its,n,rfl,zMt e1 e3 g1 g2 g3,e2,e3,m.keep g1 g2 g3⟩
 pyHash:=by rintro A E s k v Q hu ⟨a,o,its,n,rfl,e1,e2,e3,m⟩ q;exact zMC ∅ e1 e2 e3 (λb0 R hR F hF=>zGZ hF (by rw[Around.in1_units];omega) m hR) q
 eqBool:=by
  rintro A E s x y u v Q hu ⟨a,o,its,n,rfl,e1,e2,e3,m⟩ ⟨a',o',its',n',rfl,fi,fN,fM,m'⟩ q;refine zQi (z:=zq x y) ∅ e1 e2 e3 fi fN fM (λe=>?_) ?_ (λR h1 h2=>zKL (by rw[Around.in1_units];omega) m m' h1 h2) q
  ·subst e;rw[e1] at fi;cases fi;rw[e3] at fM;cases fM;exact wHB (m.one m')
  rw[zOV,m.length,m'.length];simp
 quiet:=by rintro A E s k v n Q hd ⟨a,o,its,n',rfl,e1,e2,e3,m⟩ q;obtain⟨j,rfl⟩:∃j,n=j+1:=⟨n-1,by omega⟩;exact zKo e1 e2 e3 (λv hv R hR=>let ⟨k,hk⟩:=m.each v hv;vk.quiet ∅ hk hR) q
end
abbrev NK:=Str × List (List Int)
def zOR (H:Hp) (k:NK) (a:Addr):Prop:=∃(b:Addr) (cs:List Addr),H a=some (.tup [.str k.1,.ref b])/\H b=some (.tup (cs.map V.ref))/\cs.length=k.2.length/\∀(i:Nat) c w,cs[i]?=some c->k.2[i]?=some w->H c=some (.tup (w.map V.int))
def zOR.same {H H':Hp} {k:NK} {a:Addr} (x:zOR H k a) (s:zAf H H'):zOR H' k a:=let ⟨b,cs,h1,h2,h3,h4⟩:=x;⟨b,cs,s _ _ h1,s _ _ h2,h3,λi c w e1 e2=>s _ _ (h4 i c w e1 e2)⟩
section
variable {X:Cx}
def zL0 (K:W.Frag) (hc:X.calm=true) (h:X.K=K:=by rfl):zB6 X (.builtin "all") (λxs H Q=>RAll K xs H Q):=by subst h;exact zMQ hc
def zAC (K:W.Frag) (h:X.K=K:=by rfl):zB6 X (.builtin "isinstance") (λxs H Q=>RIsI K xs H Q):=by subst h;exact zIq
def zDw (K:W.Frag) (h:X.K=K:=by rfl):zB6 X (.type "list") (λxs H Q=>RListOf K xs H Q):=by subst h;exact zHq
def zAo (K:W.Frag) {l i:Expr} {tl ti:TE} {at_:Pos} (hl:PE X l tl) (hi:PE X i ti) (hp:zIs i:=by intro _ _;rfl) (hK:X.K=K:=by rfl):PE X (.Subscript l i at_) (tOp (zQw K) tl ti):=zKy (zM8 K hK) hl hi hp
def zAW (K:W.Frag) {l i:Expr} {tl ti:TE} {at_:Pos} (hl:PE X l tl) (hi:PE X i ti) (hp:zIs i:=by intro _ _;rfl) (hK:X.K=K:=by rfl):PE X (.Subscript l i at_) (tOp (zQL K) tl ti):=zKy (zO5 K hK) hl hi hp
def zAE {n:Str} {v:Expr} {tv:TE} {p q:Pos} (i:Nat) (nd:X.N.Nodup) (hv:PE X v tv) (hi:X.N[i]?=some n:=by rfl) (hw:swapsWith v (some (.Name n q)) p.line X.env=pure false:=by rfl) (hl:X.env.scope.names.lookup n=some .local:=by rfl):PS X (.Assign [.Name n q] v p) (zQF tv (zJr i)):=zBa nd hi (.inl hl) hv hw (.inr hl)
def cal {n q:Str} {st:Stmt} {f:Addr} {fd:FuncData} {ps:List Str} {sp:Sp} {j k:Nat} {a:Expr} {as:List Expr} {t:TA} {p r:Pos} (F:FnOk X.prog X.w X.K X.mg X.base CX0 j f fd ps sp) (hr:Room k X.A) (hm:X.mg n=some (.ref f)) {n':Str} (G:Fun X.K n' q st f fd) (hb:zAg X.K fd ps []) (ha:PA X (a::as) t) (hj:j<=k:=by decide) (hg:Gl X n:=by rfl) (hd:(n == ("__debug__":Str))=false:=by decide)
  (he:starEach (a::as) X.env=(false,eval a X.env)::starEach as X.env:=by rfl) (hq:(backTo r (starEach as X.env)).any (·.1)=false:=by rfl):PE X (.Call (.Name n p) (a::as) [] r) (zPo sp [] E0 t):=zAU (F.mono hj) hr hg hm G.kp hb .nil zC9 ha hd he hq
end
def ndB {N:List Str} (h:decide N.Nodup=true:=by kernel_rfl):N.Nodup:=wHm h
abbrev zAu (K:W.Frag) (x:Str) (st:Stmt) (a:Addr) (d:FuncData):Prop:=Fun K x x st a d
#print Builtin.Str.subAt
end L2
namespace Pf
set_option maxHeartbeats 4000000
open PySem L2
theorem szl {n:Nat} (h:Nat.ble n 1000=true:=by rfl):n<=sizeLine:=Nat.le_trans (Nat.le_of_ble_eq_true h) ⋯
local macro_rules
 | `(tactic| bv_omega)=>`(tactic| (refine sz _ (wHe (m:=9000000) ?_ (by decide));repeat (first | with_reducible exact zOI | (with_reducible refine zRt (k:=1000) ?_ (by first | with_reducible assumption | decide +kernel)) | (with_reducible refine zRt (k:=1000002) ?_ (by with_reducible assumption)))))
def top (i:Nat):Stmt:=PySem.Challenge.pw_roundcede_k42_whole_one_pact_more.main.body.getD i (.Pass ⟨0,0,0,0⟩)
abbrev zB9:Stmt:=zBI (top 10) 0
abbrev zBO:Stmt:=top 16
abbrev zE8:Stmt:=top 17
abbrev zCU:Stmt:=top 18
abbrev zC3:Stmt:=top 24
abbrev zCm:Stmt:=top 25
abbrev zCY:Stmt:=top 26
abbrev zD9:Stmt:=top 29
abbrev zBp:Stmt:=top 31
abbrev zFT:Stmt:=top 32
abbrev zHN:Stmt:=top 33
abbrev zHK:Stmt:=top 34
abbrev zKb:Stmt:=top 37
abbrev zFR:Stmt:=top 38
abbrev zE5:Stmt:=top 39
abbrev zCV:Stmt:=top 41
abbrev zDC:Stmt:=top 42
abbrev zC2:Stmt:=top 43
abbrev zDD:Stmt:=top 44
abbrev zFS:Stmt:=top 45
abbrev zE4:Stmt:=top 49
abbrev zE3:Stmt:=top 50
abbrev zHO:Stmt:=top 51
abbrev zCl:Stmt:=top 52
abbrev zCT:Stmt:=top 53
abbrev zDB:Stmt:=top 65
abbrev zCq:Stmt:=zBI (top 66) 0
abbrev zCo:Stmt:=zBI (top 66) 1
abbrev zC4:Stmt:=zBI (top 66) 2
abbrev zC6:Stmt:=zBI (top 66) 4
abbrev zC5:Stmt:=zBI (top 66) 5
abbrev zDa:Stmt:=zBI (top 66) 6
abbrev zB4:Stmt:=zBI (top 66) 9
abbrev zCZ:Stmt:=zBI (top 66) 11
abbrev zCn:Stmt:=zBI (top 66) 13
abbrev zCp:Stmt:=zBI (top 66) 17
abbrev zQJ:Stmt:=top 68
abbrev zHP:Stmt:=top 69
abbrev zE7:Stmt:=top 70
abbrev zJX:Stmt:=top 71
abbrev zQI:Stmt:=top 72
abbrev zKa:Stmt:=top 73
abbrev zFV:Stmt:=top 74
abbrev zOa:Stmt:=top 75
abbrev zHQ:Stmt:=top 76
abbrev zKd:Stmt:=top 77
abbrev zJV:Stmt:=top 78
abbrev zKc:Stmt:=top 79
abbrev zOb:Stmt:=top 80
abbrev zE6:Stmt:=top 81
abbrev zNZ:Stmt:=top 82
abbrev zJZ:Stmt:=top 83
abbrev zNX:Stmt:=top 84
abbrev zJY:Stmt:=top 85
abbrev zFQ:Stmt:=top 86
abbrev zHJ:Stmt:=top 87
abbrev zDA:Stmt:=top 88
abbrev zCW:Stmt:=top 89
abbrev zJW:Stmt:=top 90
abbrev zFP:Stmt:=top 91
abbrev zHL:Stmt:=top 92
abbrev zHM:Stmt:=top 93
abbrev zFU:Stmt:=top 94
abbrev zCX:Stmt:=top 95
abbrev zNY:Stmt:=top 96
def zEe:FnScope ["self","day","names"] ["self","day","names"] (zM zB9):=by and_intros
def zBn:FnScope ["spans","days","first","last"] ["spans"] (zM zBO):=by and_intros
def zJb:FnScope ["spans","day"] ["spans","day"] (zM zE8):=by and_intros
def zBg:FnScope ["spans","firsts","behind","told","first","after"] ["spans"] (zM zCU):=by and_intros
def zDk:FnScope ["name","small"] ["name"] (zM zC3):=by and_intros
def zFj:FnScope ["number","least","most"] ["number","least","most"] (zM zCm):=by and_intros
def zG8:FnScope ["day"] ["day"] (zM zCY):=by and_intros
def zHF:FnScope ["names","name"] ["names","name"] (zM zD9):=by and_intros
def zAO:FnScope ["one","two","rest"] ["one","two"] (zM zBp):=by and_intros
def zEy:FnScope ["top","bottom","divisor"] ["top","bottom"] (zM zFT):=by and_intros
def zLV:FnScope ["one","two"] ["one","two"] (zM zHN):=by and_intros
def zLU:FnScope ["one","two"] ["one","two"] (zM zHK):=by and_intros
def zE1:FnScope ["count","ways","rests","giver","taker","part"] ["count","ways"] (zM zKb):=by and_intros
def zC0:FnScope ["marks","steps","reached","turn","before","behind"] ["marks","steps"] (zM zFR):=by and_intros
def zD8:FnScope ["count","ways","marks","free"] ["count","ways"] (zM zE5):=by and_intros
def zBh:FnScope ["count","ways","start","rows","place","giver","taker","part"] ["count","ways","start"] (zM zCV):=by and_intros
def zCj:FnScope ["row","divisor","number"] ["row"] (zM zDC):=by and_intros
def zBo:FnScope ["rows","place","own","told","other","row"] ["rows","place"] (zM zC2):=by and_intros
def zCk:FnScope ["count","ways","start","rows","place"] ["count","ways","start"] (zM zDD):=by and_intros
def zG7:FnScope ["count","ways","start","rests"] ["count","ways","start"] (zM zFS):=by and_intros
def zIZ:FnScope ["names","pacts"] ["names","pacts"] (zM zE4):=by and_intros
def zIY:FnScope ["names","pacts","day"] ["names","pacts","day"] (zM zE3):=by and_intros
def zFM:FnScope ["names","pacts","ways","spans"] ["names","pacts"] (zM zHO):=by and_intros
def zFi:FnScope ["names","giver","taker","part","first","last"] ["names","giver","taker","part","first","last"] (zM zCl):=by and_intros
def zAK:FnScope ["names","pacts","new","days","giver","day","ways","found"] ["names","pacts","new"] (zM zCT):=by and_intros
def zHI:FnScope ["deed"] ["deed"] (zM zDB):=by and_intros
def zFl:FnScope ["self"] ["self"] (zM zCq):=by and_intros
def zFk:FnScope ["self"] ["self"] (zM zCo):=by and_intros
def zFN:FnScope ["self"] ["self"] (zM zC4):=by and_intros
def zFO:FnScope ["self"] ["self"] (zM zC6):=by and_intros
def zDl:FnScope ["self","name","names"] ["self","name"] (zM zC5):=by and_intros
def zGA:FnScope ["self","giver","taker","part","first","last"] ["self","giver","taker","part","first","last"] (zM zDa):=by and_intros
def zBX:FnScope ["self","new","whom"] ["self","new"] (zM zB4):=by and_intros
def zG9:FnScope ["self","day"] ["self","day"] (zM zCZ):=by and_intros
def zBN:FnScope ["self","house","day","names","start"] ["self","house","day"] (zM zCn):=by and_intros
def zBc:FnScope ["self","house","day","giver","taker","part","first","last","names","start","new","after"] ["self","house","day","giver","taker","part","first","last"] (zM zCp):=by and_intros
def zQH:FnScope ["_law_script","_law_k"] ["_law_script","_law_k"] (zM zQJ):=by and_intros
def zCi:FnScope ["_law_script","_law_many","_law_cells","_law_seed","_law_made_here","_law_k","_law_cell"] ["_law_script","_law_many"] (zM zHP):=by and_intros
def zAY:FnScope ["_law_draw","_law_count","_law_letters","_law_words","_law_made_here","_law_k","_law_tell","_law_size","_law_cut","_law_stem","_law_name"] ["_law_draw","_law_count"] (zM zE7):=by and_intros
def zBz:FnScope ["_law_five","_law_count","_law_pacts","_law_giver","_law_taker","_law_ends","_law_given","_law_one","_law_wide","_law_rest","_law_part"] ["_law_five","_law_count","_law_pacts"] (zM zJX):=by and_intros
def zHG:FnScope ["_law_pacts","_law_day","_law_made_here","_law_giver","_law_taker","_law_part","_law_first","_law_last"] ["_law_pacts","_law_day"] (zM zQI):=by and_intros
def zE0:FnScope ["_law_count","_law_ways","_law_keeps","_law_giver","_law_taker","_law_part"] ["_law_count","_law_ways"] (zM zKa):=by and_intros
def zB3:FnScope ["_law_count","_law_ways","_law_safe","_law_more_here","_law_giver","_law_taker","_law_part"] ["_law_count","_law_ways"] (zM zFV):=by and_intros
def zE2:FnScope ["_law_count","_law_pacts","_law_new","_law_days","_law_one","_law_day","_law_shut"] ["_law_count","_law_pacts","_law_new"] (zM zOa):=by and_intros
def zEj:FnScope ["_law_draws_here","_law_count","_law_many","_law_pacts","_law_k","_law_new"] ["_law_draws_here","_law_count","_law_many"] (zM zHQ):=by and_intros
def zC1:FnScope ["_law_names_here","_law_pacts","_law_book_here","_law_name","_law_giver","_law_taker","_law_part","_law_first","_law_last"] ["_law_names_here","_law_pacts"] (zM zKd):=by and_intros
def zCh:FnScope ["_law_e","_law_flags","_law_words","_law_found","_law_good"] ["_law_e"] (zM zJV):=by and_intros
def zNW:FnScope ["_law_book_here","_law_row"] ["_law_book_here","_law_row"] (zM zKc):=by and_intros
def zFz:FnScope ["_law_book_here","_law_row","_law_told","_law_e"] ["_law_book_here","_law_row"] (zM zOb):=by and_intros
def zJa:FnScope ["_law_told","_law_word_here"] ["_law_told","_law_word_here"] (zM zE6):=by and_intros
def zFy:FnScope ["_law_one","_law_two","_law_big","_law_small","_law_rest"] ["_law_one","_law_two"] (zM zNZ):=by and_intros
def zJU:FnScope ["_law_top","_law_bottom","_law_by"] ["_law_top","_law_bottom"] (zM zJZ):=by and_intros
def zPt:FnScope ["_law_one","_law_two"] ["_law_one","_law_two"] (zM zNX):=by and_intros
def zNV:FnScope ["_law_one","_law_by","_law_two"] ["_law_one","_law_by","_law_two"] (zM zJY):=by and_intros
def zAH:FnScope ["_law_count","_law_ways","_law_goes","_law_came","_law_giver","_law_taker","_law_part","_law_k","_law_out","_law_round_top","_law_round_low","_law_low","_law_by"] ["_law_count","_law_ways"] (zM zFQ):=by and_intros
def zLT:FnScope ["_law_found"] ["_law_found"] (zM zHJ):=by and_intros
def zHH:FnScope ["_law_found"] ["_law_found"] (zM zDA):=by and_intros
def zDR:FnScope ["_law_found","_law_count","_law_one"] ["_law_found","_law_count"] (zM zCW):=by and_intros
def zJT:FnScope ["_law_found","_law_due_here","_law_k"] ["_law_found","_law_due_here"] (zM zJW):=by and_intros
def zEx:FnScope ["_law_found","_law_due_here","_law_k","_law_j"] ["_law_found","_law_due_here"] (zM zFP):=by and_intros
def zIz:FnScope ["_law_found","_law_due_here","_law_k"] ["_law_found","_law_due_here"] (zM zHL):=by and_intros
def zDj:FnScope ["_law_count","_law_ways","_law_came","_law_keeps","_law_made_here","_law_row"] ["_law_count","_law_ways"] (zM zHM):=by and_intros
def zEz:FnScope ["_law_with_it","_law_without","_law_made_here","_law_k"] ["_law_with_it","_law_without"] (zM zFU):=by and_intros
def zAA:FnScope ["_law_book_here","_law_names_here","_law_pacts","_law_new","_law_day","_law_count","_law_old","_law_more_here","_law_tail","_law_start","_law_due_here","_law_turn","_law_told"] ["_law_book_here","_law_names_here","_law_pacts","_law_new","_law_day"] (zM zCX):=by and_intros
def zB2:FnScope ["_law_script","_law_draws_here","_law_count","_law_names_here","_law_pacts","_law_book_here","_law_new","_law_row","_law_word_here","_law_first","_law_who","_law_told","_law_shut_names","_law_days","_law_day","_law_due_here"] ["_law_script"] (zM zNY):=by and_intros
set_option genInjectivity false in
set_option genSizeOf false in
structure Adr where
 (wAr wAI wB9 wBi wA5 wAQ wBk wBG wAs wCL wDl wDn wD6 wCN wCb wBm wBI wA7 wBK wBM wCd wCf wDp wAS wBo wBN wAB wAV wA9 wBb wBd wBq wAC wBs wAX wAZ wF5 wDr wDt wD8 wF7 wEa wCQ wFj wDv wEc wEe wEg wFl wCh wFn wEi wFp wEk wCS wDx wBP wBu wEm wCU wDz wDB wCW wBw wFr:Addr)
 (wAE wAJ wCa wBj wA6 wAR wBl wBH wAt wCM wDm wDo wD7 wCO wCc wBn wBJ wA8 wBL wCP wCe wCg wDq wAT wBp wBO wAU wAW wBa wBc wBe wBr wAD wBt wAY wA0 wF6 wDs wDu wD9 wF8 wEb wCR wFk wDw wEd wEf wEh wFm wCi wFo wEj wFq wEl wCT wDy wBQ wBv wEn wCV wDA wDC wCX wBx wFs:FuncData)
 (wAz wAo wAk wAh wAn wAj wAg wAc wAa wAu wAp wAM wAd:Addr)
structure Txt (P:Program) (K:W.Frag) (mg:Str->Option Value) (t:Adr):Prop where
 tree:P.given.tree=none
 wC8:Fun K "__init__" "ShutIn.__init__" zB9 t.wAr t.wAE
 wC9:zAg K t.wAE ["self","day","names"] []
 wGk:Meth K t.wAa "__init__" t.wAr
 wBz:zAu K "turning_days" zBO t.wAI t.wAJ
 wDD:zAg K t.wAJ ["spans"] []
 wDE:mg "turning_days"=some (.ref t.wAI)
 wDM:zAu K "holding" zE8 t.wB9 t.wCa
 wFL:zAg K t.wCa ["spans","day"] []
 wFM:mg "holding"=some (.ref t.wB9)
 wCC:zAu K "stretches" zCU t.wBi t.wBj
 wEW:zAg K t.wBj ["spans"] []
 wEX:mg "stretches"=some (.ref t.wBi)
 wCj:zAu K "check_name" zC3 t.wA5 t.wA6
 wEo:zAg K t.wA6 ["name"] []
 wEp:mg "check_name"=some (.ref t.wA5)
 wA1:zAu K "check_range" zCm t.wAQ t.wAR
 wBZ:zAg K t.wAR ["number","least","most"] []
 wB0:mg "check_range"=some (.ref t.wAQ)
 wAA:zAu K "check_day" zCY t.wBk t.wBl
 wAK:zAg K t.wBl ["day"] []
 wAL:mg "check_day"=some (.ref t.wBk)
 wAy:zAu K "place_of" zD9 t.wBG t.wBH
 wAF:zAg K t.wBH ["names","name"] []
 wAG:mg "place_of"=some (.ref t.wBG)
 wAv:zAu K "greatest_divisor" zBp t.wAs t.wAt
 wAN:zAg K t.wAt ["one","two"] []
 wAO:mg "greatest_divisor"=some (.ref t.wAs)
 wBf:zAu K "lowest" zFT t.wCL t.wCM
 wBR:zAg K t.wCM ["top","bottom"] []
 wBS:mg "lowest"=some (.ref t.wCL)
 wFb:zAu K "minus" zHN t.wDl t.wDm
 wGr:zAg K t.wDm ["one","two"] []
 wGs:mg "minus"=some (.ref t.wDl)
 wFc:zAu K "times" zHK t.wDn t.wDo
 wGt:zAg K t.wDo ["one","two"] []
 wGu:mg "times"=some (.ref t.wDn)
 wDa:zAu K "kept" zKb t.wD6 t.wD7
 wEq:zAg K t.wD7 ["count","ways"] []
 wEr:mg "kept"=some (.ref t.wD6)
 wEs:zAu K "spread" zFR t.wCN t.wCO
 wF9:zAg K t.wCO ["marks","steps"] []
 wGa:mg "spread"=some (.ref t.wCN)
 wDN:zAu K "shut_in" zE5 t.wCb t.wCc
 wFN:zAg K t.wCc ["count","ways"] []
 wFO:mg "shut_in"=some (.ref t.wCb)
 wCD:zAu K "loss_rows" zCV t.wBm t.wBn
 wEY:zAg K t.wBn ["count","ways","start"] []
 wEZ:mg "loss_rows"=some (.ref t.wBm)
 wDb:zAu K "cut_down" zDC t.wBI t.wBJ
 wFt:zAg K t.wBJ ["row"] []
 wFu:mg "cut_down"=some (.ref t.wBI)
 wCk:zAu K "strike_out" zC2 t.wA7 t.wA8
 wEt:zAg K t.wA8 ["rows","place"] []
 wEu:mg "strike_out"=some (.ref t.wA7)
 wDc:zAu K "arrivals" zDD t.wBK t.wBL
 wFv:zAg K t.wBL ["count","ways","start"] []
 wFw:mg "arrivals"=some (.ref t.wBK)
 wCY:zAu K "shares" zFS t.wBM t.wCP
 wEv:zAg K t.wCP ["count","ways","start"] []
 wGU:mg "shares"=some (.ref t.wBM)
 wCl:zAu K "ways_of" zE4 t.wCd t.wCe
 wDO:zAg K t.wCe ["names","pacts"] []
 wDP:mg "ways_of"=some (.ref t.wCd)
 wCm:zAu K "ways_on" zE3 t.wCf t.wCg
 wDQ:zAg K t.wCg ["names","pacts","day"] []
 wDR:mg "ways_on"=some (.ref t.wCf)
 wFd:zAu K "looks" zHO t.wDp t.wDq
 wGv:zAg K t.wDq ["names","pacts"] []
 wGw:mg "looks"=some (.ref t.wDp)
 wA2:zAu K "check_terms" zCl t.wAS t.wAT
 wB1:zAg K t.wAT ["names","giver","taker","part","first","last"] []
 wB2:mg "check_terms"=some (.ref t.wAS)
 wCE:zAu K "whom_shut" zCT t.wBo t.wBp
 wE0:zAg K t.wBp ["names","pacts","new"] []
 wE1:mg "whom_shut"=some (.ref t.wBo)
 wDd:zAu K "deed_row" zDB t.wBN t.wBO
 wFx:zAg K t.wBO ["deed"] []
 wFy:mg "deed_row"=some (.ref t.wBN)
 wDV:Fun K "__init__" "Book.__init__" zCq t.wAB t.wAU
 wDW:zAg K t.wAU ["self"] []
 wGG:Meth K t.wAd "__init__" t.wAB
 wDX:Fun K "houses" "Book.houses" zCo t.wAV t.wAW
 wAl:zAg K t.wAW ["self"] []
 wAm:Meth K t.wAd "houses" t.wAV
 wEw:Fun K "pacts" "Book.pacts" zC4 t.wA9 t.wBa
 wAw:zAg K t.wBa ["self"] []
 wAx:Meth K t.wAd "pacts" t.wA9
 wEx:Fun K "deeds" "Book.deeds" zC6 t.wBb t.wBc
 wEy:zAg K t.wBc ["self"] []
 wEz:Meth K t.wAd "deeds" t.wBb
 wEA:Fun K "house" "Book.house" zC5 t.wBd t.wBe
 wEB:zAg K t.wBe ["self","name"] []
 wEC:Meth K t.wAd "house" t.wBd
 wE2:Fun K "pact" "Book.pact" zDa t.wBq t.wBr
 wCF:zAg K t.wBr ["self","giver","taker","part","first","last"] []
 wCG:Meth K t.wAd "pact" t.wBq
 wCZ:Fun K "check_new" "Book.check_new" zB4 t.wAC t.wAD
 wBg:zAg K t.wAD ["self","new"] []
 wBh:Meth K t.wAd "check_new" t.wAC
 wE3:Fun K "ways" "Book.ways" zCZ t.wBs t.wBt
 wE4:zAg K t.wBt ["self","day"] []
 wE5:Meth K t.wAd "ways" t.wBs
 wDY:Fun K "shares" "Book.shares" zCn t.wAX t.wAY
 wA3:zAg K t.wAY ["self","house","day"] []
 wA4:Meth K t.wAd "shares" t.wAX
 wDZ:Fun K "change" "Book.change" zCp t.wAZ t.wA0
 wD0:zAg K t.wA0 ["self","house","day","giver","taker","part","first","last"] []
 wD1:Meth K t.wAd "change" t.wAZ
 wGb:zAu K "_law_at" zQJ t.wF5 t.wF6
 wGH:zAg K t.wF6 ["_law_script","_law_k"] []
 wGI:mg "_law_at"=some (.ref t.wF5)
 wFe:zAu K "_law_draws" zHP t.wDr t.wDs
 wGx:zAg K t.wDs ["_law_script","_law_many"] []
 wGy:mg "_law_draws"=some (.ref t.wDr)
 wFf:zAu K "_law_names" zE7 t.wDt t.wDu
 wGz:zAg K t.wDu ["_law_draw","_law_count"] []
 wGA:mg "_law_names"=some (.ref t.wDt)
 wED:zAu K "_law_pact" zJX t.wD8 t.wD9
 wFP:zAg K t.wD9 ["_law_five","_law_count","_law_pacts"] []
 wFQ:mg "_law_pact"=some (.ref t.wD8)
 wDF:zAu K "_law_on" zQI t.wF7 t.wF8
 wEE:zAg K t.wF8 ["_law_pacts","_law_day"] []
 wEF:mg "_law_on"=some (.ref t.wF7)
 wDe:zAu K "_law_left" zKa t.wEa t.wEb
 wEG:zAg K t.wEb ["_law_count","_law_ways"] []
 wEH:mg "_law_left"=some (.ref t.wEa)
 wEI:zAu K "_law_closed" zFV t.wCQ t.wCR
 wGc:zAg K t.wCR ["_law_count","_law_ways"] []
 wGd:mg "_law_closed"=some (.ref t.wCQ)
 wFz:zAu K "_law_due" zOa t.wFj t.wFk
 wGl:zAg K t.wFk ["_law_count","_law_pacts","_law_new"] []
 wGm:mg "_law_due"=some (.ref t.wFj)
 wFg:zAu K "_law_built" zHQ t.wDv t.wDw
 wGB:zAg K t.wDw ["_law_draws_here","_law_count","_law_many"] []
 wGC:mg "_law_built"=some (.ref t.wDv)
 wFR:zAu K "_law_book" zKd t.wEc t.wEd
 wGJ:zAg K t.wEd ["_law_names_here","_law_pacts"] []
 wGK:mg "_law_book"=some (.ref t.wEc)
 wEJ:zAu K "_law_word" zJV t.wEe t.wEf
 wFS:zAg K t.wEf ["_law_e"] []
 wFT:mg "_law_word"=some (.ref t.wEe)
 wFU:zAu K "_law_call" zKc t.wEg t.wEh
 wGL:zAg K t.wEh ["_law_book_here","_law_row"] []
 wGM:mg "_law_call"=some (.ref t.wEg)
 wFA:zAu K "_law_ask" zOb t.wFl t.wFm
 wGn:zAg K t.wFm ["_law_book_here","_law_row"] []
 wGo:mg "_law_ask"=some (.ref t.wFl)
 wDS:zAu K "_law_refused" zE6 t.wCh t.wCi
 wFV:zAg K t.wCi ["_law_told","_law_word_here"] []
 wFW:mg "_law_refused"=some (.ref t.wCh)
 wFB:zAu K "_law_gcd" zNZ t.wFn t.wFo
 wGp:zAg K t.wFo ["_law_one","_law_two"] []
 wGq:mg "_law_gcd"=some (.ref t.wFn)
 wBA:zAu K "_law_made" zJZ t.wEi t.wEj
 wCn:zAg K t.wEj ["_law_top","_law_bottom"] []
 wCo:mg "_law_made"=some (.ref t.wEi)
 wD4:zAu K "_law_sum" zNX t.wFp t.wFq
 wFC:zAg K t.wFq ["_law_one","_law_two"] []
 wFD:mg "_law_sum"=some (.ref t.wFp)
 wEK:zAu K "_law_more" zJY t.wEk t.wEl
 wFX:zAg K t.wEl ["_law_one","_law_by","_law_two"] []
 wFY:mg "_law_more"=some (.ref t.wEk)
 wEL:zAu K "_law_struck" zFQ t.wCS t.wCT
 wGe:zAg K t.wCT ["_law_count","_law_ways"] []
 wGf:mg "_law_struck"=some (.ref t.wCS)
 wCw:zAu K "_law_whole" zHJ t.wDx t.wDy
 wDG:zAg K t.wDy ["_law_found"] []
 wDH:mg "_law_whole"=some (.ref t.wDx)
 wDf:zAu K "_law_fraction" zDA t.wBP t.wBQ
 wFE:zAg K t.wBQ ["_law_found"] []
 wFF:mg "_law_fraction"=some (.ref t.wBP)
 wCH:zAu K "_law_fractions" zCW t.wBu t.wBv
 wE6:zAg K t.wBv ["_law_found","_law_count"] []
 wE7:mg "_law_fractions"=some (.ref t.wBu)
 wDg:zAu K "_law_same" zJW t.wEm t.wEn
 wEM:zAg K t.wEn ["_law_found","_law_due_here"] []
 wEN:mg "_law_same"=some (.ref t.wEm)
 wEO:zAu K "_law_tuples" zFP t.wCU t.wCV
 wGg:zAg K t.wCV ["_law_found","_law_due_here"] []
 wGh:mg "_law_tuples"=some (.ref t.wCU)
 wFh:zAu K "_law_texts" zHL t.wDz t.wDA
 wGD:zAg K t.wDA ["_law_found","_law_due_here"] []
 wGE:mg "_law_texts"=some (.ref t.wDz)
 wCx:zAu K "_law_table" zHM t.wDB t.wDC
 wDI:zAg K t.wDC ["_law_count","_law_ways"] []
 wDJ:mg "_law_table"=some (.ref t.wDB)
 wEP:zAu K "_law_less" zFU t.wCW t.wCX
 wGi:zAg K t.wCX ["_law_with_it","_law_without"] []
 wGj:mg "_law_less"=some (.ref t.wCW)
 wCI:zAu K "_law_day_right" zCX t.wBw t.wBx
 wE8:zAg K t.wBx ["_law_book_here","_law_names_here","_law_pacts","_law_new","_law_day"] []
 wE9:mg "_law_day_right"=some (.ref t.wBw)
 wGQ:zAu K "law" zNY t.wFr t.wFs
 wGV:zAg K t.wFs ["_law_script"] []
 wGW:mg "law"=some (.ref t.wFr)
 wCJ:mg "CedeError"=some (.ref t.wAz)
 wDT:mg "BadName"=some (.ref t.wAo)
 wCp:mg "KnownHouse"=some (.ref t.wAk)
 wBB:mg "UnknownHouse"=some (.ref t.wAh)
 wDh:mg "ToItself"=some (.ref t.wAn)
 wCq:mg "DaysTurned"=some (.ref t.wAj)
 wCr:mg "OutOfRange"=some (.ref t.wAg)
 wDU:mg "TooMuch"=some (.ref t.wAc)
 wC0:mg "ShutIn"=some (.ref t.wAa)
 wEQ:mg "Full"=some (.ref t.wAu)
 wD2:mg "NothingDone"=some (.ref t.wAp)
 wFZ:mg "Unclear"=some (.ref t.wAM)
 wGN:mg "Book"=some (.ref t.wAd)
 wAf:Cls K t.wAd
 wGO:Mk K t.wAd t.wAB
 wAq:zFe K t.wAd "told"
 wER:XMk K t.wAa t.wAr
 wAH:XF K t.wAa "day"
 wBC:XF K t.wAa "names"
 wFa:XB K t.wAz
 wF0:W.excIn K t.wAo vEr "ValueError.__new__"=true
 wES:W.excIn K t.wAk vEr "ValueError.__new__"=true
 wF1:W.excIn K t.wAu vEr "ValueError.__new__"=true
 wDK:W.excIn K t.wAh vEr "ValueError.__new__"=true
 wET:W.excIn K t.wAg vEr "ValueError.__new__"=true
 wFG:W.excIn K t.wAn vEr "ValueError.__new__"=true
 wEU:W.excIn K t.wAj vEr "ValueError.__new__"=true
 wF2:W.excIn K t.wAc vEr "ValueError.__new__"=true
 wF3:ExcX K t.wAc
 wC1:W.exmOne K (.ref t.wAc) (.ref t.wAa)=some false
 wB4:W.exmOne K (.ref t.wAc) (.ref t.wAz)=some true
 wCy:W.kitOne K (.ref t.wAc) (.ref t.wAo)=some false
 wBT:W.kitOne K (.ref t.wAc) (.ref t.wAk)=some false
 wBy:W.kitOne K (.ref t.wAc) (.ref t.wAh)=some false
 wCs:W.kitOne K (.ref t.wAc) (.ref t.wAn)=some false
 wBU:W.kitOne K (.ref t.wAc) (.ref t.wAj)=some false
 wBV:W.kitOne K (.ref t.wAc) (.ref t.wAg)=some false
 wCz:W.kitOne K (.ref t.wAc) (.ref t.wAc)=some true
 wC2:W.kitOne K (.ref t.wAc) (.ref t.wAa)=some false
 wDL:W.kitOne K (.ref t.wAc) (.ref t.wAu)=some false
 wBD:W.kitOne K (.ref t.wAc) (.ref t.wAp)=some false
 wCA:W.kitOne K (.ref t.wAc) (.ref t.wAM)=some false
 wBW:W.kitOne K (.ref t.wAc) (.type "ValueError")=some true
 wC3:ExcX K t.wAa
 wDi:W.exmOne K (.ref t.wAa) (.ref t.wAa)=some true
 wCt:W.exmOne K (.ref t.wAa) (.ref t.wAz)=some true
 wC4:W.kitOne K (.ref t.wAa) (.ref t.wAo)=some false
 wB5:W.kitOne K (.ref t.wAa) (.ref t.wAk)=some false
 wBE:W.kitOne K (.ref t.wAa) (.ref t.wAh)=some false
 wCB:W.kitOne K (.ref t.wAa) (.ref t.wAn)=some false
 wB6:W.kitOne K (.ref t.wAa) (.ref t.wAj)=some false
 wB7:W.kitOne K (.ref t.wAa) (.ref t.wAg)=some false
 wC5:W.kitOne K (.ref t.wAa) (.ref t.wAc)=some false
 wDj:W.kitOne K (.ref t.wAa) (.ref t.wAa)=some true
 wD3:W.kitOne K (.ref t.wAa) (.ref t.wAu)=some false
 wBX:W.kitOne K (.ref t.wAa) (.ref t.wAp)=some false
 wC6:W.kitOne K (.ref t.wAa) (.ref t.wAM)=some false
 wB8:W.kitOne K (.ref t.wAa) (.type "ValueError")=some true
 wBY:∃t,mg "LAST_DAY"=some (.int 5000 t)
 wF4:∃t,mg "LETTERS"=some (.str "abcdefghijklmnopqrstuvwxyz" t)
 wBF:∃t,mg "LONGEST_NAME"=some (.int 8 t)
 wB3:∃t,mg "MOST_HOUSES"=some (.int 15 t)
 wCu:∃t,mg "MOST_PACTS"=some (.int 80 t)
 wGF:∃t,mg "WHOLE"=some (.int 1000 t)
 wEV:mg "ValueError"=none
 wDk:mg "abs"=none
 wGR:mg "all"=none
 wGP:mg "bool"=none
 wCK:mg "enumerate"=none
 wFH:mg "int"=none
 wAb:mg "isinstance"=none
 wAi:mg "len"=none
 wCv:mg "list"=none
 wFI:mg "max"=none
 wFJ:mg "min"=none
 wAe:mg "range"=none
 wGS:mg "set"=none
 wC7:mg "sorted"=none
 wFK:mg "str"=none
 wGT:mg "sum"=none
 wFi:mg "tuple"=none
 wD5:mg "zip"=none
 wAP:mg "shares_equations"=some (.ref t.wBM)
section
variable {P:Program} {w:World} {K:W.Frag} {mg:Str->Option Value} {base:Heap} {t:Adr}
def zBw {x m:Int} {n:Nat} (h:0 < m) (k:m<=n):0<=x%m/\x%m < n:=⟨Int.emod_nonneg _ ∅,Int.lt_of_lt_of_le (Int.emod_lt_of_pos _ h) k⟩
inductive sp_at (K:W.Frag) (vs:List V) (H:Hp) (Q:VK) (E:XK):Prop
 | mk (a:Addr) (ns:List Int) (k:Int):vs=[.ref a,.int k]->(SqL K H a (ns.map V.int)/\0<=k/\Q (.int (ns.getD k.toNat 0)) H)->sp_at K vs H Q E
def zRb {ns:List Int} {k:Int} (h0:0<=k) (h:k < (ns.length:Int)):atI (ns.map V.int) k=some (.int (ns.getD k.toNat 0)):=by
 have hk:k.toNat < ns.length:=by omega
 have ek:k=((k.toNat:Nat):Int):=by omega
 have q:atI (ns.map V.int) ((k.toNat:Nat):Int)=some (.int (ns.getD k.toNat 0)):=zDM (by rw[wG6,wG0 hk,wG4,wG0 hk];rfl);rw[← ek] at q;exact q
def zQp {ns:List Int} {k:Int} (h:¬k < (ns.length:Int)):ns.getD k.toNat 0=0:=by
 rw[wG4,wH0 ∅]
 rfl
def zPQ (T:Txt P K mg t):FnOk P w K mg base CX0 40 t.wF5 t.wF6 ["_law_script","_law_k"] (sp_at K):=by
 refine T.wGb.ok zQH ⟨⟩ ();obtain⟨a,ns,k,rfl,hS,h0,q⟩:=h;refine⟨_,(zD (zA4 (zAc zGP (pv 1) (zS (zAi K) rfl T.wAi wHr (zI (pv 0) zE zA)) (zAj _)) (zH (zX (zAo K (pv 0) (pv 1)))) zAd)
  (zH (zX zG))),?_⟩
 have hl:(ns.map V.int).length=ns.length:=wGX _;refine⟨_,rfl,_,rfl,a,_,rfl,.inl hS,_,_,rfl,rfl,_,rfl,?_⟩;refine zCw (λc=>?_) (λc=>?_)
 ·have c':k < (((ns.map V.int).length:Nat):Int):=wHm c;rw[hl] at c';exact⟨_,rfl,_,rfl,a,_,_,_,rfl,rfl,hS,zRb h0 c',q⟩
 have c':¬k < (((ns.map V.int).length:Nat):Int):=wHz (wIl c);rw[hl] at c';rw[zQp c'] at q;exact q
inductive sp_draws (K:W.Frag) (vs:List V) (H:Hp) (Q:VK) (E:XK):Prop
 | mk (a:Addr) (ns:List Int) (m:Int):vs=[.ref a,.int m]->(SqL K H a (ns.map V.int)/\0<=m/\m<=900/\
 ∀(l:Addr) (ds:List Int) (H':Hp),H l=none->zAf H H'->H' l=some (.lst (ds.map V.int))->(ds.length:Int)=m->(∀d∈ds,0<=d/\d < 10 ^ 13)->Q (.ref l) H')->sp_draws K vs H Q E
def zMr (T:Txt P K mg t):FnOk P w K mg base CX0 41 t.wDr t.wDs ["_law_script","_law_many"] (sp_draws K):=by
 refine T.wFe.ok zCi ⟨⟩ ();obtain⟨a,ns,m,rfl,hS,m0,m9,q⟩:=h;refine⟨_,(zD (zDF ["_law_k","_law_script"] [none,some 0] (by kernel_rfl) rfl (zAh rfl T.wAe (zI zG zE zJ)) (λ_ _ _ _ _=>(zK (i:=0) ndB rfl (Or.inl rfl))) (λ_ _ _ _ _=>zAs) (λ_ _ _ _ _=>(cal (zPQ T) hr T.wGI T.wGb T.wGH (zN (pv 1) (zW zBj zG (pv 0)) zE zA zT))) (zK (i:=2) zCi.nd rfl (Or.inl rfl)))
  (zD (zAE 3 zCi.nd (zW zAt (zS (zLz K rfl) rfl T.wGT PyProof.Rows.boot_sum (zI (pv 2) zE zA)) zG))
  (zD (zAE 4 zCi.nd (zAk zE))
  (zD (zAp PassesOwn.never rfl (zAh rfl T.wAe (zI (pv 1) zE zA)) (zK (i:=5) zCi.nd rfl (Or.inl rfl)) (zD (zAE 6 zCi.nd (zAo K (pv 2) (zW zAt (pv 5) zG)))
  (zH (zA4 (zAc zCA (zW zAt (cal (zPQ T) hr T.wGI T.wGb T.wGH (zN (pv 0) zG zE zA zJ)) zG) zG (zAj _)) (zD (zAE 3 zCi.nd (zW zAt (zW zBj (zW zBj (zW zBj (zW zGO (pv 3) zG) (pv 6)) (pv 5)) zG) zG))
  (zH (zAn (zBv K wHv wHG wHJ zAx (pv 4) (zI (zW zAt (zW zGO (pv 3) zG) zG) zE zT))))) (zD (zAn (zBv K wHv wHG wHJ zAx (pv 4) (zI (zW zAt (pv 6) (zW zNk zG zG)) zE zT)))
  (zH (zBB (zW zMl (pv 6) (zW zNk zG zG)) (zBZ (pv 2) (zW zAt (pv 5) zG) zAG))))))))
  (zH (zX (pv 4))))))),?_⟩
 refine⟨62,rfl,by decide,by decide,λc hc=>?_⟩;refine zAT (λi σ' H'=>∃(v:Option V) (cs:List Int),σ'=[v,some (.ref a)]/\cs.length=i/\H'=upd H c (.lst (cs.map V.int))) ⟨none,[],rfl,rfl,rfl⟩ ?_ ?_
 ·rintro i σ' H' hi ⟨v,cs,rfl,hl,rfl⟩;refine⟨_,rfl,_,rfl,_,_,rfl,rfl,a,ns,1+(0+(i:Int)),rfl,(zC hc _).seq hS,by omega,_,zB,?_,?_⟩
  ·rw[wGX];exact zAB ∅
  exact⟨_,cs++[ns.getD (1+(0+(i:Int))).toNat 0],rfl,by rw[wG7,hl];rfl,by rw[zBx,zCg]⟩
 rintro σ' H1 ⟨v,cs,rfl,hl,rfl⟩;refine⟨_,rfl,c,cs,rfl,SqL.of zB,_,_,rfl,rfl,(by show (0:Int) < 2147483647;decide),?_⟩;refine⟨szl,λd hd=>?_⟩;have aQ:c≠d:=zP zB hd;have bW:H d=none:=(zC hc _).free hd;have s0:zAf H (upd (upd H c (.lst (cs.map V.int))) d (.lst [])):=(zC hc _).trans (zC hd _);refine⟨_,rfl,m,rfl,by omega,by omega,zA1 (n:=m.toNat) (λi σ' H'=>∃(cs ds:List Int) (sd:Int) (v w:Option V),σ'=[some (.ref a),some (.int m),some (.ref c),some (.int sd),some (.ref d),v,w]/\zAf H H'/\
  H' c=some (.lst (cs.map V.int))/\cs.length=62/\H' d=some (.lst (ds.map V.int))/\ds.length=i/\∀x∈ds,0<=x/\x < 10 ^ 13) ⟨cs,[],_,none,none,rfl,s0,by rw[zO aQ];exact zB,hl,zB,rfl,λx hx=>by cases hx⟩ ?_ ?_⟩
 ·rintro i σ' H' hi ⟨cs,ds,sd,v,w,rfl,sm,ec,lc,ed,ld,hx⟩;have k0:=zBw (x:=0+(i:Int)) (m:=62) (n:=62) ⋯ ⋯;refine⟨_,rfl,_,rfl,_,_,rfl,rfl,(by show (0:Int) < 62;decide),c,_,_,_,rfl,rfl,SqL.of ec,zFD k0.1 ∅,?_⟩;obtain⟨ce,hce⟩:∃ce:Int,ce=cs.getD ((0+(i:Int))%62).toNat 0:=⟨_,rfl⟩;refine⟨_,rfl,a,ns,0,rfl,sm.seq hS,by omega,_,_,rfl,rfl,(by show (0:Int) < 2;decide),rfl,_,rfl,?_⟩;refine zCw (λ_=>?_) (λ_=>?_)
  ·refine⟨_,rfl,_,_,rfl,rfl,.inr ⟨by decide,by decide⟩,_,rfl,_,_,rfl,rfl,_,rfl,_,_,rfl,rfl,_,_,rfl,rfl,_,_,rfl,rfl,(by show (0:Int) < 2147483647;decide),?_⟩;refine⟨_,rfl,.inl ⟨rfl,_,SqL.of ed⟩,_,rfl,_,_,rfl,rfl,.inr ⟨by decide,by decide⟩,_,_,rfl,rfl,(by show (0:Int) < 2147483647;decide),d,_,_,rfl,rfl,ed,?_,?_⟩
   ·rw[wGX];exact zAB ∅
   refine⟨cs,ds++[_],_,_,_,rfl,zY sm bW _,by rw[zO aQ];exact ec,lc,by rw[zB,zCg],by rw[wG7,ld];rfl,λx hm=>?_⟩;rcases wIm hm with z | z
   ·exact hx x z
   rw[wIj z];have b:=λx:Int=>zBw (x:=x) (m:=2147483647) (n:=2147483647) ⋯ ⋯;exact⟨(b _).1,Int.lt_trans (b _).2 ⋯⟩
  refine⟨_,rfl,.inl ⟨rfl,_,SqL.of ed⟩,_,rfl,_,_,rfl,rfl,⟨by decide,by decide,by decide⟩,_,_,rfl,rfl,(by show (0:Int) < 10 ^ (13:Int).toNat;decide),d,_,_,rfl,rfl,ed,?_,?_⟩
  ·rw[wGX];exact zAB ∅
  refine⟨_,rfl,_,_,rfl,rfl,⟨by decide,by decide,by decide⟩,_,_,rfl,rfl,⟨(by show (0:Int) < 10 ^ (13:Int).toNat;decide),Sm.of ⋯⟩,_,rfl,_,rfl,_,_,rfl,rfl,(by show (0:Int) < 62;decide),c,_,_,_,rfl,rfl,by rw[zO aQ];exact ec,zO4 k0.1 ∅,?_⟩;have oH:H c=none:=hc;refine⟨cs.set _ _,ds++[_],_,_,_,rfl,zY (zY sm bW _) oH _,by rw[zB,zLR],by rw[List.length_set];exact lc,by rw[zO aQ.symm,zB,zCg],by rw[wG7,ld];rfl,λx hm=>?_⟩;rcases wIm hm with z | z
  ·exact hx x z
  rw[wIj z];have b:=λx:Int=>zBw (x:=x) (m:=(10:Int) ^ (13:Int).toNat) (n:=10 ^ 13) ⋯ ⋯;exact⟨(b _).1,Int.lt_of_lt_of_le (b _).2 ⋯⟩
 rintro σ' H' ⟨cs,ds,sd,v,w,rfl,sm,ec,lc,ed,ld,hx⟩;exact⟨_,rfl,q d ds H' bW sm ed ∅ hx⟩
inductive sp_texts (K:W.Frag) (vs:List V) (H:Hp) (Q:VK) (E:XK):Prop
 | mk (p r:Addr) (ts:List V):vs=[.ref p,.ref r]->(H p=some (.lst ts)/\SqL K H r ts/\ts.length<=900/\(∀x∈ts,∃z,x=.str z)/\Q (.bl true) H)->sp_texts K vs H Q E
def zMn (T:Txt P K mg t):FnOk P w K mg base CX0 40 t.wDz t.wDA ["_law_found","_law_due_here"] (sp_texts K):=by
 refine T.wFh.ok zIz ⟨⟩ ();obtain⟨p,r,ts,rfl,e,hS,hl,ht,q⟩:=h;refine⟨_,(zD (zA4 (PW.pt (zEA (zAZ (zAQ (zS (zAC K) rfl T.wAb wHc (zN (pv 0) (zBQ (v:=.ty "list") rfl T.wCv PyProof.Rows.boot_list rfl) zE zA zA)))) (zCO (zAc zDH (zS (zAi K) rfl T.wAi wHr (zI (pv 0) zE zA)) (zS (zAi K) rfl T.wAi wHr (zI (pv 1) zE zA)) (zAj _))))) (zH (zX zBu)) zAd)
  (zD (zAp PassesOwn.never rfl (zAh rfl T.wAe (zI (zS (zAi K) rfl T.wAi wHr (zI (pv 1) zE zA)) zE zR)) (zK (i:=2) zIz.nd rfl (Or.inl rfl)) (zH (zA4 (PW.pt (zEA (zAZ (zAQ (zS (zAC K) rfl T.wAb wHc (zN (zAo K (pv 0) (pv 2)) (zBQ (v:=.ty "str") rfl T.wFK PyProof.Rows.boot_str rfl) zE zF zA)))) (zCO (zAc zDH (zAo K (pv 0) (pv 2)) (zAo K (pv 1) (pv 2)) (zAj _))))) (zH (zX zBu)) zAd)))
  (zH (zX zBu)))),?_⟩
 refine⟨_,rfl,_,_,_,_,rfl,.lst e,rfl,_,rfl,zCf ?_⟩;refine⟨_,rfl,p,_,rfl,.inl (SqL.of e),_,rfl,r,_,rfl,.inl hS,rfl,_,rfl,zDK rfl ?_⟩;refine⟨_,rfl,r,_,rfl,.inl hS,_,rfl,by omega,by omega,zA1 (n:=(((ts.length:Nat):Int)).toNat) (λi σ' H'=>∃v,σ'=[some (.ref p),some (.ref r),v]/\H'=H) ⟨none,rfl,rfl⟩ ?_ ?_⟩
 ·rintro i σ' H' hi ⟨v,rfl,rfl⟩;have bA:i < ts.length:=by omega
  have hg:ts[i]?=some ts[i]:=wG0 bA;obtain⟨z,et⟩:=ht ts[i] (wHs bA);have gN:atI ts (0+(i:Int))=some (.str z):=zBb ∅ (by rw[show (0+(i:Int)).toNat=i by omega,hg,et]);refine⟨_,rfl,_,rfl,p,_,_,_,rfl,rfl,SqL.of e,gN,_,_,_,_,rfl,.str _,rfl,_,rfl,zCf ?_⟩;refine⟨_,rfl,_,rfl,p,_,_,_,rfl,rfl,SqL.of e,gN,_,rfl,_,rfl,r,_,_,_,rfl,rfl,hS,gN,rfl,_,rfl,zDK rfl ?_⟩;exact⟨_,rfl,rfl⟩
 rintro σ' H' ⟨v,rfl,rfl⟩;exact q
inductive sp_check_name (cB:Addr) (vs:List V) (H:Hp) (Q:VK) (E:XK):Prop
 | mk (n:Str):vs=[.str n]->(zFF n/\(∀H',zAf H H'->zIN n->Q .non H')/\∀H',zAf H H'->¬zIN n->E (.ref cB) none H')->sp_check_name cB vs H Q E
def zGd (T:Txt P K mg t):FnOk P w K mg base (CXx P w) 40 t.wA5 t.wA6 ["name"] (sp_check_name t.wAo):=by
 refine T.wCj.okX zDk ⟨⟩ ();obtain⟨n,rfl,sn,q,qe⟩:=h;refine⟨_,(zD (zAE 1 zDk.nd (zS (zL0 K rfl) rfl T.wGR PyProof.Rows.boot_all (zI (zAq ["sign"] [none] (by kernel_rfl) rfl (zPB (pv 0)) (λ_ _ _ _ _=>(zK (i:=0) ndB rfl (Or.inl rfl))) (λ_ _ _ _ _=>zAs) (λ_ _ _ _ _=>(zCr zJf (pv 0) (zA9 (v:=.str "abcdefghijklmnopqrstuvwxyz") rfl T.wF4.choose_spec ⟨_,rfl⟩) (by with_unfolding_all rfl)))) zE zA2)))
  (zH (zA4 (zAZ (PW.pt (zEB (zAQ (pv 1)) (zDE (zDm zDb zDb zG (zS zHr rfl T.wAi wHr (zI (pv 0) zE zA)) (zA9 (v:=.int 8) rfl T.wBF.choose_spec ⟨_,rfl⟩)))))) (zH (zB7 T.wF0 rfl T.wDT (zBq (zKs (pv 0) (zBY (zDn (zA9 (v:=.int 8) rfl T.wBF.choose_spec ⟨_,rfl⟩) (zBY zDo))))))) zAd))),?_⟩
 have hz:=small (sn.2);have fU:=sn.2;refine⟨_,rfl,_,rfl,λl hl=>?_⟩;refine zMK (λi σ' H'=>∃(v:Option V),σ'=[v]/\H'=upd H l (.lst (((n.cps.toList.take i).map zKX).map V.bl))) ⟨none,rfl,rfl⟩ ?_ ?_
 ·rintro i c σ' H' hi ⟨v,rfl,rfl⟩;refine⟨_,rfl,_,_,rfl,rfl,_,zB,?_,?_⟩
  ·rw[wGX,wGX,wHk];have:=zB0 n;exact zAm ∅
  refine⟨_,rfl,?_⟩;rw[zBx,wHC,hi];simp only[Option.toList_some,wG9,wHW,List.map_nil]
  rfl
 rintro σ' H1 ⟨v,rfl,rfl⟩;rw[wHX (by rw[← zB0];exact wG5 _)];have s1:=zC hl (.lst ((n.cps.toList.map zKX).map V.bl));refine⟨l,_,rfl,SqL.of zB,?_⟩;refine⟨_,rfl,_,rfl,?_⟩;refine zCw (λc=>?_) (λc=>?_)
 ·have lo:=(zIB n).mp c;refine⟨_,rfl,_,rfl,hz,?_⟩;refine⟨_,_,rfl,rfl,?_⟩;refine⟨_,rfl,?_⟩;refine zCw (λc1=>?_) (λc1=>?_)
  ·have d1:(1:Int)<=(n.length:Int):=wHm c1;refine⟨_,_,rfl,rfl,?_⟩;refine⟨_,rfl,?_⟩;by_cases c2:(n.length:Int)<=8
   ·rw[wHB c2];refine zCf ?_;exact q _ s1 ⟨lo,by omega,by omega⟩
   rw[wHy c2];refine zGx ?_;refine⟨_,rfl,n,rfl,sn.c16,wHe fU ⋯,λy hy=>⟨by bv_omega,?_⟩⟩;refine⟨by bv_omega,_,⟨by decide,rfl⟩,by bv_omega,by bv_omega,by bv_omega,?_⟩;exact qe _ s1 λz=>c2 (by have:=z.2.2;omega)
  have d1:¬(1:Int)<=(n.length:Int):=wHz (wIl c1);refine⟨_,rfl,zGx ?_⟩;refine⟨_,rfl,n,rfl,sn.c16,wHe fU ⋯,λy hy=>⟨by bv_omega,?_⟩⟩;refine⟨by bv_omega,_,⟨by decide,rfl⟩,by bv_omega,by bv_omega,by bv_omega,?_⟩;exact qe _ s1 λz=>d1 (by have:=z.2.1;omega)
 refine zGx ?_;refine⟨_,rfl,n,rfl,sn.c16,wHe fU ⋯,λy hy=>⟨by bv_omega,?_⟩⟩;refine⟨by bv_omega,_,⟨by decide,rfl⟩,by bv_omega,by bv_omega,by bv_omega,?_⟩;exact qe _ s1 λz=>c ((zIB n).mpr z.1)
inductive sp_Book_UinitU (K:W.Frag) (C:Addr) (vs:List V) (H:Hp) (Q:VK) (E:XK):Prop
 | mk (x dx:Addr):vs=[.ref x]->(H x=some (.ins C dx [])/\∀l,H l=none->Q .non (upd (upd H l (.lst [])) x (.ins C dx [("told",.ref l)])))->sp_Book_UinitU K C vs H Q E
def zFn (T:Txt P K mg t):FnOk P w K mg base CX0 40 t.wAB t.wAU ["self"] (sp_Book_UinitU K t.wAd):=by refine T.wDV.ok zFl ⟨⟩ ();obtain⟨x,dx,rfl,hx,q⟩:=h;refine⟨_,(zH (zP6 (pv 0) (zAk zE) rfl)),?_⟩;refine⟨szl,λl hl=>?_⟩;exact⟨_,rfl,x,_,dx,_,rfl,zC hl _ _ _ hx,T.wAf,T.wAq,by decide,q l hl⟩
inductive sp_Book_houses (K:W.Frag) (C:Addr) (vs:List V) (H:Hp) (Q:VK) (E:XK):Prop
 | mk (b tl:Addr) (ds:List Deed):vs=[.ref b]->(zAD H C b tl ds/\ds.length<=900/\∀l,H l=none->Q (.ref l) (upd H l (.lst ((zL ds).map V.str))))->sp_Book_houses K C vs H Q E
def zAS (T:Txt P K mg t):FnOk P w K mg base CX0 40 t.wAV t.wAW ["self"] (sp_Book_houses K t.wAd):=by
 refine T.wDX.ok zFk ⟨⟩ ();obtain⟨b,tl,ds,rfl,⟨dx,qs,hb,ht,hq,hd⟩,hz,q⟩:=h;refine⟨_,(zH (zX (zAq ["deed"] [none] (by kernel_rfl) rfl (zAb K (zGJ (pv 0) rfl)) (λ_ _ _ _ _=>(zK (i:=0) ndB rfl (Or.inl rfl))) (λ_ _ _ _ _=>(zC8 (zAc zCA (zAW K (pv 0) zG) zAF (zAj _)))) (λ_ _ _ _ _=>(zAW K (pv 0) zG))))),?_⟩;refine⟨_,rfl,b,_,dx,_,_,rfl,hb,T.wAf,T.wAq,rfl,tl,rfl,⟨_,SqL.of ht⟩,λl hl=>?_⟩;have sl:∀o,zAf H (upd H l o):=λo=>zC hl o;refine zAr (ys:=qs.map V.ref) (λi σ' H'=>∃(v:Option V),σ'=[v]/\H'=upd H l (.lst ((zL (ds.take i)).map V.str))) ⟨none,rfl,rfl⟩ ?_ ?_ ?_
 ·rintro i σ' H' hi ⟨v,rfl,rfl⟩;exact SqL.of (sl _ _ _ ht)
 ·rintro i x σ' H' hi ⟨v,rfl,rfl⟩;rw[wG6] at hi;obtain⟨a,ha,rfl⟩:∃a,qs[i]?=some a/\V.ref a=x:=by
   cases e:qs[i]? with
   | none=>rw[e] at hi;cases hi
   | some a=>rw[e] at hi;exact⟨a,rfl,wG8 hi⟩
  have aC:i < ds.length:=by rw[← hq];exact (wIi ha).1
  have fJ:ds[i]?=some ds[i]:=wG0 aC;have ta:=SqT.of (K:=K) (sl (.lst ((zL (ds.take i)).map V.str)) _ _ (hd i a _ ha fJ));have ln:(zL (ds.take i)).length<=900:=wHe (zGX _) (by rw[wHk];omega);refine⟨_,rfl,a,_,0,.str (ds[i]).tag,rfl,rfl,ta,zBb ⋯ rfl,rfl,_,rfl,?_⟩;rw[zJG];rw[zEL fJ];cases e:ds[i] with
  | house n=>
   rw[e] at ta;refine zGx ⟨_,rfl,a,_,1,_,rfl,rfl,ta,rfl,_,zB,by rw[wGX];exact zAm ∅,_,rfl,?_⟩;rw[zBx,wG9];rfl
  | pact g u p f z=>
   exact zCf ⟨_,rfl,by rw[wG9];exact congrArg (λz=>upd H l (.lst z)) (wHx _).symm⟩
  | loss g u z=>
   exact zCf ⟨_,rfl,by rw[wG9];exact congrArg (λz=>upd H l (.lst z)) (wHx _).symm⟩
 rintro σ' H' ⟨v,rfl,rfl⟩;rw[wHX (by rw[wGX];omega)];exact q l hl
def zNs (ds:List Deed) (n:Str):Option Nat:=if zIN n then (if n∈zL ds then some 1 else if 15<=(zL ds).length then some 8 else none) else some 0
def zRQ (t:Adr):Nat->Addr
 | 0=>t.wAo
 | 1=>t.wAk
 | _=>t.wAu
inductive sp_Book_house (K:W.Frag) (t:Adr) (vs:List V) (H:Hp) (Q:VK) (E:XK):Prop
 | mk (b tl:Addr) (ds:List Deed) (n:Str):vs=[.ref b,.str n]->(zAD H t.wAd b tl ds/\ds.length<=900/\zFF n/\
 (∀H',zNs ds n=none->zFs tl H H'->zAD H' t.wAd b tl (ds++[.house n])->Q .non H')/\∀H' k,zNs ds n=some k->zAf H H'->E (.ref (zRQ t k)) none H')->sp_Book_house K t vs H Q E
def zGe (T:Txt P K mg t):FnOk P w K mg base (CXx P w) 41 t.wBd t.wBe ["self","name"] (sp_Book_house K t):=by
 refine T.wEA.okX zDl ⟨⟩ ();obtain⟨b,tl,ds,n,rfl,hB,hz,sn,q,qe⟩:=h;refine⟨_,(zD (zAn (zAU ((zGd T).mono ⋯) hr rfl T.wEp T.wCj.kp T.wEo .nil zCb (zI (pv 1) zE zA)))
  (zD (zAE 2 zDl.nd (zBd (pv 0) T.wAf T.wAm ((zAS T).mono ⋯) hr T.wAl .nil zC9))
  (zD (zA4 (zAc (zPN K) (pv 1) (pv 2) (by with_unfolding_all rfl)) (zH (zB7 T.wES rfl T.wCp (zBq (zBY (zDn (pv 1) (zBY zDo)))))) zAd)
  (zD (zA4 (zAc zPM (zS (zAi K) rfl T.wAi wHr (zI (pv 2) zE zA)) (zA9 (v:=.int 15) rfl T.wB3.choose_spec ⟨_,rfl⟩) (zAj _)) (zH (zB7 T.wF1 rfl T.wEQ (zBq (zDn (zA9 (v:=.int 15) rfl T.wB3.choose_spec ⟨_,rfl⟩) (zBY zDo))))) zAd)
  (zH (zAn (zBv K wHv wHG wHJ zAx (zGJ (pv 0) rfl) (zI (zAR (zI zAF (zI (pv 1) zE zA) zJ)) zE zAX)))))))),?_⟩
 have fU:=sn.2;refine⟨_,rfl,n,rfl,sn,λH1 s1 ok=>?_,λH1 s1 bad=>qe H1 0 (by unfold zNs;rw[wGZ bad]) s1⟩;have hB1:=hB.same s1;obtain⟨dx,qs,hb,ht,hq,hd⟩:=id hB1;refine⟨_,rfl,b,dx,_,rfl,hb,rfl,b,tl,ds,rfl,hB1,hz,λl hl=>?_⟩;have s2:=zC hl (.lst ((zL ds).map V.str));have el:upd H1 l (.lst ((zL ds).map V.str)) l=some (.lst ((zL ds).map V.str)):=zB;generalize upd H1 l (.lst ((zL ds).map V.str))=H2 at s2 el ⊢;refine⟨_,rfl,_,rfl,l,_,rfl,.inl (SqL.of el),rfl,zHl _,_,rfl,?_⟩;rw[wGZ (by decide:¬(false=true)),zLa];refine zCw (λc=>?_) (λc=>?_)
 ·have c':=wHm c;refine⟨by bv_omega,_,rfl,_,⟨wHe fU (sz _ ⋯),rfl⟩,by bv_omega,by bv_omega,by bv_omega,?_⟩;exact qe H2 1 (by unfold zNs;rw[wG1 ok,wG1 c']) (s1.trans s2)
 have c':¬n∈zL ds:=wHz (wIl c);have cl:(zL ds).length<=900:=wHe (zGX _) hz;refine⟨_,rfl,l,_,rfl,.inl (SqL.of el),_,_,rfl,rfl,_,rfl,?_⟩;rw[wGX];refine zCw (λd=>?_) (λd=>?_)
 ·have d':(15:Int)<=((zL ds).length:Nat):=wHm d;refine⟨_,⟨by decide,rfl⟩,by bv_omega,by bv_omega,by bv_omega,?_⟩;exact qe H2 8 (by unfold zNs;rw[wG1 ok,wGZ c',wG1 ∅]) (s1.trans s2)
 have d':¬(15:Int)<=((zL ds).length:Nat):=wHz (wIl d);have iM:=s2 _ _ hb;have cV:=s2 _ _ ht;refine⟨_,rfl,b,_,dx,_,_,rfl,iM,T.wAf,T.wAq,rfl,.inl ⟨rfl,_,SqL.of cV⟩,?_⟩;refine⟨_,rfl,zA8,λp hp=>?_⟩;have s3:=zC hp (.tup (Deed.house n).vs);refine⟨tl,_,_,rfl,rfl,s3 _ _ cV,by rw[wGX,hq];exact zAm ∅,?_⟩;refine q _ (by unfold zNs;rw[wG1 ok,wGZ c',wGZ ∅]) ((zFs.of (s1.trans (s2.trans s3))).trans zFs.upd) ?_;exact zAD.snoc (s3 _ _ iM) (s3 _ _ cV) hq (λi a d e1 e2=>s3 _ _ (s2 _ _ (hd i a d e1 e2))) zB
inductive sp_check_range (cR:Addr) (vs:List V) (H:Hp) (Q:VK) (E:XK):Prop
 | mk (n lo hi:Int):vs=[.int n,.int lo,.int hi]->(lo.natAbs < 10 ^ 60/\hi.natAbs < 10 ^ 60/\(lo<=n/\n<=hi->Q .non H)/\(¬(lo<=n/\n<=hi)->E (.ref cR) none H))->sp_check_range cR vs H Q E
def zCQ (T:Txt P K mg t):FnOk P w K mg base (CXx P w) 40 t.wAQ t.wAR ["number","least","most"] (sp_check_range t.wAg):=by
 refine T.wA1.okX zFj ⟨⟩ ();obtain⟨n,lo,hi,rfl,h1,h2,q,qe⟩:=h;refine⟨_,(zH (zA4 (zAZ (zDm zDb zDb (pv 1) (pv 0) (pv 2))) (zH (zB7 T.wET rfl T.wCr (zBq (zBY (zDn (pv 1) (zBY (zDn (pv 2) zDo))))))) zAd)),?_⟩;have l1:=zEK h1;have l2:=zEK h2;refine⟨_,rfl,_,rfl,_,_,rfl,rfl,_,rfl,?_⟩;refine zCw (λc=>?_) (λc=>?_)
 ·have c':lo<=n:=wHm c;refine⟨_,rfl,_,_,rfl,rfl,_,rfl,?_⟩;by_cases d:n<=hi
  ·rw[wHB d];exact zCf (q ⟨c',d⟩)
  rw[wHy d];refine zGx ?_;refine⟨by bv_omega,_,rfl,_,⟨zO1 h1,rfl⟩,by bv_omega,by bv_omega,_,rfl,_,⟨zO1 h2,rfl⟩,by bv_omega,by bv_omega,?_⟩;exact qe λz=>d z.2
 have c':¬lo<=n:=wHz (wIl c);refine⟨_,rfl,zGx ?_⟩;refine⟨by bv_omega,_,rfl,_,⟨zO1 h1,rfl⟩,by bv_omega,by bv_omega,_,rfl,_,⟨zO1 h2,rfl⟩,by bv_omega,by bv_omega,?_⟩;exact qe λz=>c' z.1
inductive sp_check_day (cR:Addr) (vs:List V) (H:Hp) (Q:VK) (E:XK):Prop
 | mk (n:Int):vs=[.int n]->((0<=n/\n<=5000->Q .non H)/\(¬(0<=n/\n<=5000)->E (.ref cR) none H))->sp_check_day cR vs H Q E
def zBM (T:Txt P K mg t):FnOk P w K mg base (CXx P w) 41 t.wBk t.wBl ["day"] (sp_check_day t.wAg):=by refine T.wAA.okX zG8 ⟨⟩ ();obtain⟨n,rfl,q,qe⟩:=h;refine⟨_,(zH (zAn (zAU ((zCQ T).mono ⋯) hr rfl T.wB0 T.wA1.kp T.wBZ .nil zCb (zZ (pv 0) zG (zA9 (v:=.int 5000) rfl T.wBY.choose_spec ⟨_,rfl⟩) zE zA zJ zA)))),?_⟩;exact⟨_,rfl,n,0,5000,rfl,by decide,by decide,q,qe⟩
inductive sp_place_of (K:W.Frag) (cU:Addr) (vs:List V) (H:Hp) (Q:VK) (E:XK):Prop
 | mk (nl:Addr) (ns:List Str) (n:Str):vs=[.ref nl,.str n]->(SqL K H nl (ns.map V.str)/\zFF n/\(n∈ns->Q (.int (ns.idxOf n:Nat)) H)/\(n∉ns->E (.ref cU) none H))->sp_place_of K cU vs H Q E
def zBE (T:Txt P K mg t):FnOk P w K mg base (CXx P w) 40 t.wBG t.wBH ["names","name"] (sp_place_of K t.wAh):=by
 refine T.wAy.okX zHF ⟨⟩ ();obtain⟨nl,ns,n,rfl,hS,sn,q,qe⟩:=h;refine⟨_,(zD (zA4 (zAc (zK6 K) (pv 1) (pv 0) (by with_unfolding_all rfl)) (zH (zB7 T.wDK rfl T.wBB (zBq (zBY (zKs (pv 1) (zBY zDo)))))) zAd)
  (zH (zX (zBv K wHv F.slot_list_index F.type_list_index (zEN K) (pv 0) (zI (pv 1) zE zA))))),?_⟩
 have fU:=sn.2;refine⟨_,rfl,_,rfl,nl,_,rfl,.inl hS,rfl,zHl _,_,rfl,?_⟩;rw[wG1 rfl,zLa];by_cases c:n∈ns
 ·rw[wHB c];refine zCf ?_;exact⟨_,rfl,.inl ⟨rfl,_,hS⟩,_,rfl,nl,ns,n,rfl,rfl,hS,c,q c⟩
 rw[wHy c];refine zGx ?_;refine⟨by bv_omega,_,rfl,n,rfl,sn.c16,wHe fU ⋯,λy hy=>⟨by bv_omega,by bv_omega,by bv_omega,?_⟩⟩;exact qe c
def zIv (ns:List Str) (g u:Str) (p f l:Int):Option Nat:=
 if g∈ns then (if u∈ns then (if g=u then some 3 else if l < f then some 4 else if 1<=p/\p<=1000 then (if 0<=f/\f<=5000 then (if 0<=l/\l<=5000 then none else some 5) else some 5) else some 5) else some 2) else some 2
def zRn (t:Adr):Nat->Addr
 | 2=>t.wAh
 | 3=>t.wAn
 | 4=>t.wAj
 | _=>t.wAg
inductive sp_check_terms (K:W.Frag) (t:Adr) (vs:List V) (H:Hp) (Q:VK) (E:XK):Prop
 | mk (nl:Addr) (ns:List Str) (g u:Str) (p f l:Int):vs=[.ref nl,.str g,.str u,.int p,.int f,.int l]->(SqL K H nl (ns.map V.str)/\zFF g/\zFF u/\(zIv ns g u p f l=none->Q .non H)/\∀k,zIv ns g u p f l=some k->E (.ref (zRn t k)) none H)->sp_check_terms K t vs H Q E
def zCP (T:Txt P K mg t):FnOk P w K mg base (CXx P w) 42 t.wAS t.wAT ["names","giver","taker","part","first","last"] (sp_check_terms K t):=by
 refine T.wA2.okX zFi ⟨⟩ ();obtain⟨nl,ns,g,u,p,f,l,rfl,hS,sg,su,q,qe⟩:=h;refine⟨_,(zD (zAn (zAU ((zBE T).mono ⋯) hr rfl T.wAG T.wAy.kp T.wAF .nil zCb (zN (pv 0) (pv 1) zE zA zA)))
  (zD (zAn (zAU ((zBE T).mono ⋯) hr rfl T.wAG T.wAy.kp T.wAF .nil zCb (zN (pv 0) (pv 2) zE zA zA)))
  (zD (zA4 (zAc zCA (pv 1) (pv 2) (zAj _)) (zH (zB7 T.wFG rfl T.wDh (zBq (zDn (pv 1) (zBY zDo))))) zAd)
  (zD (zA4 (zAc zMk (pv 4) (pv 5) (zAj _)) (zH (zB7 T.wEU rfl T.wCq zAF)) zAd)
  (zD (zAn (zAU ((zCQ T).mono ⋯) hr rfl T.wB0 T.wA1.kp T.wBZ .nil zCb (zZ (pv 3) zG (zA9 (v:=.int 1000) rfl T.wGF.choose_spec ⟨_,rfl⟩) zE zA zJ zA)))
  (zD (zAn (zAU ((zBM T).mono ⋯) hr rfl T.wAL T.wAA.kp T.wAK .nil zCb (zI (pv 4) zE zA)))
  (zH (zAn (zAU ((zBM T).mono ⋯) hr rfl T.wAL T.wAA.kp T.wAK .nil zCb (zI (pv 5) zE zA)))))))))),?_⟩
 have sg2:=sg.2;unfold zIv at q qe;refine⟨_,rfl,_,rfl,nl,ns,g,rfl,hS,sg,λc1=>?_,λc1=>qe 2 (by rw[wGZ c1])⟩;rw[wG1 c1] at q qe;refine⟨_,rfl,_,rfl,nl,ns,u,rfl,hS,su,λc2=>?_,λc2=>qe 2 (by rw[wGZ c2])⟩;rw[wG1 c2] at q qe;refine⟨_,rfl,_,rfl,rfl,_,rfl,?_⟩;refine zCw (λc=>?_) (λc=>?_)
 ·have c3:g=u:=V.str.inj (wHm c);refine⟨_,rfl,_,⟨wHe sg2 (sz _ ⋯),rfl⟩,by bv_omega,by bv_omega,by bv_omega,?_⟩;exact qe 3 (by rw[wG1 c3])
 have c3:¬g=u:=λz=>c (wHB (congrArg V.str z));rw[wGZ c3] at q qe;refine⟨_,rfl,_,rfl,_,_,rfl,rfl,_,rfl,?_⟩;refine zCw (λc=>?_) (λc=>?_)
 ·have c4:l < f:=wHm c;exact qe 4 (by rw[wG1 c4])
 have c4:¬l < f:=wHz (wIl c);rw[wGZ c4] at q qe;refine⟨_,rfl,p,1,1000,rfl,by decide,by decide,λc5=>?_,λc5=>qe 5 (by rw[wGZ c5])⟩;rw[wG1 c5] at q qe;refine⟨_,rfl,f,rfl,λc6=>?_,λc6=>qe 5 (by rw[wGZ c6])⟩;rw[wG1 c6] at q qe;exact⟨_,rfl,l,rfl,λc7=>q (by rw[wG1 c7]),λc7=>qe 5 (by rw[wGZ c7])⟩
def zJy (ns:List Str) (p:Pct):List V:=[.int (ns.idxOf p.1:Nat),.int (ns.idxOf p.2.1:Nat),.int p.2.2.1]
inductive sp_ways_of (K:W.Frag) (vs:List V) (H:Hp) (Q:VK) (E:XK):Prop
 | mk (nl pl:Addr) (ns:List Str) (ps:List Pct):vs=[.ref nl,.ref pl]->(SqL K H nl (ns.map V.str)/\zAe H pl (ps.map Pct.vs)/\ps.length<=900/\(∀p∈ps,p.1∈ns/\p.2.1∈ns)/\
 ∀l H',H l=none->zAf H H'->zAe H' l (ps.map (zJy ns))->Q (.ref l) H')->sp_ways_of K vs H Q E
def zF4 (T:Txt P K mg t):FnOk P w K mg base CX0 40 t.wCd t.wCe ["names","pacts"] (sp_ways_of K):=by
 refine T.wCl.ok zIZ ⟨⟩ ();obtain⟨nl,pl,ns,ps,rfl,hN,⟨qs,hp,lq,hq⟩,hz,gE,q⟩:=h;refine⟨_,(zH (zX (zAq ["giver","taker","part","first","last","names"] [none,none,none,none,none,some 0] (by kernel_rfl) rfl (zAb K (pv 1)) (λ_ _ _ _ _=>(zAw K (n:=5) rfl (zQ (zK (i:=0) ndB rfl (Or.inl rfl)) (zQ (zK (i:=1) ndB rfl (Or.inl rfl)) (zQ (zK (i:=2) ndB rfl (Or.inl rfl)) (zQ (zK (i:=3) ndB rfl (Or.inl rfl)) (zQ (zK (i:=4) ndB rfl (Or.inl rfl)) zAv))))))) (λ_ _ _ _ _=>zAs) (λ_ _ _ _ _=>(zAR (zI (zBv K wHv F.slot_list_index F.type_list_index (zEN K) (pv 5) (zI (pv 0) zE zA)) (zI (zBv K wHv F.slot_list_index F.type_list_index (zEN K) (pv 5) (zI (pv 1) zE zA)) (zI (pv 2) zE zA) zR) zR)))))),?_⟩;rw[wGX] at lq;refine⟨_,rfl,pl,rfl,⟨_,SqL.of hp⟩,λl hl=>?_⟩;refine zAr (ys:=qs.map V.ref) (λi σ' H'=>∃(v1 v2 v3 v4 v5:Option V),σ'=[v1,v2,v3,v4,v5,some (.ref nl)]/\zAf H H'/\zAe H' l ((ps.take i).map (zJy ns))) ⟨none,none,none,none,none,rfl,zC hl _,zAe.nil zB⟩ ?_ ?_ ?_
 ·rintro i σ' H' hi ⟨v1,v2,v3,v4,v5,rfl,s',el⟩;exact SqL.of (s' _ _ hp)
 ·rintro i x σ' H' hi ⟨v1,v2,v3,v4,v5,rfl,s',el⟩;rw[wG6] at hi;obtain⟨a,ha,rfl⟩:=wIk hi;have aC:i < ps.length:=by rw[← lq];exact (wIi ha).1
  have aY:ps[i]?=some ps[i]:=wG0 aC;have ea:=s' _ _ (hq i a _ ha (by rw[wG6,aY];rfl));obtain⟨m1,m2⟩:=gE ps[i] (wHs aC);refine⟨a,_,rfl,SqT.of ea,rfl,_,_,rfl,_,_,rfl,_,_,rfl,_,_,rfl,_,_,rfl,rfl,?_⟩;have lh:=s'.seq hN;refine⟨_,rfl,.inl ⟨rfl,_,lh⟩,_,rfl,nl,ns,_,rfl,rfl,lh,m1,?_⟩;refine⟨_,rfl,.inl ⟨rfl,_,lh⟩,_,rfl,nl,ns,_,rfl,rfl,lh,m2,?_⟩;refine⟨_,rfl,szl,λp dJ=>?_⟩;have s2:=zC dJ (.tup (zJy ns ps[i]));obtain⟨q2,g1,g2,g3⟩:=el.same s2;refine⟨_,g1,by rw[wGX,g2,wGX,wHk];exact zAm ∅,_,_,_,_,_,rfl,zY (s'.trans s2) hl _,?_⟩;rw[wHC,aY,wG9];exact zAe.snoc g1 g2 g3 zB
 rintro σ' H' ⟨v1,v2,v3,v4,v5,rfl,s',el⟩;rw[wGX,lq,wHo] at el;exact q l H' hl s' el
def zBk (d:Int) (p:Pct):Bool:=decide (p.2.2.2.1<=d) && decide (d<=p.2.2.2.2)
inductive sp_ways_on (K:W.Frag) (vs:List V) (H:Hp) (Q:VK) (E:XK):Prop
 | mk (nl pl:Addr) (ns:List Str) (ps:List Pct) (d:Int):vs=[.ref nl,.ref pl,.int d]->(SqL K H nl (ns.map V.str)/\zAe H pl (ps.map Pct.vs)/\ps.length<=900/\(∀p∈ps,p.1∈ns/\p.2.1∈ns)/\
 ∀l H',H l=none->zAf H H'->zAe H' l ((ps.filter (zBk d)).map (zJy ns))->Q (.ref l) H')->sp_ways_on K vs H Q E
def zF3 (T:Txt P K mg t):FnOk P w K mg base CX0 41 t.wCf t.wCg ["names","pacts","day"] (sp_ways_on K):=by
 refine T.wCm.ok zIY ⟨⟩ ();obtain⟨nl,pl,ns,ps,d,rfl,hN,⟨qs,hp,lq,hq⟩,hz,gE,q⟩:=h;refine⟨_,(zH (zX (cal (zF4 T) hr T.wDP T.wCl T.wDO (zN (pv 0) (zAq ["pact","day"] [none,some 2] (by kernel_rfl) rfl (zAb K (pv 1)) (λ_ _ _ _ _=>(zK (i:=0) ndB rfl (Or.inl rfl))) (λ_ _ _ _ _=>(zC8 (zDm zDb zDb (zAW K (pv 0) zG) (pv 1) (zAW K (pv 0) zG)))) (λ_ _ _ _ _=>(pv 0))) zE zA zA2)))),?_⟩;rw[wGX] at lq;refine⟨_,rfl,_,rfl,pl,rfl,⟨_,SqL.of hp⟩,λl hl=>?_⟩;refine zAr (ys:=qs.map V.ref) (λi σ' H'=>∃(v1:Option V),σ'=[v1,some (.int d)]/\zAf H H'/\zAe H' l (((ps.take i).filter (zBk d)).map Pct.vs)) ⟨none,rfl,zC hl _,zAe.nil zB⟩ ?_ ?_ ?_
 ·rintro i σ' H' hi ⟨v1,rfl,s',el⟩;exact SqL.of (s' _ _ hp)
 ·rintro i x σ' H' hi ⟨v1,rfl,s',el⟩;rw[wG6] at hi;obtain⟨a,ha,rfl⟩:=wIk hi;have aC:i < ps.length:=by rw[← lq];exact (wIi ha).1
  have aY:ps[i]?=some ps[i]:=wG0 aC;have ea:=s' _ _ (hq i a _ ha (by rw[wG6,aY];rfl));have ln:((ps.take i).filter (zBk d)).length<=900:=wHe (wH7 _ _) (by rw[wHk];omega);have et:(ps.take (i+1)).filter (zBk d)=(ps.take i).filter (zBk d)++[ps[i]].filter (zBk d):=by rw[wHC,aY,List.filter_append];rfl
  have on:zBk d ps[i]=(decide ((ps[i]).2.2.2.1<=d) && decide (d<=(ps[i]).2.2.2.2)):=rfl;refine⟨_,rfl,a,_,3,.int (ps[i]).2.2.2.1,rfl,rfl,SqT.of ea,zBb ⋯ rfl,_,rfl,_,_,rfl,rfl,_,rfl,?_⟩;refine zCw (λc=>?_) (λc=>?_)
  ·have c':=wHm c;refine⟨_,rfl,a,_,4,.int (ps[i]).2.2.2.2,rfl,rfl,SqT.of ea,zBb ⋯ rfl,_,_,rfl,rfl,_,rfl,?_⟩;refine zCw (λe=>?_) (λe=>?_)
   ·refine⟨_,rfl,?_⟩;obtain⟨q2,g1,g2,g3⟩:=el;refine⟨_,g1,by rw[wGX,g2,wGX];exact zAm ∅,_,rfl,zY s' hl _,?_⟩;rw[et,wG9,List.filter_cons_of_pos (by rw[on,c,e];rfl),List.filter_nil];exact zAe.snoc g1 g2 g3 ea
   refine⟨_,rfl,s',?_⟩;rw[et,List.filter_cons_of_neg (by rw[on,c,Bool.true_and];exact e),List.filter_nil,wHx];exact el
  refine⟨_,rfl,zCf ⟨_,rfl,s',?_⟩⟩;rw[et,List.filter_cons_of_neg (by rw[on,wIl c];exact wHf),List.filter_nil,wHx];exact el
 rintro σ' H' ⟨v1,rfl,s',el⟩;rw[wGX,lq,wHo] at el;have lf:(ps.filter (zBk d)).length<=900:=wHe (wH7 _ _) hz;exact⟨nl,l,ns,ps.filter (zBk d),rfl,s'.seq hN,el,lf,λp hp=>gE p (List.mem_filter.mp hp).1,λl2 H2 eB s2 T2=>q l2 H2 (s'.free eB) (s'.trans s2) T2⟩
inductive sp_Book_pacts (K:W.Frag) (C:Addr) (vs:List V) (H:Hp) (Q:VK) (E:XK):Prop
 | mk (b tl:Addr) (ds:List Deed):vs=[.ref b]->(zAD H C b tl ds/\ds.length<=900/\∀l H',H l=none->zAf H H'->zAe H' l ((zV ds).map Pct.vs)->Q (.ref l) H')->sp_Book_pacts K C vs H Q E
def zBs (T:Txt P K mg t):FnOk P w K mg base CX0 40 t.wA9 t.wBa ["self"] (sp_Book_pacts K t.wAd):=by
 refine T.wEw.ok zFN ⟨⟩ ();obtain⟨b,tl,ds,rfl,⟨dx,qs,hb,ht,hq,hd⟩,hz,q⟩:=h;refine⟨_,(zH (zX (zAq ["deed"] [none] (by kernel_rfl) rfl (zAb K (zGJ (pv 0) rfl)) (λ_ _ _ _ _=>(zK (i:=0) ndB rfl (Or.inl rfl))) (λ_ _ _ _ _=>(zC8 (zAc zCA (zAW K (pv 0) zG) zAF (zAj _)))) (λ_ _ _ _ _=>(zBK (zNO K) (pv 0) (zBC zG) zED))))),?_⟩;refine⟨_,rfl,b,_,dx,_,_,rfl,hb,T.wAf,T.wAq,rfl,tl,rfl,⟨_,SqL.of ht⟩,λl hl=>?_⟩;refine zAr (ys:=qs.map V.ref) (λi σ' H'=>∃(v:Option V),σ'=[v]/\zAf H H'/\zAe H' l ((zV (ds.take i)).map Pct.vs)) ⟨none,rfl,zC hl _,zAe.nil zB⟩ ?_ ?_ ?_
 ·rintro i σ' H' hi ⟨v,rfl,s',el⟩;exact SqL.of (s' _ _ ht)
 ·rintro i x σ' H' hi ⟨v,rfl,s',el⟩;rw[wG6] at hi;obtain⟨a,ha,rfl⟩:=wIk hi;have aC:i < ds.length:=by rw[← hq];exact (wIi ha).1
  have fJ:ds[i]?=some ds[i]:=wG0 aC;have ea:=s' _ _ (hd i a _ ha fJ);have ln:(zV (ds.take i)).length<=900:=wHe (zGK _) (by rw[wHk];omega);refine⟨_,rfl,a,_,0,.str (ds[i]).tag,rfl,rfl,SqT.of ea,zBb ⋯ rfl,rfl,_,rfl,?_⟩;rw[zLH];rw[zEF fJ];cases e:ds[i] with
  | pact g u p f z=>
   rw[e] at ea;refine zGx ⟨_,rfl,_,rfl,a,_,rfl,SqT.of ea,zKJ _ _,λp' hp=>?_⟩;have s2:=zC hp (.tup (zD1 (Deed.pact g u p f z).vs (some 1) none));obtain⟨q2,g1,g2,g3⟩:=el.same s2;refine⟨_,g1,by rw[wGX,g2,wGX];exact zAm ∅,_,rfl,zY (s'.trans s2) hl _,?_⟩;rw[wG9];exact zAe.snoc g1 g2 g3 (by rw[zB];exact congrArg (λz=>some (HO.tup z)) (zMH _ _))
  | house g=>exact zCf ⟨_,rfl,s',by rw[wG9];exact (wHx _).symm ▸ el⟩
  | loss g u p=>exact zCf ⟨_,rfl,s',by rw[wG9];exact (wHx _).symm ▸ el⟩
 rintro σ' H' ⟨v,rfl,s',el⟩;rw[wHX (by rw[wGX];omega)] at el;exact q l H' hl s' el
abbrev Sps:=List (Int × Int)
def lo (sps:Sps) (k:Nat):Int:=(sps.getD k (0,0)).1
def hi (sps:Sps) (k:Nat):Int:=(sps.getD k (0,0)).2
def zIl (sps:Sps) (f l:Int) (n:Nat):List Int:=((List.range n).filter λk=>decide (lo sps k<=f/\l<=hi sps k)).map λk:Nat=>(k:Int)
def zOU (sps:Sps) (f l:Int):List Int:=zIl sps f l sps.length
def zIE {sps:Sps} {f l:Int} {n:Nat} (h:lo sps n<=f/\l<=hi sps n):zIl sps f l (n+1)=zIl sps f l n++[(n:Int)]:=by unfold zIl;rw[List.range_succ,List.filter_append,wG9,List.filter_cons,wG1 (wHB h)];rfl
def zIk {sps:Sps} {f l:Int} {n:Nat} (h:¬(lo sps n<=f/\l<=hi sps n)):zIl sps f l (n+1)=zIl sps f l n:=by unfold zIl;rw[List.range_succ,List.filter_append,wG9,List.filter_cons,wGZ (by rw[wHy h];exact wHf)];simp
def zO8 (sps:Sps) (f l:Int) (n:Nat):(zIl sps f l n).length<=n:=by unfold zIl;rw[wGX];exact wHe (wH7 _ _) (wIf wIh)
def zJo {sps:Sps} {f l f' l':Int} (n:Nat) (h:∀k,k < n->((lo sps k<=f/\l<=hi sps k)↔(lo sps k<=f'/\l'<=hi sps k))):zIl sps f l n=zIl sps f' l' n:=by
 unfold zIl
 congr 1
 refine List.filter_congr λk hk=>?_;rw[decide_eq_decide];exact h k (List.mem_range.mp hk)
def zN3 (sps:Sps):Prop:=∀k,k < sps.length->0<=lo sps k/\lo sps k<=hi sps k/\hi sps k<=5000
structure Days (sps:Sps) (ds:List Int):Prop where
 inc:ds.Pairwise (· < ·)
 zero:ds[0]?=some 0
 bd:∀d∈ds,0<=d/\d<=5000
 src:∀d∈ds,d=0∨∃k,k < sps.length/\(d=lo sps k∨d=hi sps k+1)
 has1:∀k,k < sps.length->lo sps k∈ds
 has2:∀k,k < sps.length->hi sps k+1<=5000->hi sps k+1∈ds
def nxt (ds:List Int) (i:Nat):Int:=ds.getD (i+1) 5001
def Days.pos {sps:Sps} {ds:List Int} (D:Days sps ds):0 < ds.length:=(wIi D.zero).1
def Days.lt {sps:Sps} {ds:List Int} (D:Days sps ds) {i j:Nat} (gF:i < j) (hj:j < ds.length):ds.getD i 0 < ds.getD j 0:=by have h:=List.pairwise_iff_getElem.mp D.inc i j ∅ hj gF;rw[wG4,wG4,wG0 ∅,wG0 hj];exact h
def zDs {ds:List Int} {i:Nat} (h:i < ds.length):ds.getD i 0∈ds:=by rw[wG4,wG0 h];exact wHs h
def zI9 {ds:List Int} {i:Nat} (h:i+1 < ds.length):nxt ds i=ds.getD (i+1) 0:=by unfold nxt;rw[wG4,wG4,wG0 h];rfl
def zIg {ds:List Int} {i:Nat} (h:¬i+1 < ds.length):nxt ds i=5001:=by unfold nxt;rw[wG4,wH0 ∅];rfl
def Days.up {sps:Sps} {ds:List Int} (D:Days sps ds) {i:Nat} (h:i < ds.length):ds.getD i 0 < nxt ds i/\nxt ds i<=5001:=by
 have b:=D.bd _ (zDs h);by_cases c:i+1 < ds.length
 ·rw[zI9 c];have:=D.bd _ (zDs c);exact⟨D.lt (wHY i) c,by omega⟩
 rw[zIg c];omega
def Days.gap {sps:Sps} {ds:List Int} (D:Days sps ds) {i:Nat} (h:i < ds.length) {d:Int} (hd:d∈ds):d<=ds.getD i 0∨nxt ds i<=d:=by
 obtain⟨j,hj,rfl⟩:=List.mem_iff_getElem.mp hd;have e:ds[j]=ds.getD j 0:=by rw[wG4,wG0 hj];rfl
 rw[e];rcases Nat.lt_trichotomy j i with c | c | c
 ·exact .inl (wIg (D.lt c h))
 ·rw[c];exact .inl (wH2 _)
 refine .inr ?_;rw[zI9 ∅];by_cases z:j=i+1
 ·rw[z];exact wH2 _
 exact wIg (D.lt ∅ hj)
def Days.whole {sps:Sps} {ds:List Int} (S:zN3 sps) (D:Days sps ds) {i k:Nat} (h:i < ds.length) (hk:k < sps.length) (h1:lo sps k<=nxt ds i-1) (h2:ds.getD i 0<=hi sps k):lo sps k<=ds.getD i 0/\nxt ds i-1<=hi sps k:=by
 have u:=D.up h;have s:=S k hk;refine⟨?_,?_⟩
 ·rcases D.gap h (D.has1 k hk) with c | c
  ·exact c
  omega
 by_cases z:hi sps k+1<=5000
 ·rcases D.gap h (D.has2 k hk z) with c | c
  ·omega
  omega
 omega
def Days.same {sps:Sps} {ds:List Int} (S:zN3 sps) (D:Days sps ds) {i:Nat} (h:i < ds.length):zOU sps (ds.getD i 0) (ds.getD i 0)=zOU sps (ds.getD i 0) (nxt ds i-1):=by
 refine zJo _ λk hk=>?_;have u:=D.up h;constructor
 ·rintro⟨a,b⟩;exact D.whole S h hk ∅ b
 rintro⟨a,b⟩;exact⟨a,by omega⟩
section
open PySem.Spec PyProof.Rows
def zIS {prog:Program} {w:World} {A:Around} {E:Value->Shared->Prop} {s:Shared} {v:Value} {Q:Value->Shared->Prop}
  (h:wpAny (model prog w) A.in1 (collect v) (λvs s1=>∃ns,IntsAre vs ns/\vs.length < 64/\∀(h':Heap) (out:Array Value) (ms:List Int),IntsAre out.toList ms->ms.Perm ns->ms.Pairwise (·<=·)->
   (∀b o,s1.heap.get? b=some o->h'.get? b=some o)->(∃e,h'.get? s1.heap.objs.size=some (seqObj "list" out e))->s1.heap.objs.size < h'.objs.size->Q (.ref s1.heap.objs.size) { s1 with heap:=h' }) E s):wpAny (model prog w) A (call (.builtin "sorted") [v]) Q E s:=by
 refine Calls.call_function_entry kind_sorted plain_sorted entry_sorted (args_sorted1 _) ?_;unfold Builtin.«sorted»;refine wGY (m:=checkCount "sorted" 1 1 _) (wG2 (wGY (wHq h (λvs s1 h1=>?_) λ_ _ e=>e)));obtain⟨ns,hI,hz,q⟩:=h1;refine wGY (wpAny_newList ?_ (by exact wHe (wH9 hz) ⋯));have hL:(s1.heap.push (seqObj "list" vs.toArray 0)).get? s1.heap.objs.size=some (seqObj "list" vs.toArray 0):=wHb _ rfl;refine wGY (wHQ (wpAny_call_entry slot_list_sort ⟨_,hL,rfl⟩ entry_list_sort (list_sort_tree hL hI hz λout ms a1 a2 a3=>⟨_,rfl,?_⟩) (args_list_sort _)));refine wG2 ⟨_,rfl,q _ out ms a1 a2 a3 (λb o e=>?_) ?_ ?_⟩
 ·have hb:=wHa e;unfold sortedHeap;refine (wHu _ _ (Ne.symm (wHg hb))).trans (wG3 _ (wG3 _ ?_));exact (wHu _ _ (Ne.symm (wHg hb))).trans (wG3 _ e)
 ·unfold sortedHeap;exact⟨_,get?_update_seq (wG3 _ (wG3 _ (get?_update_seq hL (λ_=>#[])))) (λ_=>out)⟩
 unfold sortedHeap;rw[Heap.size_update,wHT,wHT,Heap.size_update,wHT];exact wH1 (wH1 (wHY _))
def zGs {X:Cx} (hc:X.calm=true):zB6 X (.builtin "sorted") (λxs H Q=>∃(p:Addr) (ks:List Int),xs=[.ref p]/\H p=some (zPs X.w p ks)/\ks.length < 64/\
  ∀(l:Addr) (ms:List Int),H l=none->ms.Perm ks->ms.Pairwise (·<=·)->Q (.ref l) (upd H l (.lst (ms.map V.int)))):=by
 intro pins s σ H xs us Q I r h;obtain⟨p,ks,rfl,hp,kl,q⟩:=h;obtain⟨u,rfl,ru⟩:=r.one;cases ru;have hS:zFr X.w s.heap p ks:=(I.hok p _ hp).1;refine zIS (zIp (w:=X.w) (show X.A.in1.handled=none from I.ok.hd hc) hS λs1 vs ns i1 i2 i3 i4 i5 i6=>⟨ns,i1,?_,λh' out ms o1 o2 o3 o4 o5 o6=>?_⟩)
 ·have z:vs.length=ns.length:=i1.length;rw[z,i2.length_eq];exact kl
 have hl:H s1.heap.objs.size=none:=I.hok.fresh i6;obtain⟨e,he⟩:=o5;have J:=I.laid (h':=h') (o:=.lst (ms.map V.int)) (t':=s1.toks) (a:=s1.heap.objs.size) (λb o e=>o4 _ _ (i3 _ _ e)) i6 ⟨by rw[wGX,o2.length_eq,i2.length_eq];exact wHe (wH9 kl) ⋯,out.toList,e,zDg o1,by rw[he]⟩
 exact⟨.ref s1.heap.objs.size,_,J.drawn rfl i4 i5,rfl,q _ ms hl (o2.trans i2) o3⟩
end
structure SpAt (K:W.Frag) (H:Hp) (r:Addr) (rs:List V) (sps:Sps):Prop where
 sq:SqL K H r rs
 len:rs.length=sps.length
 at_:∀k,k < sps.length->∃q,rs[k]?=some (.ref q)/\H q=some (.tup [.int (lo sps k),.int (hi sps k)])
def SpAt.mono {K:W.Frag} {H H':Hp} {r:Addr} {rs:List V} {sps:Sps} (h:SpAt K H r rs sps) (s:zAf H H'):SpAt K H' r rs sps:=
 ⟨s.seq h.sq,h.len,λk hk=>let ⟨q,e1,e2⟩:=h.at_ k hk;⟨q,e1,s _ _ e2⟩⟩
inductive sp_holding (K:W.Frag) (vs:List V) (H:Hp) (Q:VK) (E:XK):Prop
 | mk (r:Addr) (rs:List V) (sps:Sps) (d:Int):vs=[.ref r,.int d]->(SpAt K H r rs sps/\sps.length<=800/\∀(p:Addr) (H':Hp),H p=none->zAf H H'->H' p=some (.lst ((zOU sps d d).map V.int))->Q (.ref p) H')->sp_holding K vs H Q E
def zJi (T:Txt P K mg t):FnOk P w K mg base CX0 40 t.wB9 t.wCa ["spans","day"] (sp_holding K):=by
 refine T.wDM.ok zJb ⟨⟩ ();obtain⟨r,rs,sps,d,rfl,sp,hl,q⟩:=h;refine⟨_,(zH (zX (zAq ["place","span","day"] [none,none,some 1] (by kernel_rfl) rfl (zKv rfl T.wCK (zI (pv 0) zE zA)) (λ_ _ _ _ _=>(zAw K (n:=2) rfl (zQ (zK (i:=0) ndB rfl (Or.inl rfl)) (zQ (zK (i:=1) ndB rfl (Or.inl rfl)) zAv)))) (λ_ _ _ _ _=>(zC8 (zDm zDb zDb (zAW K (pv 1) zG) (pv 2) (zAW K (pv 1) zG)))) (λ_ _ _ _ _=>(pv 0))))),?_⟩;refine⟨_,rfl,r,rs,rfl,sp.sq,λc hc=>?_⟩;refine zLs (K:=K) (ys:=rs) (λi σ' H'=>∃u v,σ'=[u,v,some (.int d)]/\zAf H H'/\H' c=some (.lst ((zIl sps d d i).map V.int))) ⟨none,none,rfl,zC hc _,zB⟩ (λi σ' H' _ ⟨u,v,_,sm,_⟩=>sm.seq sp.sq) ?_ ?_
 ·rintro i x σ' H' T bA ⟨u,v,rfl,sm,ec⟩ hT;have aC:i < sps.length:=by rw[← sp.len];exact (wIi bA).1
  obtain⟨t',e1,e2⟩:=sp.at_ i aC;have ex:x=.ref t':=by rw[e1] at bA;exact (wG8 bA).symm
  subst ex;have cG:=sm.trans (zC hT (.tup [.int (i:Int),.ref t']));have et:=SqT.of (K:=K) (cG _ _ e2);have ncT:c≠T:=zP ec hT;have pN:upd H' T (.tup [.int (i:Int),.ref t']) c=some (.lst ((zIl sps d d i).map V.int)):=by rw[zO ncT];exact ec
  have le:=zO8 sps d d i;refine⟨T,_,rfl,SqT.of zB,rfl,_,_,rfl,_,_,rfl,rfl,?_⟩;refine⟨_,rfl,t',_,_,_,rfl,rfl,et,rfl,_,rfl,_,_,rfl,rfl,_,rfl,zCw (λa=>?_) (λa=>?_)⟩
  ·have a1:lo sps i<=d:=wHm a;refine⟨_,rfl,t',_,_,_,rfl,rfl,et,rfl,_,_,rfl,rfl,_,rfl,zCw (λb=>?_) (λb=>?_)⟩
   ·have b1:d<=hi sps i:=wHm b;exact⟨_,rfl,_,pN,by rw[wGX];exact zAB ∅,_,_,rfl,zY cG hc _,by rw[zB,zIE ⟨a1,b1⟩,zCg]⟩
   have b1:¬d<=hi sps i:=wHz (wIl b);exact⟨_,_,rfl,cG,by rw[pN,zIk λz=>b1 z.2]⟩
  have a1:¬lo sps i<=d:=wHz (wIl a);exact⟨_,rfl,zCf ⟨_,_,rfl,cG,by rw[pN,zIk λz=>a1 z.1]⟩⟩
 rintro σ' H' ⟨u,v,rfl,sm,ec⟩;rw[sp.len] at ec;exact q c H' hc sm ec
def dTo (sps:Sps):Nat->List Int
 | 0=>[0]
 | i+1=>dTo sps i++[lo sps i]++[hi sps i+1]
theorem zIn (sps:Sps):∀n,(dTo sps n).length=2*n+1
 | 0=>rfl
 | n+1=>by unfold dTo;rw[wG7,wG7,zIn sps n];simp only[wHM];omega
theorem zKM {sps:Sps} {y:Int}:∀{n:Nat},y∈dTo sps n↔y=0∨∃k,k < n/\(y=lo sps k∨y=hi sps k+1)
 | 0=>by unfold dTo;rw[List.mem_singleton];exact⟨.inl,λh=>h.elim id λ⟨_,h,_⟩=>absurd h (wHd _)⟩
 | n+1=>by
  unfold dTo;rw[List.mem_append,List.mem_append,List.mem_singleton,List.mem_singleton,zKM (n:=n)];constructor
  ·rintro (((h | ⟨k,h1,h2⟩) | h) | h)
   ·exact .inl h
   ·exact .inr ⟨k,by omega,h2⟩
   ·exact .inr ⟨n,by omega,.inl h⟩
   exact .inr ⟨n,by omega,.inr h⟩
  rintro (h | ⟨k,h1,h2⟩)
  ·exact .inl (.inl (.inl h))
  by_cases e:k=n
  ·subst e;rcases h2 with h2 | h2
   ·exact .inl (.inr h2)
   exact .inr h2
  exact .inl (.inl (.inr ⟨k,by omega,h2⟩))
def dIn (d:Int):Bool:=decide (0<=d) && decide (d<=5000)
def fTo (D:List Int) (i:Nat):List Int:=(D.take i).filter dIn
def zOF {D:List Int} {i:Nat} {d:Int} (e:D[i]?=some d) (h:0<=d/\d<=5000):fTo D (i+1)=fTo D i++[d]:=by unfold fTo;rw[List.take_add_one,e,List.filter_append];unfold dIn;simp[h]
theorem zNv {D:List Int} {i:Nat} {d:Int} (e:D[i]?=some d) (h:¬(0<=d/\d<=5000)):fTo D (i+1)=fTo D i:=by
 unfold fTo;rw[List.take_add_one,e,List.filter_append];unfold dIn;have:(decide (0<=d) && decide (d<=5000))=false:=by rw[← Bool.not_eq_true,wHw,decide_eq_true_eq,decide_eq_true_eq];exact h
 simp[this]
theorem zNw (D:List Int) (i:Nat):(fTo D i).length<=D.length:=wHe (wH7 _ _) (by rw[wHk];omega)
def zOx {D:List Int} {y:Int}:y∈fTo D D.length↔y∈D/\0<=y/\y<=5000:=by unfold fTo dIn;rw[wHo,List.mem_filter];simp
def zOL {sps:Sps} {ms ks:List Int} (so:zN3 sps) (nd:ks.Nodup) (mem:∀y,y∈ks↔y∈fTo (dTo sps sps.length) (dTo sps sps.length).length) (pm:ms.Perm ks) (pw:ms.Pairwise (·<=·)):Days sps ms:=by
 have mm:∀y,y∈ms↔(y=0∨∃k,k < sps.length/\(y=lo sps k∨y=hi sps k+1))/\0<=y/\y<=5000:=λy=>by rw[pm.mem_iff,mem,zOx,zKM]
 have inc:ms.Pairwise (· < ·):=by
  have nd':ms.Pairwise (·≠·):=pm.nodup_iff.mpr nd;exact (List.Pairwise.and pw nd').imp λ{a b} h=>by have h1:=h.1;have h2:=h.2;omega
 refine⟨inc,?_,λd hd=>((mm d).mp hd).2,λd hd=>((mm d).mp hd).1,λk hk=>(mm _).mpr ⟨.inr ⟨k,hk,.inl rfl⟩,?_⟩,λk hk h=>(mm _).mpr ⟨.inr ⟨k,hk,.inr rfl⟩,?_,h⟩⟩
 ·have z:(0:Int)∈ms:=(mm 0).mpr ⟨.inl rfl,by omega,by omega⟩
  match ms,z,pw,mm with
  | a::r,z,pw,mm=>
   have a0:=((mm a).mp (wH4 ..)).2.1;rcases wIn z with e | e
   ·rw[← e];rfl
   have:=(List.pairwise_cons.mp pw).1 0 e;have:a=0:=by omega
   rw[this];rfl
 ·have:=so k hk;omega
 have:=so k hk;omega
inductive sp_turning_days (K:W.Frag) (vs:List V) (H:Hp) (Q:VK) (E:XK):Prop
 | mk (r:Addr) (rs:List V) (sps:Sps):vs=[.ref r]->(SpAt K H r rs sps/\zN3 sps/\sps.length<=30/\
 ∀(l:Addr) (ds:List Int) (H':Hp),H l=none->zAf H H'->H' l=some (.lst (ds.map V.int))->Days sps ds->ds.length<=900->Q (.ref l) H')->sp_turning_days K vs H Q E
def zEI (T:Txt P K mg t):FnOk P w K mg base CX0 40 t.wAI t.wAJ ["spans"] (sp_turning_days K):=by
 refine T.wBz.ok zBn ⟨⟩ ();obtain⟨r,rs,sps,rfl,sp,so,hl,q⟩:=h;refine⟨_,(zD (zAE 1 zBn.nd (zAk (zI zG zE zJ)))
  (zD (zAp PassesOwn.never rfl (zAb K (pv 0)) (zAw K (n:=2) rfl (zQ (zK (i:=2) zBn.nd rfl (Or.inl rfl)) (zQ (zK (i:=3) zBn.nd rfl (Or.inl rfl)) zAv))) (zD (zAn (zBv K wHv wHG wHJ zAx (pv 1) (zI (pv 2) zE zA)))
  (zH (zAn (zBv K wHv wHG wHJ zAx (pv 1) (zI (zW zBj (pv 3) zG) zE zT))))))
  (zH (zX (zS (zGs rfl) rfl T.wC7 PyProof.Rows.boot_sorted (zI (zCa (zLy K rfl) rfl T.wGS PyProof.Rows.boot_set (zI (zAq ["day"] [none] (by kernel_rfl) rfl (zAb K (pv 1)) (λ_ _ _ _ _=>(zK (i:=0) ndB rfl (Or.inl rfl))) (λ_ _ _ _ _=>(zC8 (zDm zDb zDb zG (pv 0) (zA9 (v:=.int 5000) rfl T.wBY.choose_spec ⟨_,rfl⟩)))) (λ_ _ _ _ _=>(pv 0))) zE zA2)) zE zR)))))),?_⟩
 refine⟨szl,λd hd=>?_⟩;have s0:=zC hd (.lst [V.int 0]);refine⟨_,rfl,r,rfl,⟨_,s0.seq sp.sq⟩,zAy (K:=K) (a:=r) (xs:=rs) (λi σ' H'=>∃u v,σ'=[some (.ref r),some (.ref d),u,v]/\zAf H H'/\H' d=some (.lst ((dTo sps i).map V.int)))
  ⟨_,_,rfl,s0,zB⟩ (λi σ' H' _ ⟨_,_,_,sm,_⟩=>sm.seq sp.sq) ?_ ?_⟩
 ·rintro i x σ' H' hx ⟨u,v,rfl,sm,ed⟩;have aC:i < sps.length:=by rw[← sp.len];exact (wIi hx).1
  obtain⟨t',e1,e2⟩:=sp.at_ i aC;have ex:x=.ref t':=by rw[e1] at hx;exact (wG8 hx).symm
  subst ex;have dl:=zIn sps i;refine⟨t',_,rfl,SqT.of (sm _ _ e2),rfl,_,_,rfl,_,_,rfl,rfl,?_⟩;refine⟨_,rfl,.inl ⟨rfl,_,SqL.of ed⟩,_,rfl,d,_,_,rfl,rfl,ed,by rw[wGX];exact zAB ∅,?_⟩;refine⟨_,rfl,.inl ⟨rfl,_,SqL.of zB⟩,_,rfl,_,_,rfl,rfl,d,_,_,rfl,rfl,zB,by rw[wG7,wGX];exact zAB (by simp only[wHM];omega),?_⟩;refine⟨_,_,rfl,zY (zY sm hd _) hd _,?_⟩;rw[zB,show dTo sps (i+1)=dTo sps i++[lo sps i]++[hi sps i+1] from rfl,wG9,wG9]
  rfl
 rintro σ' H1 ⟨u,v,rfl,s1,ed⟩;rw[sp.len] at ed;have dl:=zIn sps sps.length;refine⟨_,rfl,d,rfl,⟨_,SqL.of ed⟩,λc hc=>?_⟩;refine zAr (K:=K) (ys:=(dTo sps sps.length).map V.int) (λi σ' H'=>∃u,σ'=[u]/\H'=upd H1 c (.lst ((fTo (dTo sps sps.length) i).map V.int))) ⟨none,rfl,rfl⟩ (λi σ' H' _ ⟨_,_,e⟩=>by rw[e];exact SqL.of (zC hc _ _ _ ed)) ?_ ?_
 ·rintro i x σ' H' hx ⟨u,rfl,rfl⟩;rw[wG6] at hx;obtain⟨dd,e1,rfl⟩:=wIk hx;have fl:=zNw (dTo sps sps.length) i;refine⟨_,rfl,_,_,rfl,rfl,_,rfl,zCw (λa=>?_) (λa=>?_)⟩
  ·have a1:0<=dd:=wHm a;refine⟨_,_,rfl,rfl,_,rfl,zCw (λb=>?_) (λb=>?_)⟩
   ·have b1:dd<=5000:=wHm b;exact⟨_,rfl,_,zB,by rw[wGX];exact zAB ∅,_,rfl,by rw[zBx,zOF e1 ⟨a1,b1⟩,zCg]⟩
   have b1:¬dd<=5000:=wHz (wIl b);exact⟨_,rfl,by rw[zNv e1 λz=>b1 z.2]⟩
  have a1:¬0<=dd:=wHz (wIl a);exact⟨_,rfl,zCf ⟨_,rfl,by rw[zNv e1 λz=>a1 z.1]⟩⟩
 rintro σ' H2 ⟨u,rfl,rfl⟩;rw[wGX];have fl:=zNw (dTo sps sps.length) (dTo sps sps.length).length;refine⟨c,_,rfl,SqL.of zB,by omega,λl ks eB mem nd len=>?_⟩;refine⟨l,ks,rfl,zB,by omega,λl2 ms hl3 pm pw=>?_⟩;have sA:=(s1.trans (zC hc _)).trans (zC eB (zPs w l ks));refine q l2 ms _ (sA.free hl3) (sA.trans (zC hl3 _)) zB (zOL so nd mem pm pw) ?_;rw[pm.length_eq];omega
def zRv (xs:List V):zD1 xs (some 1) none=xs.drop 1:=by
 unfold zD1;rw[HT.sIx_none,show (some (1:Int))=some (((1:Nat):Int)) from rfl,HT.sIx_nat];cases xs with
 | nil=>rfl
 | cons x r=>
  have:min 1 (x::r).length=1:=by simp
  rw[this];exact wHX (by simp)
def bhd (ds:List Int):List Int:=ds.drop 1++[5001]
theorem zL1 {ds:List Int} {i:Nat} (h:i < ds.length):(bhd ds)[i]?=some (nxt ds i):=by
 unfold bhd;by_cases c:i+1 < ds.length
 ·rw[wHl (by rw[wHP];omega),List.getElem?_drop,zI9 c,wG4,Nat.add_comm 1 i,wG0 c];rfl
 rw[wHj (by rw[wHP];omega),zIg c,wHP,show i-(ds.length-1)=0 by omega];rfl
structure StRec where
 t:Addr
 p:Addr
 f:Int
 l:Int
 ps:List Int
def zKj (ss:List StRec):List V:=ss.map λs=>V.ref s.t
def zFW (ss:List StRec):(zKj ss).length=ss.length:=wGX _
def zMa {ss:List StRec} {i:Nat} {s:StRec} (h:ss[i]?=some s):(zKj ss)[i]?=some (.ref s.t):=by unfold zKj;rw[wG6,h];rfl
def zKi (ss:List StRec) (s:StRec):zKj (ss++[s])=zKj ss++[.ref s.t]:=by unfold zKj;rw[wG9];rfl
def zR1 (H:Hp) (s:StRec):Prop:=H s.t=some (.tup [.int s.f,.int s.l,.ref s.p])/\H s.p=some (.lst (s.ps.map V.int))
structure Told (sps:Sps) (ds:List Int) (ss:List StRec) (n:Nat):Prop where
 len:ss.length=n
 at_:∀(i:Nat) (s:StRec),ss[i]?=some s->s.f=ds.getD i 0/\s.l=nxt ds i-1/\s.ps=zOU sps (ds.getD i 0) (ds.getD i 0)
 nd:(ss.map (·.p)).Nodup
inductive sp_stretches (K:W.Frag) (vs:List V) (H:Hp) (Q:VK) (E:XK):Prop
 | mk (r:Addr) (rs:List V) (sps:Sps):vs=[.ref r]->(SpAt K H r rs sps/\zN3 sps/\sps.length<=30/\
 ∀(fl:Addr) (ds:List Int) (ss:List StRec) (H':Hp),H fl=none->zAf H H'->H' fl=some (.lst (zKj ss))->Days sps ds->ds.length<=900->Told sps ds ss ds.length->(∀s∈ss,zR1 H' s/\H s.p=none/\s.p≠fl)->Q (.ref fl) H')->sp_stretches K vs H Q E
def zGR (T:Txt P K mg t):FnOk P w K mg base CX0 41 t.wBi t.wBj ["spans"] (sp_stretches K):=by
 refine T.wCC.ok zBg ⟨⟩ ();obtain⟨r,rs,sps,rfl,sp,so,hl,q⟩:=h;refine⟨_,(zD (zAE 1 zBg.nd (cal (zEI T) hr T.wDE T.wBz T.wDD (zI (pv 0) zE zA)))
  (zD (zAE 2 zBg.nd (zW zBL (zBK (zDi K) (pv 1) (zBC zG) zED) (zAk (zI (zW zBj (zA9 (v:=.int 5000) rfl T.wBY.choose_spec ⟨_,rfl⟩) zG) zE zT))))
  (zD (zAE 3 zBg.nd (zAk zE))
  (zD (zAp PassesOwn.never rfl (zI2 rfl T.wD5 (zN (pv 1) (pv 2) zE zA zA)) (zAw K (n:=2) rfl (zQ (zK (i:=4) zBg.nd rfl (Or.inl rfl)) (zQ (zK (i:=5) zBg.nd rfl (Or.inl rfl)) zAv))) (zH (zAn (zBv K wHv wHG wHJ zAx (pv 3) (zI (zAR (zZ (pv 4) (zW zDT (pv 5) zG) (cal (zJi T) hr T.wFM T.wDM T.wFL (zN (pv 0) (pv 4) zE zA zA)) zE zA zT zR)) zE zAX)))))
  (zH (zX (pv 3))))))),?_⟩
 refine⟨_,rfl,r,rs,sps,rfl,sp,so,hl,λa ds H1 ha s1 ea D dl=>?_⟩;have dp:=D.pos;refine⟨_,rfl,_,rfl,a,_,rfl,SqL.of ea,λc hc=>?_⟩;have s2:=zC hc (.lst (zD1 (ds.map V.int) (some 1) none));refine⟨_,_,rfl,rfl,szl,λd hd=>?_⟩;have s3:=s2.trans (zC hd (.lst [.int 5001]));refine⟨c,d,_,_,rfl,rfl,zC hd _ _ _ zB,zB,?_,λb hb=>?_⟩
 ·rw[zRv,wHP,wGX];exact small (by show ds.length-1+1<=1000;omega)
 have eb0:zD1 (ds.map V.int) (some 1) none++[.int 5001]=(bhd ds).map V.int:=by unfold bhd;rw[zRv,wG9,List.map_drop];rfl
 have s4:=s3.trans (zC hb (.lst (zD1 (ds.map V.int) (some 1) none++[.int 5001])));refine⟨szl,λtl cL=>?_⟩;have s5:=s1.trans (s4.trans (zC cL (.lst [])));have ea5:=(s4.trans (zC cL (.lst []))) _ _ ea;have eb5:upd (upd (upd (upd H1 c (.lst (zD1 (ds.map V.int) (some 1) none))) d (.lst [.int 5001])) b (.lst (zD1 (ds.map V.int) (some 1) none++[.int 5001]))) tl (.lst []) b=some (.lst ((bhd ds).map V.int)):=by rw[← eb0];exact zC cL _ _ _ zB
 have jw:H tl=none:=(s1.trans s4).free cL;have nat:a≠tl:=zP (s4 _ _ ea) cL;have nbt:b≠tl:=zP (zB) cL;have lb:(ds.map V.int).length=((bhd ds).map V.int).length:=by unfold bhd;simp;omega
 refine⟨_,rfl,_,rfl,a,b,_,_,rfl,SqL.of ea5,SqL.of eb5,zOC (K:=K) lb (λi σ' H'=>∃(ss:List StRec) (u v:Option V),σ'=[some (.ref r),some (.ref a),some (.ref b),some (.ref tl),u,v]/\zAf H H'/\H' a=some (.lst (ds.map V.int))/\H' b=some (.lst ((bhd ds).map V.int))/\
  H' tl=some (.lst (zKj ss))/\Told sps ds ss i/\∀s∈ss,zR1 H' s/\H s.p=none/\s.p≠tl/\s.t≠tl) ⟨[],none,none,rfl,s5,ea5,eb5,zB,⟨rfl,λi s hs=>by simp at hs,List.nodup_nil⟩,λs hs=>by cases hs⟩ (λi σ' H' _ ⟨_,_,_,_,_,z1,z2,_⟩=>⟨SqL.of z1,SqL.of z2⟩) ?_ ?_⟩
 ·rintro i x y σ' H' T hx hy ⟨ss,u,v,rfl,sm,e1,e2,e3,td,hs⟩ hT;have bA:i < ds.length:=by have:=(wIi hx).1;rw[wGX] at this;exact this
  have ex:x=.int (ds.getD i 0):=by rw[wG6,wG0 bA] at hx;rw[wG4,wG0 bA];exact (wG8 hx).symm
  have ey:y=.int (nxt ds i):=by rw[wG6,zL1 bA] at hy;exact (wG8 hy).symm
  subst ex ey;have cG:=zC hT (.tup [.int (ds.getD i 0),.int (nxt ds i)]);have sH:=sm.trans cG;refine⟨T,_,rfl,SqT.of zB,rfl,_,_,rfl,_,_,rfl,rfl,?_⟩;refine⟨_,rfl,.inl ⟨rfl,_,SqL.of (cG _ _ e3)⟩,_,rfl,_,rfl,_,_,rfl,rfl,_,rfl,_,rfl,r,rs,sps,ds.getD i 0,rfl,sp.mono sH,by omega,λp H2 hp kF ep=>?_⟩;have sA:=cG.trans kF;refine⟨szl,λt' kN=>?_⟩;have sB:=sA.trans (zC kN (.tup [.int (ds.getD i 0),.int (nxt ds i-1),.ref p]));have fM:=sB _ _ e3;have l3:(zKj ss).length < sizeLine:=by rw[zFW,td.len];exact zAB ∅
  refine⟨tl,_,_,rfl,rfl,fM,l3,?_⟩;have hp0:H p=none:=sH.free hp;have npt:p≠tl:=Ne.symm (zP (cG _ _ e3) hp);have ntt:t'≠tl:=Ne.symm (zP (sA _ _ e3) kN);have nA:∀{z:Addr} {o:HO},H' z=some o->z≠tl->upd (upd H2 t' (.tup [.int (ds.getD i 0),.int (nxt ds i-1),.ref p])) tl (.lst ((zKj ss)++[.ref t'])) z=some o:=λh n=>by rw[zO n];exact sB _ _ h
  refine⟨ss++[⟨t',p,ds.getD i 0,nxt ds i-1,zOU sps (ds.getD i 0) (ds.getD i 0)⟩],_,_,rfl,zY (sH.trans (kF.trans (zC kN _))) jw _,nA e1 nat,nA e2 nbt,by rw[zB,zKi],⟨by rw[wG7,td.len];rfl,λj s hj=>?_,?_⟩,λs hm=>?_⟩
  ·by_cases c:j < ss.length
   ·rw[wHl c] at hj;exact td.at_ j s hj
   rw[wHj ∅] at hj;have:j-ss.length=0:=by
    rcases Nat.eq_zero_or_pos (j-ss.length) with z | z
    ·exact z
    rw[wH0 (by simp;omega)] at hj;cases hj
   have ej:j=i:=by rw[← td.len];omega
   rw[this] at hj;have:=wG8 hj;subst this ej;exact⟨rfl,rfl,rfl⟩
  ·rw[wG9,List.nodup_append];refine⟨td.nd,by simp,λz hz w hw=>?_⟩;obtain⟨s,hs1,rfl⟩:=List.mem_map.mp hz;have:w=p:=by simpa using hw
   subst this;exact zP (cG _ _ (hs s hs1).1.2) hp
  rcases wIm hm with z | z
  ·obtain⟨⟨h1,h2⟩,h3,h4,h5⟩:=hs s z;exact⟨⟨nA h1 h5,nA h2 h4⟩,h3,h4,h5⟩
  rw[wIj z];have et':t'≠p:=Ne.symm (zP ep kN);exact⟨⟨by show upd _ tl _ t'=_;rw[zO ntt];exact zB,by show upd _ tl _ p=_;rw[zO npt,zO (Ne.symm et')];exact ep⟩,hp0,npt,ntt⟩
 rintro σ' H' ⟨ss,u,v,rfl,sm,e1,e2,e3,td,hs⟩;rw[wGX] at td;exact⟨_,rfl,q tl ds ss H' jw sm e3 D dl td λs hm=>⟨(hs s hm).1,(hs s hm).2.1,(hs s hm).2.2.1⟩⟩
def zLL (p:Pct):Int × Int:=(p.2.2.2.1,p.2.2.2.2)
def zM6 {ps:List Pct} {k:Nat} {p:Pct} (h:ps[k]?=some p):lo (ps.map zLL) k=p.2.2.2.1/\hi (ps.map zLL) k=p.2.2.2.2:=by unfold lo hi;rw[wG4,wG6,h];exact⟨rfl,rfl⟩
def zFf (H:Hp) (l:Addr) (ns:List Str) (ps:List Pct) (ds:List Int):Prop:=
 ∃q:List (Addr × Addr),H l=some (.lst (q.map λx=>V.ref x.1))/\q.length=ds.length/\∀(i:Nat) (a w:Addr) (d:Int),q[i]?=some (a,w)->ds[i]?=some d->H a=some (.tup [.int d,.ref w])/\zAe H w ((ps.filter (zBk d)).map (zJy ns))/\w≠l
def zFf.same {H H':Hp} {l:Addr} {ns:List Str} {ps:List Pct} {ds:List Int} (x:zFf H l ns ps ds) (s:zAf H H'):zFf H' l ns ps ds:=by obtain⟨q,h1,h2,h3⟩:=x;exact⟨q,s _ _ h1,h2,λi a w d e1 e2=>let ⟨g1,g2,g4⟩:=h3 i a w d e1 e2;⟨s _ _ g1,g2.same s,g4⟩⟩
theorem zPO (ps:List Pct) (d:Int):∀n,n<=ps.length->∃ks:List Nat,zIl (ps.map zLL) d d n=ks.map (λk:Nat=>(k:Int))/\(∀k∈ks,k < n)/\∀(α:Type) (f:Pct->α) (g:Nat->α),(∀k p,ps[k]?=some p->g k=f p)->ks.map g=((ps.take n).filter (zBk d)).map f
 | 0,_=>⟨[],rfl,(λk hk=>nomatch hk),λα f g _=>rfl⟩
 | n+1,h=>by
  obtain⟨ks,e,b,g⟩:=zPO ps d n ∅;have hp:ps[n]?=some ps[n]:=wG0 ∅;obtain⟨l1,l2⟩:=zM6 hp;have et:(ps.take (n+1)).filter (zBk d)=(ps.take n).filter (zBk d)++[ps[n]].filter (zBk d):=by rw[wHC,hp,List.filter_append];rfl
  by_cases c:(ps[n]).2.2.2.1<=d/\d<=(ps[n]).2.2.2.2
  ·refine⟨ks++[n],?_,λk hk=>?_,λα f g' hg=>?_⟩
   ·rw[zIE (by rw[l1,l2];exact c),e,wG9];rfl
   ·rcases wIm hk with z | z
    ·have:=b k z;omega
    rw[wIj z];omega
   rw[et,List.filter_cons_of_pos (by unfold zBk;rw[wHB c.1,wHB c.2];rfl),List.filter_nil,wG9,wG9,g α f g' hg];show _++[g' n]=_++[f ps[n]];rw[hg n _ hp]
  refine⟨ks,?_,λk hk=>by have:=b k hk;omega,λα f g' hg=>?_⟩
  ·rw[zIk (by rw[l1,l2];exact c),e]
  rw[et,List.filter_cons_of_neg (by unfold zBk;intro z;rw[wHw,decide_eq_true_eq,decide_eq_true_eq] at z;exact c z),List.filter_nil,wHx]
  exact g α f g' hg
inductive sp_looks (K:W.Frag) (vs:List V) (H:Hp) (Q:VK) (E:XK):Prop
 | mk (nl pl:Addr) (ns:List Str) (ps:List Pct):vs=[.ref nl,.ref pl]->(SqL K H nl (ns.map V.str)/\zAe H pl (ps.map Pct.vs)/\ps.length<=30/\(∀p∈ps,p.1∈ns/\p.2.1∈ns)/\zN3 (ps.map zLL)/\
 ∀l H' ds,H l=none->zAf H H'->Days (ps.map zLL) ds->ds.length<=900->zFf H' l ns ps ds->Q (.ref l) H')->sp_looks K vs H Q E
def zMq (T:Txt P K mg t):FnOk P w K mg base CX0 42 t.wDp t.wDq ["names","pacts"] (sp_looks K):=by
 refine T.wFd.ok zFM ⟨⟩ ();obtain⟨nl,pl,ns,ps,rfl,hN,hP,hz,gE,so,q⟩:=h;refine⟨_,(zD (zBa (i:=2) zFM.nd rfl (Or.inr rfl) (cal (zF4 T) hr T.wDP T.wCl T.wDO (zN (pv 0) (pv 1) zE zA zA)))
  (zD (zDF ["giver","taker","part","first","last"] [none,none,none,none,none] (by kernel_rfl) rfl (zAb K (pv 1)) (λ_ _ _ _ _=>(zAw K (n:=5) rfl (zQ (zK (i:=0) ndB rfl (Or.inl rfl)) (zQ (zK (i:=1) ndB rfl (Or.inl rfl)) (zQ (zK (i:=2) ndB rfl (Or.inl rfl)) (zQ (zK (i:=3) ndB rfl (Or.inl rfl)) (zQ (zK (i:=4) ndB rfl (Or.inl rfl)) zAv))))))) (λ_ _ _ _ _=>zAs) (λ_ _ _ _ _=>(zAR (zN (pv 3) (pv 4) zE zA zA))) (zK (i:=3) zFM.nd rfl (Or.inl rfl)))
  (zH (zX (zAq ["first","last","places","ways"] [none,none,none,some 2] (by kernel_rfl) rfl (zAb K (cal (zGR T) hr T.wEX T.wCC T.wEW (zI (pv 3) zE zA))) (λ_ _ _ _ _=>(zAw K (n:=3) rfl (zQ (zK (i:=0) ndB rfl (Or.inl rfl)) (zQ (zK (i:=1) ndB rfl (Or.inl rfl)) (zQ (zK (i:=2) ndB rfl (Or.inl rfl)) zAv))))) (λ_ _ _ _ _=>zAs) (λ_ _ _ _ _=>(zAR (zN (pv 0) (zAq ["place","ways"] [none,some 3] (by kernel_rfl) rfl (zAb K (pv 2)) (λ_ _ _ _ _=>(zK (i:=0) ndB rfl (Or.inl rfl))) (λ_ _ _ _ _=>zAs) (λ_ _ _ _ _=>(zAo K (pv 1) (pv 0)))) zE zA zA2)))))))),?_⟩
 refine⟨_,rfl,_,rfl,nl,pl,ns,ps,rfl,hN,hP,by omega,gE,λwl H1 iB s1 W1=>?_⟩;obtain⟨qs,hp,lq,hq⟩:=hP.same s1;rw[wGX] at lq;refine⟨_,rfl,pl,rfl,⟨_,SqL.of hp⟩,λsl iE=>?_⟩;refine zAr (ys:=qs.map V.ref) (λi σ' H'=>∃(v1 v2 v3 v4 v5:Option V),σ'=[v1,v2,v3,v4,v5]/\zAf H1 H'/\zAe H' sl ((ps.take i).map λp=>[V.int p.2.2.2.1,V.int p.2.2.2.2])) ⟨none,none,none,none,none,rfl,zC iE _,zAe.nil zB⟩ ?_ ?_ ?_
 ·rintro i σ' H' hi ⟨v1,v2,v3,v4,v5,rfl,s',el⟩;exact SqL.of (s' _ _ hp)
 ·rintro i x σ' H' hi ⟨v1,v2,v3,v4,v5,rfl,s',el⟩;rw[wG6] at hi;obtain⟨a,ha,rfl⟩:=wIk hi;have aC:i < ps.length:=by rw[← lq];exact (wIi ha).1
  have aY:ps[i]?=some ps[i]:=wG0 aC;have ea:=s' _ _ (hq i a _ ha (by rw[wG6,aY];rfl));refine⟨a,_,rfl,SqT.of ea,rfl,_,_,rfl,_,_,rfl,_,_,rfl,_,_,rfl,_,_,rfl,rfl,?_⟩;refine⟨_,rfl,_,rfl,zA8,λp dJ=>?_⟩;have s2:=zC dJ (.tup [V.int (ps[i]).2.2.2.1,V.int (ps[i]).2.2.2.2]);obtain⟨q2,g1,g2,g3⟩:=el.same s2;refine⟨_,g1,by rw[wGX,g2,wGX,wHk];exact zAm ∅,_,_,_,_,_,rfl,zY (s'.trans s2) iE _,?_⟩;rw[wHC,aY,wG9];exact zAe.snoc g1 g2 g3 zB
 rintro σ' H2 ⟨v1,v2,v3,v4,v5,rfl,s2,S2⟩;rw[wGX,lq,wHo] at S2;obtain⟨sq,g1,g2,g3⟩:=S2;rw[wGX] at g2;have SA:SpAt K H2 sl (sq.map V.ref) (ps.map zLL):=by refine⟨SqL.of g1,by rw[wGX,wGX,g2],λk hk=>?_⟩;rw[wGX] at hk;have kP:ps[k]?=some ps[k]:=wG0 hk;have hsk:sq[k]?=some (sq[k]' ∅):=wG0 _;obtain⟨l1,l2⟩:=zM6 kP;refine⟨sq[k]' ∅,by rw[wG6,hsk];rfl,?_⟩;rw[l1,l2];exact g3 k _ _ hsk (by rw[wG6,kP];rfl)
 refine⟨_,rfl,sl,_,_,rfl,SA,so,by rw[wGX];exact hz,λfl ds ss H3 kX s3 efl D dl Tl ly=>?_⟩;refine⟨fl,rfl,⟨_,SqL.of efl⟩,λl hl=>?_⟩;obtain⟨wq,w1,w2,w3⟩:=W1.same (s2.trans s3);rw[wGX] at w2;have cA:=s2.trans s3;refine zAr (ys:=zKj ss) (λi σ' H'=>∃(v1 v2 v3:Option V),σ'=[v1,v2,v3,some (.ref wl)]/\zAf H3 H'/\zFf H' l ns ps (ds.take i)) ⟨none,none,none,rfl,zC hl _,⟨[],zB,rfl,λi a w d e=>by simp at e⟩⟩ ?_ ?_ ?_
 ·rintro i σ' H' hi ⟨v1,v2,v3,rfl,s4,L4⟩;exact SqL.of (s4 _ _ efl)
 ·rintro i x σ' H4 hx ⟨v1,v2,v3,rfl,s4,L4⟩;have hi:i < ss.length:=by rw[← zFW];exact (wIi hx).1
  have hs:ss[i]?=some ss[i]:=wG0 hi;rw[zMa hs] at hx;cases hx;have hid:i < ds.length:=by rw[← Tl.len];exact hi
  obtain⟨t1,t2,t3⟩:=Tl.at_ i _ hs;obtain⟨⟨tup,lst⟩,_,_⟩:=ly ss[i] (wHs hi);generalize ss[i]=sr at t1 t2 t3 tup lst;have hd:ds[i]?=some (ds.getD i 0):=by rw[wG4,wG0 hid];rfl
  generalize ds.getD i 0=d at t1 t3 hd;refine⟨sr.t,_,rfl,SqT.of (s4 _ _ tup),rfl,_,_,rfl,_,_,rfl,_,_,rfl,rfl,?_⟩;obtain⟨ks,ek,bk,gk⟩:=zPO ps d ps.length (wG5 _);have ep:sr.ps=ks.map (λk:Nat=>(k:Int)):=by rw[t3,← ek];unfold zOU;rw[wGX]
  have lk:ks.length<=100:=by have:=congrArg List.length (gk Pct id (λk=>ps.getD k (Str.empty,Str.empty,0,0,0)) (λk p h=>by rw[wG4,h];rfl));rw[wGX,wGX,wHo] at this;rw[this];exact wHe (wH7 _ _) ∅
  rw[ep] at lst;refine⟨_,rfl,_,rfl,sr.p,rfl,⟨_,SqL.of (s4 _ _ lst)⟩,λm hm=>?_⟩;refine zAr (ys:=(ks.map (λk:Nat=>(k:Int))).map V.int) (λj σ' H'=>∃(v:Option V),σ'=[v,some (.ref wl)]/\zAf H4 H'/\H' m=some (.lst (((ks.take j).map λk=>wq.getD k 0).map V.ref))) ⟨none,rfl,zC hm _,zB⟩ ?_ ?_ ?_
  ·rintro j σ' H' hj ⟨v,rfl,s5,em⟩;exact SqL.of (s5 _ _ (s4 _ _ lst))
  ·rintro j x σ' H' hx ⟨v,rfl,s5,em⟩;rw[List.map_map,wG6] at hx;obtain⟨k,hk,rfl⟩:=wIk hx;have aZ:k < wq.length:=by rw[w2];exact bk k (wHA hk)
   have iP:wq[k]?=some (wq.getD k 0):=by rw[wG4,wG0 aZ];rfl
   refine⟨_,rfl,_,rfl,wl,_,_,_,rfl,rfl,SqL.of (s5 _ _ (s4 _ _ w1)),(show atI (wq.map V.ref) ((k:Nat):Int)=some (.ref (wq.getD k 0)) from zDM (by rw[wG6,iP];rfl)),_,em,by rw[wGX,wGX,wHk];exact zAm ∅,_,rfl,zY s5 hm _,?_⟩;rw[zB,wHC,hk];simp only[Option.toList_some,wG9,wHW,List.map_nil]
  rintro σ' H5 ⟨v,rfl,s5,em⟩;rw[wGX,wGX,wHo] at em;have TW:zAe H5 m ((ps.filter (zBk d)).map (zJy ns)):=by
   refine⟨_,em,?_,λj a ys e1 e2=>?_⟩
   ·have:=congrArg List.length (gk (List V) (zJy ns) (λk=>zJy ns (ps.getD k (Str.empty,Str.empty,0,0,0))) (λk p h=>by rw[wG4,h];rfl));rw[wHo] at this;rw[← this,wGX,wGX]
   have eg:=gk (List V) (zJy ns) (λk=>zJy ns (ps.getD k (Str.empty,Str.empty,0,0,0))) (λk p h=>by rw[wG4,h];rfl);rw[wHo] at eg;rw[← eg,wG6] at e2;rw[wG6] at e1;obtain⟨k,hk,rfl⟩:=wIk e1;rw[hk] at e2;cases e2;have aZ:k < ps.length:=bk k (wHA hk);have iP:wq[k]?=some (wq.getD k 0):=by rw[wG4,wG0 (show k < wq.length by omega)];rfl
   have ff:ps[k]?=some (ps.getD k (Str.empty,Str.empty,0,0,0)):=by rw[wG4,wG0 aZ];rfl
   exact s5 _ _ (s4 _ _ (w3 k _ _ iP (by rw[wG6,ff];rfl)))
  refine⟨zA8,λp dJ=>?_⟩;have s6:=zC dJ (.tup [V.int sr.f,V.ref m]);obtain⟨q4,a1,a2,a3⟩:=(L4.same s5).same s6;have TW6:=TW.same s6;have lq4:q4.length<=900:=by rw[a2,wHk];omega
  refine⟨_,a1,by rw[wGX];exact zAm ∅,_,_,_,rfl,zY ((s4.trans s5).trans s6) hl _,?_⟩;have s7:zFs l (upd H5 p (.tup [V.int sr.f,V.ref m])) (upd (upd H5 p (.tup [V.int sr.f,V.ref m])) l (.lst ((q4.map λx=>V.ref x.1)++[V.ref p]))):=zFs.upd;have tn:∀{a:Addr} {ys:List V},upd H5 p (.tup [V.int sr.f,V.ref m]) a=some (.tup ys)->a≠l:=λe=>zBG e a1 (by intro z;cases z);have ln:∀{w:Addr} {yss:List (List V)},zAe (upd H5 p (.tup [V.int sr.f,V.ref m])) w yss->w≠l->zAe (upd (upd H5 p (.tup [V.int sr.f,V.ref m])) l (.lst ((q4.map λx=>V.ref x.1)++[V.ref p]))) w yss:=λT n=>T.keep s7 n ⟨_,a1⟩;have ml:m≠l:=λz=>by obtain⟨_,e,_⟩:=L4;rw[z,e] at hm;cases hm
  have et:ds.take (i+1)=ds.take i++[d]:=by rw[wHC,hd];rfl
  refine⟨q4++[(p,m)],by rw[zB,wG9];rfl,by rw[et,wG7,wG7,a2];rfl,λi' a w d' e1 e2=>?_⟩;rw[et] at e2;by_cases c:i' < q4.length
  ·rw[wHl c] at e1;rw[wHl ∅] at e2;obtain⟨b1,b2,b3⟩:=a3 i' a w d' e1 e2;exact⟨s7 _ _ (tn b1) b1,ln b2 b3,b3⟩
  rw[wHj ∅] at e1;rw[wHj ∅] at e2;have z:i'-q4.length=0:=by have:=(wIi e1).1;rw[wHM] at this;omega
  have z2:i'-(ds.take i).length=0:=by omega
  rw[z] at e1;rw[z2] at e2;cases e1;cases e2;refine⟨s7 _ _ (tn zB) ?_,ln TW6 ml,ml⟩;rw[zB,t1]
 rintro σ' H' ⟨v1,v2,v3,rfl,s4,L4⟩;rw[zFW,Tl.len,wHo] at L4;exact q l H' ds ((s1.trans cA).free hl) ((s1.trans cA).trans s4) D dl L4
def zFc (i:Int):(if i < 0 then -i else i)=(i.natAbs:Int):=by omega
inductive sp_greatest_divisor (K:W.Frag) (vs:List V) (H:Hp) (Q:VK) (E:XK):Prop
 | mk (a b:Nat):vs=[.int a,.int b]->(Q (.int (Nat.gcd a b:Nat)) H)->sp_greatest_divisor K vs H Q E
def zBF (T:Txt P K mg t):FnOk P w K mg base CX0 40 t.wAs t.wAt ["one","two"] (sp_greatest_divisor K):=by
 refine T.wAv.ok zAO ⟨⟩ ();obtain⟨a,b,rfl,q⟩:=h;refine⟨_,(zD (zFY PassesOwn.never (zAc zDH (pv 1) zG (zAj _)) (zD (zAE 2 zAO.nd (zW zAt (pv 0) (pv 1)))
  (zD (zAE 0 zAO.nd (pv 1))
  (zH (zAE 1 zAO.nd (pv 2))))))
  (zH (zX (pv 0)))),?_⟩
 refine⟨λm σ H1=>∃(n k:Nat) (r:Option V),m=k/\H1=H/\σ=[some (.int (n:Int)),some (.int (k:Int)),r]/\Nat.gcd n k=Nat.gcd a b,⟨b,a,b,none,rfl,rfl,rfl,rfl⟩,?_⟩;rintro m σ H1 ⟨n,k,r,rfl,rfl,rfl,e⟩;refine⟨_,rfl,rfl,_,rfl,?_⟩;refine zCw (λc=>?_) (λc=>?_)
 ·have k0:m≠0:=λz=>by subst z;revert c;decide
  refine⟨λσ' H'=>H'=H1/\σ'=[some (.int (m:Int)),some (.int ((n%m:Nat):Int)),some (.int ((n%m:Nat):Int))],?_,?_⟩
  ·rintro σ' H' ⟨rfl,rfl⟩;exact⟨n%m,Nat.mod_lt _ (Nat.pos_of_ne_zero k0),m,n%m,_,rfl,rfl,rfl,by rw[← e,Nat.gcd_comm n m,Nat.gcd_rec m n,Nat.gcd_comm (n%m) m]⟩
  refine⟨_,rfl,_,rfl,_,_,rfl,rfl,(by show (0:Int) < _;omega),_,rfl,_,rfl,rfl,?_⟩;rw[Int.natCast_emod];rfl
 have k0:m=0:=by
  by_cases z:m=0
  ·exact z
  exact absurd (by simp[z]) c
 subst k0;rw[Nat.gcd_zero_right] at e;rw[← e] at q;exact⟨_,rfl,q⟩
structure Low (t b x y:Int):Prop where
 pos:0 < y
 one:Nat.gcd x.natAbs y.natAbs=1
 eq:x*b=t*y
 tb:x.natAbs<=t.natAbs
 bb:y.natAbs<=b.natAbs
inductive sp_lowest (K:W.Frag) (vs:List V) (H:Hp) (Q:VK) (E:XK):Prop
 | mk (t b:Int):vs=[.int t,.int b]->(b≠0/\∀(p:Addr) (x y:Int),H p=none->Low t b x y->Q (.ref p) (upd H p (.tup [.int x,.int y])))->sp_lowest K vs H Q E
def zKN {t b:Int} (h:0 < b):Low t b (t.fdiv (gI t b)) (b.fdiv (gI t b)):=by have g0:=zDY (t:=t) (b:=b) ∅;rw[Int.fdiv_eq_ediv_of_nonneg _ ∅,Int.fdiv_eq_ediv_of_nonneg _ ∅];refine⟨zHi h,zLe ∅,?_,zLf ∅ (wG5 _),zLg ∅ (wG5 _)⟩;have e1:=zII (t:=t) (b:=b);have e2:=zHj (t:=t) (b:=b);generalize t / gI t b=x at *;generalize b / gI t b=y at *;generalize gI t b=g at *;rw[← e1,← e2,Int.mul_left_comm,Int.mul_assoc]
theorem zEV {g q:Int} (h:0 < g):(g*q).fdiv (-g)=-q:=by
 have e:g*q=(-g)*(-q):=by rw[Int.neg_mul_neg]
 rw[e];exact Int.mul_fdiv_cancel_left _ ∅
def zO0 {t b:Int} (h:b < 0):Low t b (t.fdiv (-gI t b)) (b.fdiv (-gI t b)):=by
 have g0:=zDY (t:=t) (b:=b) ∅;have e1:=zII (t:=t) (b:=b);have e2:=zHj (t:=t) (b:=b);have d1:t.fdiv (-gI t b)=-(t / gI t b):=by have:=zEV (q:=t / gI t b) g0;rw[e1] at this;exact this
 have d2:b.fdiv (-gI t b)=-(b / gI t b):=by have:=zEV (q:=b / gI t b) g0;rw[e2] at this;exact this
 have o:=zLe (t:=t) (b:=b) ∅;have b1:=zLf (t:=t) (b:=b) ∅ (wG5 t.natAbs);have b2:=zLg (t:=t) (b:=b) ∅ (wG5 b.natAbs);rw[d1,d2];generalize t / gI t b=x at *;generalize b / gI t b=y at *;generalize gI t b=g at *;refine⟨?_,by rw[Int.natAbs_neg,Int.natAbs_neg];exact o,?_,by rw[Int.natAbs_neg];exact b1,by rw[Int.natAbs_neg];exact b2⟩
 ·by_cases z:y < 0
  ·omega
  have:0<=g*y:=Int.mul_nonneg ∅ ∅;omega
 rw[← e1,← e2,Int.neg_mul,Int.mul_neg,Int.mul_left_comm,Int.mul_assoc]
theorem zDq (T:Txt P K mg t):FnOk P w K mg base CX0 41 t.wCL t.wCM ["top","bottom"] (sp_lowest K):=by
 refine T.wBf.ok zEy ⟨⟩ ();obtain⟨a,b,rfl,hb,q⟩:=h;refine⟨_,(zD (zAE 2 zEy.nd (cal (zBF T) hr T.wAO T.wAv T.wAN (zN (zS zDv rfl T.wDk PyProof.Rows.boot_abs (zI (pv 0) zE zA)) (zS zDv rfl T.wDk PyProof.Rows.boot_abs (zI (pv 1) zE zA)) zE zR zR)))
  (zD (zA4 (zAc zGP (pv 1) zG (zAj _)) (zH (zAE 2 zEy.nd (zPF zMX (pv 2)))) zAd)
  (zH (zX (zAR (zN (zW (zDp hr ⋯ T.tree ⟨_,_,rfl,rfl,rfl,rfl,rfl⟩) (pv 0) (pv 2)) (zW (zDp hr ⋯ T.tree ⟨_,_,rfl,rfl,rfl,rfl,rfl⟩) (pv 1) (pv 2)) zE zT zT)))))),?_⟩
 have g0:0 < gI a b:=zDY hb;refine⟨_,rfl,_,rfl,_,rfl,_,rfl,a.natAbs,b.natAbs,?_,?_⟩
 ·show [V.int (if a < 0 then -a else a),V.int (if b < 0 then -b else b)]=_;rw[zFc,zFc]
 refine⟨_,rfl,_,_,rfl,rfl,_,rfl,?_⟩;refine zCw (λc=>?_) (λc=>?_)
 ·have c':b < 0:=wHm c;exact⟨_,rfl,_,rfl,_,rfl,_,rfl,_,_,rfl,rfl,(by show -gI a b≠0;omega),_,rfl,_,rfl,_,_,rfl,rfl,(by show -gI a b≠0;omega),zA8,λp hp=>q p _ _ hp (zO0 c')⟩
 have c':¬b < 0:=wHz (wIl c);exact⟨_,rfl,_,rfl,_,_,rfl,rfl,(by show gI a b≠0;omega),_,rfl,_,rfl,_,_,rfl,rfl,(by show gI a b≠0;omega),zA8,λp hp=>q p _ _ hp (zKN ∅)⟩
structure RwAt (H0 H:Hp) (r:Addr) (q:Nat->Addr) (n i:Nat) (A:Mx):Prop where
 top:H r=some (.lst (tab i λk=>V.ref (q k)))
 row:∀k,k < i->H (q k)=some (.lst (tab (n+1) λj=>V.int (A k j)))
 new:∀k,k < i->H0 (q k)=none
 ne:∀k,k < i->q k≠r
 inj:∀k k',k < i->k' < i->q k=q k'->k=k'
def RwAt.congr {H0 H:Hp} {r:Addr} {q:Nat->Addr} {n i:Nat} {A B:Mx} (h:RwAt H0 H r q n i A) (e:∀a b,a < i->b<=n->A a b=B a b):RwAt H0 H r q n i B:=
 ⟨h.top,λk hk=>by rw[h.row k hk];exact congrArg (λl=>some (HO.lst l)) (zAz λj hj=>vi (e k j hk ∅)),h.new,h.ne,h.inj⟩
def RwAt.set {H0 H:Hp} {r:Addr} {q:Nat->Addr} {n i:Nat} {A:Mx} (h:RwAt H0 H r q n i A) {k j:Nat} {v:Int} (hk:k < i):RwAt H0 (upd H (q k) (.lst ((tab (n+1) λj=>V.int (A k j)).set j (.int v)))) r q n i λa b=>if a=k/\b=j then v else A a b:=by
 refine⟨by rw[zO (Ne.symm (h.ne k hk))];exact h.top,λa ha=>?_,h.new,h.ne,h.inj⟩;by_cases e:a=k
 ·subst e;rw[zB,zD3];refine congrArg (λl=>some (HO.lst l)) (zAz λb _=>?_);by_cases e2:b=j
  ·rw[wG1 e2,wG1 ⟨rfl,e2⟩]
  rw[wGZ e2,wGZ λz=>e2 z.2]
 rw[zO λz=>e (h.inj a k ha hk z),h.row a ha];exact congrArg (λl=>some (HO.lst l)) (zAz λb _=>by rw[wGZ λz=>e z.1])
inductive sp_loss_rows (K:W.Frag) (vs:List V) (H:Hp) (Q:VK) (E:XK):Prop
 | mk (n s0:Nat) (r:Addr) (rs:List V) (ws:Wys):vs=[.int (n:Nat),.ref r,.int (s0:Nat)]->(WyAt K H r rs ws/\WyOk n ws/\s0 < n/\n<=15/\
 ∀(d:Addr) (q:Nat->Addr) (H':Hp),H d=none->zAf H H'->MxAt H' d q n (M0 n ws s0)->Q (.ref d) H')->sp_loss_rows K vs H Q E
def zGT (T:Txt P K mg t):FnOk P w K mg base CX0 40 t.wBm t.wBn ["count","ways","start"] (sp_loss_rows K):=by
 refine T.wCD.ok zBh ⟨⟩ ();obtain⟨n,s0,r,rs,ws,rfl,wa,wo,sn,aP,qq⟩:=h;refine⟨_,(zD (zDF ["place","count"] [none,some 0] (by kernel_rfl) rfl (zAh rfl T.wAe (zI (pv 0) zE zA)) (λ_ _ _ _ _=>(zK (i:=0) ndB rfl (Or.inl rfl))) (λ_ _ _ _ _=>zAs) (λ_ _ _ _ _=>(zW zGM (zAk (zI zG zE zJ)) (zW zBj (pv 1) zG))) (zK (i:=3) zBh.nd rfl (Or.inl rfl)))
  (zD (zAp PassesOwn.never rfl (zAh rfl T.wAe (zI (pv 0) zE zA)) (zK (i:=4) zBh.nd rfl (Or.inl rfl)) (zH (zBB zG (zBZ (zAo K (pv 3) (pv 4)) (pv 4) zAG))))
  (zD (zAp PassesOwn.never rfl (zAb K (pv 1)) (zAw K (n:=3) rfl (zQ (zK (i:=5) zBh.nd rfl (Or.inl rfl)) (zQ (zK (i:=6) zBh.nd rfl (Or.inl rfl)) (zQ (zK (i:=7) zBh.nd rfl (Or.inl rfl)) zAv)))) (zH (zHS (zAo K (pv 3) (pv 6)) (pv 5) zGi (pv 7) zKY zAG)))
  (zD (zBB zG (zBZ (zAo K (pv 3) (pv 2)) (pv 0) zAG))
  (zH (zX (pv 3))))))),?_⟩
 refine⟨_,rfl,(n:Nat),rfl,by omega,by omega,λc hc=>?_⟩;refine zAT (n:=((n:Nat):Int).toNat) (λi σ' H'=>∃(v:Option V) (q:Nat->Addr),σ'=[v,some (.int (n:Nat))]/\zAf H H'/\RwAt H H' c q n i λ_ _=>0) ⟨none,λ_=>c,rfl,zC hc _,⟨zB,λk hk=>absurd hk (wHd _),λk hk=>absurd hk (wHd _),λk hk=>absurd hk (wHd _),λk _ hk=>absurd hk (wHd _)⟩⟩ ?_ ?_
 ·rintro i σ' H' hi ⟨v,q,rfl,sm,rw⟩;refine⟨szl,λl1 h1=>⟨_,rfl,_,_,rfl,rfl,l1,_,_,rfl,rfl,zB,(by show -(2 ^ 63)<=(n:Int)+1;omega),(by show (n:Int)+1 < 2 ^ 63;omega),(by show 1*((n:Int)+1).toNat<=sizeLine;exact small ∅),λp hp=>?_⟩⟩;have s1:=(zC h1 (.lst [V.int 0])).trans (zC hp (.lst (List.replicate ((n:Int)+1).toNat [V.int 0]).flatten));have hp0:H' p=none:=(zC h1 _).free hp;have ec:=s1 _ _ rw.top;have aS:p≠c:=Ne.symm (zP rw.top hp0);refine⟨_,ec,by rw[zAa];exact zAB ∅,some (.int (0+(i:Int))),λk=>if k=i then p else q k,rfl,zY (sm.trans s1) hc _,?_,λk hk=>?_,λk hk=>?_,λk hk=>?_,λk k' hk bE e=>?_⟩
  ·rw[zB];refine congrArg (λl=>some (HO.lst l)) ?_;rw[← zA5]
   congr 1
   ·exact zAz λk hk=>by show V.ref (q k)=V.ref (if k=i then p else q k);rw[wGZ ∅]
   show [V.ref p]=[V.ref (if i=i then p else q i)];rw[wG1 rfl]
  ·by_cases e:k=i
   ·rw[wG1 e,zO aS,zB,zOS,show ((n:Int)+1).toNat=n+1 by omega,zEs]
   rw[wGZ e,zO (rw.ne k ∅)];exact s1 _ _ (rw.row k ∅)
  ·by_cases e:k=i
   ·rw[wG1 e];exact sm.free hp0
   rw[wGZ e];exact rw.new k ∅
  ·by_cases e:k=i
   ·rw[wG1 e];exact aS
   rw[wGZ e];exact rw.ne k ∅
  by_cases e1:k=i
  ·by_cases e2:k'=i
   ·omega
   rw[wG1 e1,wGZ e2] at e;exact absurd (e ▸ hp0) (by rw[rw.row k' ∅];intro z;cases z)
  by_cases e2:k'=i
  ·rw[wGZ e1,wG1 e2] at e;exact absurd (e ▸ hp0) (by rw[rw.row k ∅];intro z;cases z)
  rw[wGZ e1,wGZ e2] at e;exact rw.inj k k' ∅ ∅ e
 rintro σ' H1 ⟨v,q,rfl,s1,hX⟩;rw[wHn] at hX;refine⟨_,rfl,(n:Nat),rfl,by omega,by omega,zA1 (n:=((n:Nat):Int).toNat) (λi σ' H'=>∃u0 u1 u2 u3,σ'=[some (.int (n:Nat)),some (.ref r),some (.int (s0:Nat)),some (.ref c),u0,u1,u2,u3]/\zAf H H'/\RwAt H H' c q n n λa b=>if a=b/\a < i then 1000 else 0)
  ⟨_,_,_,_,rfl,s1,hX.congr λa b _ _=>by rw[wGZ ∅]⟩ ?_ ?_⟩
 ·rintro i σ' H' hi ⟨u0,u1,u2,u3,rfl,sm,rw⟩;have aC:i < n:=by omega
  have iz:(0+(i:Int))=(i:Int):=by omega
  have fO:atI (tab n λk=>V.ref (q k)) (0+(i:Int))=some (V.ref (q i)):=by rw[iz];exact zAl aC
  have ix1:ixN (tab (n+1) λj=>V.int (if i=j/\i < i then 1000 else 0)).length (0+(i:Int))=some i:=by rw[iz];exact zBt ∅
  refine⟨_,rfl,_,rfl,c,_,_,_,rfl,rfl,SqL.of rw.top,fO,_,rfl,q i,_,_,_,rfl,rfl,rw.row i aC,ix1,?_⟩;refine⟨_,_,_,_,rfl,zY sm (rw.new i aC) _,(rw.set aC).congr λa b _ _=>?_⟩;by_cases e:a=i/\b=i
  ·rw[wG1 e,wG1 ∅]
  rw[wGZ e];by_cases e2:a=b/\a < i
  ·rw[wG1 e2,wG1 ∅]
  rw[wGZ e2,wGZ ∅]
 rintro σ' H2 ⟨u0,u1,u2,u3,rfl,s2,eL⟩;rw[wHn] at eL;refine⟨_,rfl,r,rfl,⟨_,s2.seq wa.sq⟩,zAy (K:=K) (a:=r) (xs:=rs) (λi σ' H'=>∃u1 u2 u3,σ'=[some (.int (n:Nat)),some (.ref r),some (.int (s0:Nat)),some (.ref c),u0,u1,u2,u3]/\zAf H H'/\RwAt H H' c q n n λa b=>(if a=b then 1000 else 0)-Sg (λk=>if wt ws k=a/\wg ws k=b then wp ws k else 0) i)
  ⟨_,_,_,rfl,s2,eL.congr λa b ha _=>by
   show _=_-(0:Int);by_cases e:a=b
   ·rw[wG1 ⟨e,ha⟩,wG1 e];rfl
   rw[wGZ λz=>e z.1,wGZ e];rfl⟩ (λi σ' H' _ ⟨_,_,_,_,sm,_⟩=>sm.seq wa.sq) ?_ ?_⟩
 ·rintro i x σ' H' hx ⟨u1,u2,u3,rfl,sm,rw⟩;have hi:i < ws.length:=by rw[← wa.len];exact (wIi hx).1
  obtain⟨q',e1,e2⟩:=wa.at_ i hi;have ex:x=.ref q':=by rw[e1] at hx;exact (wG8 hx).symm
  subst ex;have ht:=wo.t i hi;have hg:=wo.g i hi;refine⟨q',_,rfl,SqT.of (sm _ _ e2),rfl,_,_,rfl,_,_,rfl,_,_,rfl,rfl,?_⟩;refine⟨_,rfl,_,rfl,c,_,_,_,rfl,rfl,SqL.of rw.top,zAl ht,_,rfl,q (wt ws i),_,_,_,rfl,rfl,SqL.of (rw.row _ ht),zAl ∅,_,rfl,_,_,rfl,rfl,q (wt ws i),_,_,_,rfl,rfl,rw.row _ ht,zBt ∅,?_⟩;refine⟨_,_,_,rfl,zY sm (rw.new _ ht) _,(rw.set ht).congr λa b _ _=>?_⟩;show _=_-(Sg _ i+(if wt ws i=a/\wg ws i=b then wp ws i else 0));by_cases e:a=wt ws i/\b=wg ws i
  ·have h1:(if wt ws i=a/\wg ws i=b then wp ws i else 0)=wp ws i:=wG1 ⟨e.1.symm,e.2.symm⟩;rw[h1,wG1 e,e.1,e.2];show (if wt ws i=wg ws i then (1000:Int) else 0)-Sg _ i-wp ws i=_;omega
  have h1:(if wt ws i=a/\wg ws i=b then wp ws i else 0)=0:=wGZ λz=>e ⟨z.1.symm,z.2.symm⟩;rw[h1,wGZ e];omega
 rintro σ' H3 ⟨u1,u2,u3,rfl,s3,rw3⟩;rw[wa.len] at rw3;refine⟨_,rfl,_,rfl,c,_,_,_,rfl,rfl,SqL.of rw3.top,zAl sn,_,rfl,q s0,_,_,_,rfl,rfl,rw3.row s0 sn,zBt ∅,?_⟩;have rw4:=(rw3.set (j:=n) (v:=1000) sn).congr (B:=M0 n ws s0) λa b ha hb=>by
  unfold M0;by_cases e:b=n
  ·rw[wG1 e];by_cases e2:a=s0
   ·rw[wG1 ⟨e2,e⟩,wG1 e2]
   rw[wGZ λz=>e2 z.1,wGZ e2,wGZ ∅,zDc λk hk=>wGZ λz=>by have:=wo.g k hk;omega];rfl
  rw[wGZ λz=>e z.2,wGZ e]
 exact⟨_,rfl,qq c q _ hc (zY s3 (rw3.new s0 sn) _) ⟨rw4.top,rw4.row⟩⟩
inductive sp_cut_down (K:W.Frag) (vs:List V) (H:Hp) (Q:VK) (E:XK):Prop
 | mk (r:Addr) (m j0:Nat) (f:Nat->Int):vs=[.ref r]->(SqL K H r (tab m λj=>V.int (f j))/\j0 < m/\f j0≠0/\m<=900/\
 ∀(d:Addr) (c:Int) (g:Nat->Int) (H':Hp),H d=none->zAf H H'->0 < c->(∀j,j < m->c*g j=f j)->H' d=some (.lst (tab m λj=>V.int (g j)))->Q (.ref d) H')->sp_cut_down K vs H Q E
def zId (T:Txt P K mg t):FnOk P w K mg base CX0 41 t.wBI t.wBJ ["row"] (sp_cut_down K):=by
 refine T.wDb.ok zCj ⟨⟩ ();obtain⟨r,m,j0,f,rfl,hS,j0m,f0,m9,q⟩:=h;refine⟨_,(zD (zBa (i:=1) zCj.nd rfl (Or.inr rfl) zG)
  (zD (zAp PassesOwn.never rfl (zAb K (pv 0)) (zK (i:=2) zCj.nd rfl (Or.inl rfl)) (zH (zBa (i:=1) zCj.nd rfl (Or.inr rfl) (cal (zBF T) hr T.wAO T.wAv T.wAN (zN (zS zDv rfl T.wDk PyProof.Rows.boot_abs (zI (pv 2) zE zA)) (pv 1) zE zR zA)))))
  (zH (zX (zAq ["number","divisor"] [none,some 1] (by kernel_rfl) rfl (zAb K (pv 0)) (λ_ _ _ _ _=>(zK (i:=0) ndB rfl (Or.inl rfl))) (λ_ _ _ _ _=>zAs) (λ_ _ _ _ _=>(zW (zDp hr ⋯ T.tree ⟨_,_,rfl,rfl,rfl,rfl,rfl⟩) (pv 0) (pv 1)))))))),?_⟩
 refine⟨_,rfl,r,rfl,⟨_,hS⟩,zAy (K:=K) (a:=r) (xs:=tab m λj=>V.int (f j)) (λi σ' H'=>∃u,σ'=[some (.ref r),some (.int (gT f i:Nat)),u]/\H'=H)
  ⟨_,rfl,rfl⟩ (λi σ' H' _ ⟨_,_,e⟩=>by rw[e];exact hS) ?_ ?_⟩
 ·rintro i x σ' H' hx ⟨u,rfl,rfl⟩;obtain⟨hi,rfl⟩:=zAN hx;refine⟨_,rfl,_,rfl,_,rfl,(f i).natAbs,gT f i,?_,?_⟩
  ·show [V.int (if f i < 0 then -f i else f i),V.int (gT f i:Nat)]=_;rw[zFc]
  exact⟨_,rfl,rfl⟩
 rintro σ' H1 ⟨u,rfl,rfl⟩;rw[zAa];have gp:0 < gT f m:=zNt j0m f0;refine⟨_,rfl,r,rfl,⟨_,hS⟩,λc hc=>?_⟩;refine zAr (K:=K) (ys:=tab m λj=>V.int (f j)) (λi σ' H'=>∃v,σ'=[v,some (.int (gT f m:Nat))]/\H'=upd H1 c (.lst (tab i λj=>V.int ((f j).fdiv (gT f m:Nat))))) ⟨none,rfl,rfl⟩ (λj σ2 H2 _ ⟨_,_,e⟩=>by rw[e];exact (zC hc _).seq hS) ?_ ?_
 ·rintro i x σ' H' hx ⟨v,rfl,rfl⟩;obtain⟨hi,rfl⟩:=zAN hx;refine⟨_,rfl,_,rfl,_,_,rfl,rfl,(by show ((gT f m:Nat):Int)≠0;omega),_,zB,by rw[zAa];exact zAB ∅,_,rfl,?_⟩;rw[zBx,← zA5]
 rintro σ' H2 ⟨v,rfl,rfl⟩;rw[zAa];exact q c (gT f m:Nat) _ _ hc (zC hc _) ∅ (λj hj=>zMG ∅ (zNu hj)) zB
inductive sp_strike_out (K:W.Frag) (vs:List V) (H:Hp) (Q:VK) (E:XK):Prop
 | mk (r:Addr) (q:Nat->Addr) (n p b:Nat) (A:Mx):vs=[.ref r,.int (p:Nat)]->(MxAt H r q n A/\Good n p A/\p < n/\n<=15/\b<=1000000/\(∀i j,i < n->j<=n->Bt b (A i j))/\
 ∀(d:Addr) (q':Nat->Addr) (B:Mx) (c:Nat->Int) (H':Hp),H d=none->zAf H H'->MxAt H' d q' n B->Stp n p A B c->(∀i j,i < n->j<=n->Bt (2*b+1) (B i j))->Q (.ref d) H')->sp_strike_out K vs H Q E
def zGc (T:Txt P K mg t):FnOk P w K mg base CX0 42 t.wA7 t.wA8 ["rows","place"] (sp_strike_out K):=by
 refine T.wCk.ok zBo ⟨⟩ ();obtain⟨r,q,n,p,b,A,rfl,mx,gd,pn,aP,b6,bt,qq⟩:=h;refine⟨_,(zD (zBa (i:=2) zBo.nd rfl (Or.inr rfl) (zAo K (pv 0) (pv 1)))
  (zD (zAE 3 zBo.nd (zAk zE))
  (zD (zAp PassesOwn.never rfl (zKv rfl T.wCK (zI (pv 0) zE zA)) (zAw K (n:=2) rfl (zQ (zK (i:=4) zBo.nd rfl (Or.inl rfl)) (zQ (zK (i:=5) zBo.nd rfl (Or.inr rfl)) zAv))) (zH (zA4 (PW.pt (zEA (zAc zCA (pv 4) (pv 1) (zAj _)) (zCO (zAc zCA (zAo K (pv 5) (pv 1)) zG (zAj _))))) (zH (zAn (zBv K wHv wHG wHJ zAx (pv 3) (zI (pv 5) zE zA)))) (zH (zAn (zBv K wHv wHG wHJ zAx (pv 3) (zI (cal (zId T) hr T.wFu T.wDb T.wFt (zI (zAq ["one","two","own","place","row"] [none,none,some 2,some 1,some 5] (by kernel_rfl) rfl (zI2 rfl T.wD5 (zN (pv 5) (pv 2) zE zA zA)) (λ_ _ _ _ _=>(zAw K (n:=2) rfl (zQ (zK (i:=0) ndB rfl (Or.inl rfl)) (zQ (zK (i:=1) ndB rfl (Or.inl rfl)) zAv)))) (λ_ _ _ _ _=>zAs) (λ_ _ _ _ _=>(zW zDT (zW zAV (zAo K (pv 2) (pv 3)) (pv 0)) (zW zAV (zAo K (pv 4) (pv 3)) (pv 1))))) zE zA2)) zE zR)))))))
  (zH (zX (pv 3)))))),?_⟩
 have pv:=gd.piv pn;have raw:Good n (p+1) λi j=>if i=p then A p j else A p p*A i j-A i p*A p j:=gd.step pn (c:=λ_=>1) ⟨λj _=>wG1 rfl,λ_ _ _=>by show (0:Int) < 1;decide,λi j _ e _=>by show 1*(if i=p then _ else _)=_;rw[wGZ e,Int.one_mul]⟩;refine⟨_,rfl,_,rfl,r,_,_,_,rfl,rfl,SqL.of mx.top,zAl pn,?_⟩;refine⟨szl,λtd kM=>?_⟩;have s0:=zC kM (.lst []);refine⟨_,rfl,r,_,rfl,SqL.of (s0 _ _ mx.top),zMF (K:=K) (ys:=tab n λi=>V.ref (q i)) (λi σ' H'=>∃(u v:Option V) (q':Nat->Addr) (B:Mx) (c:Nat->Int),σ'=[some (.ref r),some (.int (p:Nat)),some (.ref (q p)),some (.ref td),u,v]/\zAf H H'/\H' td=some (.lst (tab i λk=>V.ref (q' k)))/\
   ∀k,k < i->H' (q' k)=some (.lst (tab (n+1) λj=>V.int (B k j)))/\q' k≠td/\(k=p->∀j,j<=n->B k j=A k j)/\(k≠p->0 < c k/\∀j,j<=n->c k*B k j=A p p*A k j-A k p*A p j))
  ⟨none,none,λ_=>td,λ_ _=>0,λ_=>0,rfl,s0,zB,λk hk=>absurd hk (wHd _)⟩ (λi σ' H' _ ⟨_,_,_,_,_,_,sm,_⟩=>SqL.of (sm _ _ mx.top)) ?_ ?_⟩
 ·rintro i x σ' H' T hx ⟨u,v,q',B,c,rfl,sm,et,hk⟩ hT;obtain⟨hi,rfl⟩:=zAN hx;have sT:=zC hT (.tup [.int (i:Int),.ref (q i)]);have cG:=sm.trans sT;have pF:=sT _ _ et;have row:=cG _ _ (mx.row i hi);have mZ:=cG _ _ (mx.row p pn);have nq:q i≠td:=zP (mx.row i hi) kM;refine⟨T,_,rfl,SqT.of zB,rfl,_,_,rfl,_,_,rfl,rfl,?_⟩;have fin:∀(H2:Hp) (a:Addr) (g:Nat->Int) (c':Int),zAf (upd H' T (.tup [.int (i:Int),.ref (q i)])) H2->H2 a=some (.lst (tab (n+1) λj=>V.int (g j)))->a≠td->(i=p->∀j,j<=n->g j=A i j)->(i≠p->0 < c'/\∀j,j<=n->c'*g j=A p p*A i j-A i p*A p j)->
    H2 td=some (.lst (tab i λk=>V.ref (q' k)))/\(tab i λk=>V.ref (q' k)).length < sizeLine/\
    ∃(u v:Option V) (q2:Nat->Addr) (B:Mx) (c:Nat->Int),[some (.ref r),some (.int (p:Nat)),some (.ref (q p)),some (.ref td),some (.int (i:Int)),some (.ref (q i))]=[some (.ref r),some (.int (p:Nat)),some (.ref (q p)),some (.ref td),u,v]/\zAf H (upd H2 td (.lst ((tab i λk=>V.ref (q' k))++[.ref a])))/\upd H2 td (.lst ((tab i λk=>V.ref (q' k))++[.ref a])) td=some (.lst (tab (i+1) λk=>V.ref (q2 k)))/\
     ∀k,k < i+1->upd H2 td (.lst ((tab i λk=>V.ref (q' k))++[.ref a])) (q2 k)=some (.lst (tab (n+1) λj=>V.int (B k j)))/\q2 k≠td/\(k=p->∀j,j<=n->B k j=A k j)/\(k≠p->0 < c k/\∀j,j<=n->c k*B k j=A p p*A k j-A k p*A p j):=by
   intro H2 a g c' sA ea na h1 h2;refine⟨sA _ _ pF,by rw[zAa];exact zAB ∅,_,_,λk=>if k=i then a else q' k,λk=>if k=i then g else B k,λk=>if k=i then c' else c k,rfl,zY (cG.trans sA) kM _,?_,λk aZ=>?_⟩
   ·rw[zB];refine congrArg (λl=>some (HO.lst l)) ?_;rw[← zA5]
    congr 1
    ·exact zAz λk hk=>by show V.ref (q' k)=V.ref (if k=i then a else q' k);rw[wGZ ∅]
    show [V.ref a]=[V.ref (if i=i then a else q' i)];rw[wG1 rfl]
   by_cases e:k=i
   ·subst e;simp only[↓reduceIte];exact⟨by rw[zO na];exact ea,na,h1,h2⟩
   simp only[wGZ e];obtain⟨a1,a2,a3,a4⟩:=hk k ∅;exact⟨by rw[zO a2];exact sA _ _ (sT _ _ a1),a2,a3,a4⟩
  have keep:(i=p∨A i p=0)->_:=λz=>fin (upd H' T (.tup [.int (i:Int),.ref (q i)])) (q i) (A i) (A p p) (λ_ _ x=>x) row nq (λ_ _ _=>rfl) λne=>⟨pv,λj _=>by
   rcases z with z | z
   ·exact absurd z ne
   rw[z];simp⟩
  refine⟨_,rfl,_,rfl,rfl,_,rfl,zCw (λc1=>?_) (λc1=>?_)⟩
  ·have c2:i=p:=by have:=V.int.inj (wHm c1);omega
   obtain⟨k1,k2,k3⟩:=keep (.inl c2);refine zGx ?_;exact⟨_,rfl,.inl ⟨rfl,_,SqL.of k1⟩,_,rfl,td,_,_,rfl,rfl,k1,k2,k3⟩
  have c2:i≠p:=λz=>wHz (wIl c1) (by rw[z]);refine⟨_,rfl,_,rfl,q i,_,_,_,rfl,rfl,SqL.of row,zAl ∅,rfl,_,rfl,zCw (λc3=>?_) (λc3=>?_)⟩
  ·have c4:A i p=0:=V.int.inj (wHm c3);obtain⟨k1,k2,k3⟩:=keep (.inr c4);exact⟨_,rfl,.inl ⟨rfl,_,SqL.of k1⟩,_,rfl,td,_,_,rfl,rfl,k1,k2,k3⟩
  refine⟨_,rfl,.inl ⟨rfl,_,SqL.of pF⟩,_,rfl,_,rfl,q i,q p,_,_,rfl,SqL.of row,SqL.of mZ,λe he=>?_⟩;refine zGo (K:=K) (xs:=tab (n+1) λj=>V.int (A i j)) (ys:=tab (n+1) λj=>V.int (A p j)) (by rw[zAa,zAa]) (λj σ2 H2=>∃v0 v1,σ2=[v0,v1,some (.ref (q p)),some (.int (p:Nat)),some (.ref (q i))]/\zAf (upd H' T (.tup [.int (i:Int),.ref (q i)])) H2/\H2 e=some (.lst (tab j λj=>V.int (A p p*A i j-A i p*A p j)))) ⟨none,none,rfl,zC he _,zB⟩ (λj σ2 H2 _ ⟨_,_,_,s2,_⟩=>⟨SqL.of (s2 _ _ row),SqL.of (s2 _ _ mZ)⟩) ?_ ?_
  ·rintro j x y σ2 H2 T2 hx hy ⟨v0,v1,rfl,s2,ee⟩ eI;obtain⟨hj,rfl⟩:=zAN hx;obtain⟨_,rfl⟩:=zAN hy;have s3:=s2.trans (zC eI (.tup [.int (A i j),.int (A p j)]));have ne:e≠T2:=zP ee eI;refine⟨T2,_,rfl,SqT.of zB,rfl,_,_,rfl,_,_,rfl,rfl,?_⟩;have m1:=zA6 (bt p p pn ∅) (bt i j hi ∅) ∅;have m2:=zA6 (bt i p hi ∅) (bt p j pn ∅) ∅;refine⟨_,rfl,_,rfl,q p,_,_,_,rfl,rfl,SqL.of (s3 _ _ mZ),zAl ∅,_,rfl,_,_,rfl,rfl,m1,_,rfl,_,rfl,q i,_,_,_,rfl,rfl,SqL.of (s3 _ _ row),zAl ∅,_,rfl,_,_,rfl,rfl,m2,_,_,rfl,rfl,?_⟩;refine⟨_,by rw[zO ne];exact ee,by rw[zAa];exact zAB ∅,_,_,rfl,zY s3 he _,?_⟩;rw[zB,← zA5]
  rintro σ2 H2 ⟨v0,v1,rfl,s2,ee⟩;rw[zAa] at ee;have rp:=raw.piv hi;simp only[wGZ c2] at rp;refine⟨e,n+1,i,_,rfl,SqL.of ee,by omega,by omega,by omega,λd c' g H3 hd s3 hc hg ed=>?_⟩;have sA:=s2.trans s3;obtain⟨k1,k2,k3⟩:=fin H3 d g c' sA ed (Ne.symm (zP (s2 _ _ pF) hd)) (λz=>absurd z c2) λ_=>⟨hc,λj hj=>hg j ∅⟩;exact⟨td,_,_,rfl,rfl,k1,k2,k3⟩
 rintro σ' H' ⟨u,v,q',B,c,rfl,sm,et,hk⟩;rw[zAa] at et hk;have st:Stp n p A B c:=⟨λj hj=>(hk p pn).2.2.1 rfl j hj,λi hi e=>((hk i hi).2.2.2 e).1,λi j hi e hj=>((hk i hi).2.2.2 e).2 j hj⟩;refine⟨_,rfl,qq td q' B c H' kM sm ⟨et,λi hi=>(hk i hi).1⟩ st λi j hi hj=>?_⟩;by_cases e:i=p
 ·rw[(hk i hi).2.2.1 e j hj];exact (bt i j hi hj).mono ∅
 refine Bt.div (st.pos i hi e) ?_;rw[st.eq i j hi e hj];have:=((bt p p pn ∅).mul (bt i j hi hj)).sub ((bt i p hi ∅).mul (bt p j pn hj));exact this.mono ∅
def zRr {i:Nat} (h:i<=15):1<=2 ^ i/\2 ^ i<=32768:=⟨Nat.one_le_two_pow,by have:2 ^ i<=2 ^ 15:=Nat.pow_le_pow_right ⋯ h;omega⟩
inductive sp_arrivals (K:W.Frag) (vs:List V) (H:Hp) (Q:VK) (E:XK):Prop
 | mk (n s0:Nat) (r:Addr) (rs:List V) (ws:Wys):vs=[.int (n:Nat),.ref r,.int (s0:Nat)]->(WyAt K H r rs ws/\WyOk n ws/\zL8 n ws/\s0 < n/\n<=15/\
 ∀(d:Addr) (q:Nat->Addr) (X Y:Nat->Int) (H':Hp),H d=none->zAf H H'->FrAt H' d q n X Y->FrOk n X Y->(∀i,i < n->Bt 390000 (X i)/\Bt 390000 (Y i))->(∀(x:Nat->Int) (l:Int),(∀i,i < n->x i*Y i=X i*l)↔Sol n (M0 n ws s0) x l)->Q (.ref d) H')->sp_arrivals K vs H Q E
def zIe (T:Txt P K mg t):FnOk P w K mg base CX0 43 t.wBK t.wBL ["count","ways","start"] (sp_arrivals K):=by
 refine T.wDc.ok zCk ⟨⟩ ();obtain⟨n,s0,r,rs,ws,rfl,wa,wo,op,sn,aP,qq⟩:=h;refine⟨_,(zD (zBa (i:=3) zCk.nd rfl (Or.inr rfl) (cal (zGT T) hr T.wEZ T.wCD T.wEY (zZ (pv 0) (pv 1) (pv 2) zE zA zA zA)))
  (zD (zAp PassesOwn.never rfl (zAh rfl T.wAe (zI (pv 0) zE zA)) (zK (i:=4) zCk.nd rfl (Or.inl rfl)) (zH (zBa (i:=3) zCk.nd rfl (Or.inr rfl) (cal (zGc T) hr T.wEu T.wCk T.wEt (zN (pv 3) (pv 4) zE zA zA)))))
  (zH (zX (zAq ["place","count","rows"] [none,some 0,some 3] (by kernel_rfl) rfl (zAh rfl T.wAe (zI (pv 0) zE zA)) (λ_ _ _ _ _=>(zK (i:=0) ndB rfl (Or.inl rfl))) (λ_ _ _ _ _=>zAs) (λ_ _ _ _ _=>(cal (zDq T) hr T.wBS T.wBf T.wBR (zN (zAo K (zAo K (pv 2) (pv 0)) (pv 1)) (zAo K (zAo K (pv 2) (pv 0)) (pv 0)) zE zF zF)))))))),?_⟩
 refine⟨_,rfl,_,rfl,_,rfl,n,s0,r,rs,ws,rfl,wa,wo,sn,aP,λd q H1 hd s1 mx1=>?_⟩;refine⟨_,rfl,(n:Nat),rfl,by omega,by omega,zA1 (n:=((n:Nat):Int).toNat) (λi σ' H'=>∃(d:Addr) (q:Nat->Addr) (A:Mx) (u:Option V),σ'=[some (.int (n:Nat)),some (.ref r),some (.int (s0:Nat)),some (.ref d),u]/\zAf H H'/\MxAt H' d q n A/\Good n i A/\(∀a b,a < n->b<=n->Bt (11*2 ^ i-1) (A a b))/\∀x l,Sol n A x l↔Sol n (M0 n ws s0) x l)
  ⟨d,q,M0 n ws s0,none,rfl,s1,mx1,zOQ wo op,λa b _ _=>Bt.small (zRk wo) ⋯,λx l=>Iff.rfl⟩ ?_ ?_⟩
 ·rintro i σ' H' hi ⟨d,q,A,u,rfl,sm,mx,gd,bt,so⟩;have aC:i < n:=by omega
  have p1:=zRr (i:=i) ∅;have p2:2 ^ (i+1)=2 ^ i*2:=Nat.pow_succ ..;refine⟨_,rfl,_,rfl,d,q,n,i,11*2 ^ i-1,A,by rw[show (0+(i:Int))=(i:Int) by omega];rfl,mx,gd,aC,aP,by omega,bt,λd' q' B c H2 bY s2 mx' st bt'=>?_⟩;exact⟨d',q',B,_,rfl,sm.trans s2,mx',gd.step aC st,λa b ha hb=>(bt' a b ha hb).mono ∅,λx l=>⟨λz=>(so x l).mp (st.back (gd.piv aC) aC z),λz=>st.forth aC ((so x l).mpr z)⟩⟩
 rintro σ' H2 ⟨d,q,A,u,rfl,sm,mx,gd,bt,so⟩;rw[wHn] at gd bt;have p1:=zRr (i:=n) aP;refine⟨_,rfl,(n:Nat),rfl,by omega,by omega,λc hc=>?_⟩;refine zAT (n:=((n:Nat):Int).toNat) (λi σ' H'=>∃(v:Option V) (qf:Nat->Addr) (X Y:Nat->Int),σ'=[v,some (.int (n:Nat)),some (.ref d)]/\zAf H2 H'/\H' c=some (.lst (tab i λk=>V.ref (qf k)))/\∀k,k < i->H' (qf k)=some (.tup [.int (X k),.int (Y k)])/\Low (A k n) (A k k) (X k) (Y k))
  ⟨none,λ_=>c,λ_=>0,λ_=>0,rfl,zC hc _,zB,λk hk=>absurd hk (wHd _)⟩ ?_ ?_
 ·rintro i σ' H' hi ⟨v,qf,X,Y,rfl,s3,ec,hk⟩;have aC:i < n:=by omega
  have iz:(0+(i:Int))=(i:Int):=by omega
  have fO:atI (tab n λk=>V.ref (q k)) (0+(i:Int))=some (V.ref (q i)):=by rw[iz];exact zAl aC
  have at2:atI (tab (n+1) λj=>V.int (A i j)) (0+(i:Int))=some (V.int (A i i)):=by rw[iz];exact zAl ∅
  have rt:=SqL.of (K:=K) (s3 _ _ mx.top);have rr:=SqL.of (K:=K) (s3 _ _ (mx.row i aC));refine⟨_,rfl,_,rfl,d,_,_,_,rfl,rfl,rt,fO,_,rfl,q i,_,_,_,rfl,rfl,rr,zAl ∅,_,rfl,_,rfl,d,_,_,_,rfl,rfl,rt,fO,_,rfl,q i,_,_,_,rfl,rfl,rr,at2,A i n,A i i,rfl,by have:=gd.piv aC;omega,λp x y hp lw=>?_⟩;have aS:c≠p:=zP ec hp;refine⟨_,by rw[zO aS];exact ec,by rw[zAa];exact zAB ∅,_,λk=>if k=i then p else qf k,λk=>if k=i then x else X k,λk=>if k=i then y else Y k,rfl,zY (s3.trans (zC hp _)) hc _,?_,λk aZ=>?_⟩
  ·rw[zB];refine congrArg (λl=>some (HO.lst l)) ?_;rw[← zA5]
   congr 1
   ·exact zAz λk hk=>by show V.ref (qf k)=V.ref (if k=i then p else qf k);rw[wGZ ∅]
   show [V.ref p]=[V.ref (if i=i then p else qf i)];rw[wG1 rfl]
  by_cases e:k=i
  ·subst e;simp only[↓reduceIte];exact⟨by rw[zO (Ne.symm aS)];exact zB,lw⟩
  simp only[wGZ e];obtain⟨a1,a2⟩:=hk k ∅;refine⟨?_,a2⟩;rw[zO (zBG a1 ec (by intro z;cases z))];exact zC hp _ _ _ a1
 rintro σ' H' ⟨v,qf,X,Y,rfl,s3,ec,hk⟩;rw[wHn] at ec hk;have sub:∀{a b:Int},Bt (11*2 ^ n-1) b->a.natAbs<=b.natAbs->Bt 390000 a:=λh e=>Bt.mono (j:=11*2 ^ n-1) (wHF e h) ∅;refine qq c qf X Y H' (sm.free hc) (sm.trans s3) ⟨ec,λk aZ=>(hk k aZ).1⟩ ⟨λi hi=>(hk i hi).2.pos,λi hi=>(hk i hi).2.one,λi hi=>?_,λi hi=>(sub (bt i n hi (wG5 _)) (hk i hi).2.tb).mono ⋯,λi hi=>(sub (bt i i hi ∅) (hk i hi).2.bb).mono ⋯⟩ (λi hi=>⟨sub (bt i n hi (wG5 _)) (hk i hi).2.tb,sub (bt i i hi ∅) (hk i hi).2.bb⟩) λx l=>?_
 ·have lw:=(hk i hi).2;have h1:=zGY (gd.rhs i hi) (wIg lw.pos);rw[← lw.eq,wIa] at h1;exact zJO (gd.piv hi) h1
 rw[← so x l,gd.sol];constructor
 ·intro h i hi;have lw:=(hk i hi).2;refine zCz lw.pos ?_;have e1:=h i hi;have e2:=lw.eq
  grind
 intro h i hi;have lw:=(hk i hi).2;refine zCz (gd.piv hi) ?_;have e1:=h i hi;have e2:=lw.eq
 grind
def zHd {ws:Wys} {n i:Nat}:(tab n λh=>V.int (1000-zBr ws i h)).set (wg ws i) (.int (1000-zBr ws i (wg ws i)-wp ws i))=tab n λh=>V.int (1000-zBr ws (i+1) h):=by
 rw[zD3];refine zAz λh _=>?_;show _=V.int (1000-(zBr ws i h+if wg ws i=h then wp ws i else 0));by_cases c:h=wg ws i
 ·subst c;rw[wG1 rfl,wG1 rfl];congr 1;omega
 rw[wGZ c,wGZ (Ne.symm c)];congr 1;omega
inductive sp_kept (K:W.Frag) (vs:List V) (H:Hp) (Q:VK) (E:XK):Prop
 | mk (n:Nat) (r:Addr) (rs:List V) (ws:Wys):vs=[.int (n:Nat),.ref r]->(WyAt K H r rs ws/\(∀k,k < ws.length->wg ws k < n)/\n<=900/\
 ∀(d:Addr) (H':Hp),H d=none->zAf H H'->H' d=some (.lst (tab n λh=>V.int (keeps ws h)))->Q (.ref d) H')->sp_kept K vs H Q E
def zIa (T:Txt P K mg t):FnOk P w K mg base CX0 40 t.wD6 t.wD7 ["count","ways"] (sp_kept K):=by
 refine T.wDa.ok zE1 ⟨⟩ ();obtain⟨n,r,rs,ws,rfl,wa,wo,n9,q⟩:=h;refine⟨_,(zD (zAE 2 zE1.nd (zW zGM (zAk (zI zG zE zJ)) (pv 0)))
  (zD (zAp PassesOwn.never rfl (zAb K (pv 1)) (zAw K (n:=3) rfl (zQ (zK (i:=3) zE1.nd rfl (Or.inl rfl)) (zQ (zK (i:=4) zE1.nd rfl (Or.inl rfl)) (zQ (zK (i:=5) zE1.nd rfl (Or.inl rfl)) zAv)))) (zH (zHS (pv 2) (pv 3) zGi (pv 5) zKY zAG)))
  (zH (zX (pv 2))))),?_⟩
 refine⟨szl,λl1 h1=>⟨_,rfl,l1,_,_,rfl,rfl,zB,by omega,by omega,?_,λd hd=>?_⟩⟩
 ·show 1*_<=sizeLine;exact small ∅
 have s0:=(zC h1 (.lst [V.int 1000])).trans (zC hd (.lst (List.replicate (n:Int).toNat [V.int 1000]).flatten));have bW:H d=none:=(zC h1 _).free hd;refine⟨_,rfl,r,rfl,⟨_,s0.seq wa.sq⟩,zAy (K:=K) (a:=r) (xs:=rs) (λi σ' H'=>∃u v w,σ'=[some (.int (n:Nat)),some (.ref r),some (.ref d),u,v,w]/\zAf H H'/\H' d=some (.lst (tab n λh=>V.int (1000-zBr ws i h))))
  ⟨_,_,_,rfl,s0,by rw[zB,zOS,wHn,zEs];exact congrArg (λl=>some (HO.lst l)) (zAz λi _=>by show _=V.int (1000-0);rfl)⟩ (λi σ' H' _ ⟨_,_,_,_,sm,_⟩=>sm.seq wa.sq) ?_ ?_⟩
 ·rintro i x σ' H' hx ⟨u,v,w,rfl,sm,ed⟩;have hi:i < ws.length:=by rw[← wa.len];exact (wIi hx).1
  obtain⟨q',e1,e2⟩:=wa.at_ i hi;have ex:x=.ref q':=by rw[e1] at hx;exact (wG8 hx).symm
  subst ex;refine⟨q',_,rfl,SqT.of (sm _ _ e2),rfl,_,_,rfl,_,_,rfl,_,_,rfl,rfl,?_⟩;refine⟨_,rfl,_,rfl,d,_,_,_,rfl,rfl,SqL.of ed,zAl (wo i hi),_,rfl,_,_,rfl,rfl,d,_,_,_,rfl,rfl,ed,zBt (wo i hi),?_⟩;exact⟨_,_,_,rfl,zY sm bW _,by rw[zB,zHd]⟩
 rintro σ' H' ⟨u,v,w,rfl,sm,ed⟩;rw[wa.len] at ed;exact⟨_,rfl,q d H' bW sm ed⟩
inductive sp_times (K:W.Frag) (vs:List V) (H:Hp) (Q:VK) (E:XK):Prop
 | mk (p r:Addr) (x y z u:Int):vs=[.ref p,.ref r]->(SqT K H p [.int x,.int y]/\SqT K H r [.int z,.int u]/\IntMulOk x z/\IntMulOk y u/\y*u≠0/\∀(m:Addr) (a b:Int),H m=none->Low (x*z) (y*u) a b->Q (.ref m) (upd H m (.tup [.int a,.int b])))->sp_times K vs H Q E
def zMm (T:Txt P K mg t):FnOk P w K mg base CX0 42 t.wDn t.wDo ["one","two"] (sp_times K):=by refine T.wFc.ok zLU ⟨⟩ ();obtain⟨p,r,x,y,z,u,rfl,ex,ey,m1,m2,h0,q⟩:=h;refine⟨_,(zH (zX (cal (zDq T) hr T.wBS T.wBf T.wBR (zN (zW zAV (zAW K (pv 0) zG) (zAW K (pv 1) zG)) (zW zAV (zAW K (pv 0) zG) (zAW K (pv 1) zG)) zE zT zT)))),?_⟩;exact⟨_,rfl,p,_,_,_,rfl,rfl,ex,rfl,_,rfl,r,_,_,_,rfl,rfl,ey,rfl,_,_,rfl,rfl,m1,_,rfl,p,_,_,_,rfl,rfl,ex,rfl,_,rfl,r,_,_,_,rfl,rfl,ey,rfl,_,_,rfl,rfl,m2,x*z,y*u,rfl,h0,q⟩
inductive sp_shares (K:W.Frag) (vs:List V) (H:Hp) (Q:VK) (E:XK):Prop
 | mk (n s0:Nat) (r:Addr) (rs:List V) (ws:Wys):vs=[.int (n:Nat),.ref r,.int (s0:Nat)]->(WyAt K H r rs ws/\WyOk n ws/\zL8 n ws/\s0 < n/\n<=15/\
 ∀(d:Addr) (q:Nat->Addr) (X Y U W:Nat->Int) (H':Hp),H d=none->zAf H H'->FrAt H' d q n U W->FrOk n X Y->FrOk n U W->(∀(x:Nat->Int) (l:Int),(∀i,i < n->x i*Y i=X i*l)↔Sol n (M0 n ws s0) x l)->(∀i,i < n->U i*(1000*Y i)=keeps ws i*X i*W i)->Q (.ref d) H')->sp_shares K vs H Q E
def zJN {k x y X Y a b:Int} (l1:Low k 1000 x y) (l2:Low (x*X) (y*Y) a b):a*(1000*Y)=k*X*b:=by
 have e1:=l1.eq;have e2:=l2.eq;refine zCz l1.pos ?_
 grind
def zGS (T:Txt P K mg t):FnOk P w K mg base CX0 44 t.wBM t.wCP ["count","ways","start"] (sp_shares K):=by
 refine T.wCY.ok zG7 ⟨⟩ ();obtain⟨n,s0,r,rs,ws,rfl,wa,wo,op,sn,aP,qq⟩:=h;refine⟨_,(zD (zAE 3 zG7.nd (cal (zIa T) hr T.wEr T.wDa T.wEq (zN (pv 0) (pv 1) zE zA zA)))
  (zH (zX (zAq ["rest","one"] [none,none] (by kernel_rfl) rfl (zI2 rfl T.wD5 (zN (pv 3) (cal (zIe T) hr T.wFw T.wDc T.wFv (zZ (pv 0) (pv 1) (pv 2) zE zA zA zA)) zE zA zR)) (λ_ _ _ _ _=>(zAw K (n:=2) rfl (zQ (zK (i:=0) ndB rfl (Or.inl rfl)) (zQ (zK (i:=1) ndB rfl (Or.inl rfl)) zAv)))) (λ_ _ _ _ _=>zAs) (λ_ _ _ _ _=>(cal (zMm T) hr T.wGu T.wFc T.wGt (zN (cal (zDq T) hr T.wBS T.wBf T.wBR (zN (pv 0) zG zE zA zJ)) (pv 1) zE zR zA))))))),?_⟩
 refine⟨_,rfl,_,rfl,n,r,rs,ws,rfl,wa,wo.g,by omega,λkp H1 kW s1 ek=>?_⟩;refine⟨_,rfl,_,rfl,_,rfl,_,rfl,n,s0,r,rs,ws,rfl,wa.mono s1,wo,op,sn,aP,λd q X Y H2 hd s2 fa fo fb key=>?_⟩;have iP:=s2 _ _ ek;refine⟨kp,d,_,_,rfl,SqL.of iP,SqL.of fa.top,λc hc=>?_⟩;refine zGo (K:=K) (xs:=tab n λh=>V.int (keeps ws h)) (ys:=tab n λi=>V.ref (q i)) (by rw[zAa,zAa]) (λi σ' H'=>∃(u v:Option V) (qf:Nat->Addr) (U W:Nat->Int),σ'=[u,v]/\zAf H2 H'/\H' c=some (.lst (tab i λk=>V.ref (qf k)))/\∀k,k < i->H' (qf k)=some (.tup [.int (U k),.int (W k)])/\∃x y,Low (keeps ws k) 1000 x y/\Low (x*X k) (y*Y k) (U k) (W k))
  ⟨none,none,λ_=>c,λ_=>0,λ_=>0,rfl,zC hc _,zB,λk hk=>absurd hk (wHd _)⟩ (λj σ2 H2 _ ⟨_,_,_,_,_,_,s3,_⟩=>⟨SqL.of (s3 _ _ iP),SqL.of (s3 _ _ fa.top)⟩) ?_ ?_
 ·rintro i x y σ' H' T2 hx hy ⟨u,v,qf,U,W,rfl,s3,ec,hk⟩ eI;obtain⟨hi,rfl⟩:=zAN hx;obtain⟨_,rfl⟩:=zAN hy;have sT:=zC eI (.tup [.int (keeps ws i),.ref (q i)]);have s4:=s3.trans sT;have gW:=sT _ _ ec;refine⟨T2,_,rfl,SqT.of zB,rfl,_,_,rfl,_,_,rfl,rfl,?_⟩;refine⟨_,rfl,keeps ws i,1000,rfl,by decide,λp1 x1 y1 dI dY=>?_⟩;have s5:=s4.trans (zC dI (.tup [.int x1,.int y1]));have jZ:=zC dI (.tup [.int x1,.int y1]) _ _ gW;have kb:(keeps ws i).natAbs<=1000:=by have h1:=zEm wo i ws.length (wG5 _);have h2:=wo.o i;unfold keeps;omega
  have bx:Bt 10 x1:=wHF (wHe dY.tb kb) ⋯;have cK:Bt 10 y1:=wHF dY.bb ⋯;refine⟨_,rfl,p1,q i,x1,y1,X i,Y i,rfl,SqT.of zB,SqT.of (s5 _ _ (fa.row i hi)),zA6 bx (fb i hi).1 ⋯,zA6 cK (fb i hi).2 ⋯,by have:=wH3 dY.pos (fo.pos i hi);omega,λp a b hp lw=>?_⟩;have aS:c≠p:=zP jZ hp;refine⟨_,by rw[zO aS];exact jZ,by rw[zAa];exact zAB ∅,_,_,λk=>if k=i then p else qf k,λk=>if k=i then a else U k,λk=>if k=i then b else W k,rfl,zY (s5.trans (zC hp _)) hc _,?_,λk aZ=>?_⟩
  ·rw[zB];refine congrArg (λl=>some (HO.lst l)) ?_;rw[← zA5]
   congr 1
   ·exact zAz λk hk=>by show V.ref (qf k)=V.ref (if k=i then p else qf k);rw[wGZ ∅]
   show [V.ref p]=[V.ref (if i=i then p else qf i)];rw[wG1 rfl]
  by_cases e:k=i
  ·subst e;simp only[↓reduceIte];exact⟨by rw[zO (Ne.symm aS)];exact zB,x1,y1,dY,lw⟩
  simp only[wGZ e];obtain⟨a1,a2⟩:=hk k ∅;refine⟨?_,a2⟩;rw[zO (zBG a1 ec (by intro z;cases z))];exact zC hp _ _ _ (zC dI _ _ _ (sT _ _ a1))
 rintro σ' H' ⟨u,v,qf,U,W,rfl,s3,ec,hk⟩;rw[zAa] at ec hk;have aR:=s1.trans s2;have kb:∀i,(keeps ws i).natAbs<=1000/\0<=keeps ws i:=λi=>by have h1:=zEm wo i ws.length (wG5 _);have h2:=wo.o i;unfold keeps;omega
 have lj:∀i,i < n->U i*(1000*Y i)=keeps ws i*X i*W i:=λi hi=>by obtain⟨_,x,y,l1,l2⟩:=hk i hi;exact zJN l1 l2
 have pos:∀i,i < n->0 < W i:=λi hi=>by obtain⟨_,x,y,l1,l2⟩:=hk i hi;exact l2.pos
 refine qq c qf X Y U W H' (aR.free hc) (aR.trans s3) ⟨ec,λk aZ=>(hk k aZ).1⟩ fo ⟨pos,λi hi=>?_,λi hi=>?_,λi hi=>?_,λi hi=>?_⟩ key lj
 ·obtain⟨_,x,y,l1,l2⟩:=hk i hi;exact l2.one
 ·have h1:=zGY (zGY (kb i).2 (fo.nn i hi)) (wIg (pos i hi));rw[← lj i hi,wIa] at h1;exact zJO (c:=1000*Y i) (by have:=fo.pos i hi;omega) h1
 ·obtain⟨_,x,y,l1,l2⟩:=hk i hi;have bx:Bt 10 x:=wHF (wHe l1.tb (kb i).1) ⋯;exact Bt.mono (j:=10+390000) (wHF l2.tb (bx.mul (fb i hi).1)) ⋯
 obtain⟨_,x,y,l1,l2⟩:=hk i hi;have cK:Bt 10 y:=wHF l1.bb ⋯;exact Bt.mono (j:=10+390000) (wHF l2.bb (cK.mul (fb i hi).2)) ⋯
def zH9 {n:Nat} {a b:Nat->Nat} {mk:Nat->Bool} {i:Nat} (h:zCy a b mk i (a i)=true):(tab n λj=>V.bl (zCy a b mk i j)).set (b i) (.bl true)=tab n λj=>V.bl (zCy a b mk (i+1) j):=by
 rw[zD3];refine zAz λj _=>?_;have e:zCy a b mk (i+1)=λj=>if j=b i then true else zCy a b mk i j:=by show (if _ then _ else _)=_;rw[wG1 h]
 rw[e];by_cases c:j=b i
 ·simp[c]
 simp[c]
theorem zHA {n:Nat} {a b:Nat->Nat} {mk:Nat->Bool} {i:Nat} (h:¬zCy a b mk i (a i)=true):(tab n λj=>V.bl (zCy a b mk i j))=tab n λj=>V.bl (zCy a b mk (i+1) j):=by
 have e:zCy a b mk (i+1)=zCy a b mk i:=by show (if _ then _ else _)=_;rw[wGZ h]
 rw[e]
inductive sp_spread (K:W.Frag) (vs:List V) (H:Hp) (Q:VK) (E:XK):Prop
 | mk (p r:Addr) (rs:List V) (n m:Nat) (a b:Nat->Nat) (mk:Nat->Bool):vs=[.ref p,.ref r]->(SqL K H p (tab n λj=>V.bl (mk j))/\PrAt K H r rs m a b/\(∀k,k < m->a k < n)/\(∀k,k < m->b k < n)/\n<=900/\
 ∀(d:Addr) (f:Nat->Bool) (H':Hp),H d=none->zAf H H'->H' d=some (.lst (tab n λj=>V.bl (f j)))->(∀j,f j=true↔Rch m a b mk j)->Q (.ref d) H')->sp_spread K vs H Q E
def zKB (T:Txt P K mg t):FnOk P w K mg base CX0 40 t.wCN t.wCO ["marks","steps"] (sp_spread K):=by
 refine T.wEs.ok zC0 ⟨⟩ ();obtain⟨p,r,rs,n,m,a,b,mk,rfl,hp,pr,ha,hb,n9,q⟩:=h;refine⟨_,(zD (zAE 2 zC0.nd (zCa (zDw K) rfl T.wCv PyProof.Rows.boot_list (zI (pv 0) zE zA)))
  (zD (zAp PassesOwn.never rfl (zAh rfl T.wAe (zI (zS (zAi K) rfl T.wAi wHr (zI (pv 0) zE zA)) zE zR)) (zK (i:=3) zC0.nd rfl (Or.inl rfl)) (zH (zAp PassesOwn.never rfl (zAb K (pv 1)) (zAw K (n:=2) rfl (zQ (zK (i:=4) zC0.nd rfl (Or.inl rfl)) (zQ (zK (i:=5) zC0.nd rfl (Or.inl rfl)) zAv))) (zH (zA4 (zAQ (zAo K (pv 2) (pv 4))) (zH (zBB zBu (zBZ (pv 2) (pv 5) zAG))) zAd)))))
  (zH (zX (pv 2))))),?_⟩
 refine⟨_,rfl,p,_,rfl,.inl hp,λd hd=>?_⟩;have s0:=zC hd (.lst (tab n λj=>V.bl (mk j)));have tl:(tab n λj=>V.bl (mk j)).length=n:=zAa;refine⟨_,rfl,p,_,rfl,.inl (s0.seq hp),_,rfl,by omega,by rw[tl];omega,zA1 (n:=(((tab n λj=>V.bl (mk j)).length:Nat):Int).toNat) (λi σ' H'=>∃u v w,σ'=[some (.ref p),some (.ref r),some (.ref d),u,v,w]/\zAf H H'/\H' d=some (.lst (tab n λj=>V.bl (trn m a b mk i j))))
  ⟨_,_,_,rfl,s0,zB⟩ ?_ ?_⟩
 ·rintro i σ' H1 hi ⟨u,v,w,rfl,s1,ed1⟩;refine⟨_,rfl,r,rfl,⟨_,s1.seq pr.sq⟩,zAy (K:=K) (a:=r) (xs:=rs) (λj σ' H'=>∃v w,σ'=[some (.ref p),some (.ref r),some (.ref d),some (.int (0+(i:Int))),v,w]/\zAf H H'/\H' d=some (.lst (tab n λx=>V.bl (zCy a b (trn m a b mk i) j x))))
   ⟨_,_,rfl,s1,ed1⟩ (λj σ' H' _ ⟨_,_,_,sm,_⟩=>sm.seq pr.sq) ?_ ?_⟩
  ·rintro j x σ' H' hx ⟨v,w,rfl,sm,ed⟩;have hj:j < m:=by rw[← pr.len];exact (wIi hx).1
   obtain⟨q',e1,e2⟩:=pr.at_ j hj;have ex:x=.ref q':=by rw[e1] at hx;exact (wG8 hx).symm
   subst ex;refine⟨q',_,rfl,SqT.of (sm _ _ e2),rfl,_,_,rfl,_,_,rfl,rfl,?_⟩;refine⟨_,rfl,_,rfl,d,_,_,_,rfl,rfl,SqL.of ed,zAl (ha j hj),_,rfl,zCw (λc=>?_) (λc=>?_)⟩
   ·refine⟨_,rfl,_,rfl,d,_,_,_,rfl,rfl,ed,zBt (hb j hj),?_⟩;exact⟨_,_,rfl,zY sm hd _,by rw[zB,zH9 c]⟩
   exact⟨_,_,rfl,sm,by rw[ed,zHA c]⟩
  rintro σ' H' ⟨v,w,rfl,sm,ed⟩;rw[pr.len] at ed;exact⟨_,_,_,rfl,sm,ed⟩
 rintro σ' H' ⟨u,v,w,rfl,sm,ed⟩;rw[tl,wHn] at ed;exact⟨_,rfl,q d _ H' hd sm ed λj=>zND ha hb⟩
inductive sp_shut_in (K:W.Frag) (vs:List V) (H:Hp) (Q:VK) (E:XK):Prop
 | mk (n:Nat) (r:Addr) (rs:List V) (ws:Wys):vs=[.int (n:Nat),.ref r]->(WyAt K H r rs ws/\WyOk n ws/\ws.length<=800/\n<=900/\
 ∀(d:Addr) (f:Nat->Bool) (H':Hp),H d=none->zAf H H'->H' d=some (.lst ((plc (λj=>!f j) n).map V.int))->(∀j,f j=true↔Rch ws.length (wt ws) (wg ws) (λj=>decide (0 < keeps ws j)) j)->Q (.ref d) H')->sp_shut_in K vs H Q E
def zJg (T:Txt P K mg t):FnOk P w K mg base CX0 41 t.wCb t.wCc ["count","ways"] (sp_shut_in K):=by
 refine T.wDN.ok zD8 ⟨⟩ ();obtain⟨n,r,rs,ws,rfl,wa,wo,wl,n9,q⟩:=h;refine⟨_,(zD (zDF ["rest"] [none] (by kernel_rfl) rfl (zAb K (cal (zIa T) hr T.wEr T.wDa T.wEq (zN (pv 0) (pv 1) zE zA zA))) (λ_ _ _ _ _=>(zK (i:=0) ndB rfl (Or.inl rfl))) (λ_ _ _ _ _=>zAs) (λ_ _ _ _ _=>(zCr zMk (pv 0) zG (zAj _))) (zK (i:=2) zD8.nd rfl (Or.inl rfl)))
  (zD (zBa (i:=3) zD8.nd rfl (Or.inr rfl) (cal (zKB T) hr T.wGa T.wEs T.wF9 (zN (pv 2) (zAq ["giver","taker","part"] [none,none,none] (by kernel_rfl) rfl (zAb K (pv 1)) (λ_ _ _ _ _=>(zAw K (n:=3) rfl (zQ (zK (i:=0) ndB rfl (Or.inl rfl)) (zQ (zK (i:=1) ndB rfl (Or.inl rfl)) (zQ (zK (i:=2) ndB rfl (Or.inl rfl)) zAv))))) (λ_ _ _ _ _=>zAs) (λ_ _ _ _ _=>(zAR (zN (pv 1) (pv 0) zE zA zA)))) zE zA zA2)))
  (zH (zX (zAq ["place","free"] [none,some 3] (by kernel_rfl) rfl (zAh rfl T.wAe (zI (pv 0) zE zA)) (λ_ _ _ _ _=>(zK (i:=0) ndB rfl (Or.inl rfl))) (λ_ _ _ _ _=>(zC8 (zAZ (zAQ (zAo K (pv 1) (pv 0)))))) (λ_ _ _ _ _=>(pv 0))))))),?_⟩
 refine⟨_,rfl,_,rfl,n,r,rs,ws,rfl,wa,wo.g,n9,λkp H0 kW sk ek=>⟨kp,rfl,⟨_,SqL.of ek⟩,λc hc=>?_⟩⟩;refine zAr (K:=K) (ys:=tab n λh=>V.int (keeps ws h)) (λi σ' H'=>∃v,σ'=[v]/\H'=upd H0 c (.lst (tab i λj=>V.bl (decide (0 < keeps ws j))))) ⟨none,rfl,rfl⟩ (λj σ2 H2 _ ⟨_,_,e⟩=>by rw[e];exact SqL.of (zC hc _ _ _ ek)) ?_ ?_
 ·rintro i x σ' H' hx ⟨v,rfl,rfl⟩;obtain⟨hi,rfl⟩:=zAN hx;refine⟨_,rfl,_,_,rfl,rfl,_,zB,by rw[zAa];exact zAB ∅,_,rfl,?_⟩;rw[zBx,← zA5]
 rintro σ' H1 ⟨v,rfl,rfl⟩;rw[zAa];replace wa:=wa.mono sk;have s1:=zC hc (.lst (tab n λj=>V.bl (decide (0 < keeps ws j))));have iR:=wa.mono s1;refine⟨_,rfl,_,rfl,r,rfl,⟨_,iR.sq⟩,λe he=>?_⟩;refine zAr (K:=K) (ys:=rs) (λj σ2 H2=>∃(u0 u1 u2:Option V) (ps:List V),σ2=[u0,u1,u2]/\zAf (upd H0 c (.lst (tab n λj=>V.bl (decide (0 < keeps ws j))))) H2/\H2 e=some (.lst ps)/\PrAt K H2 e ps j (wt ws) (wg ws))
  ⟨none,none,none,[],rfl,zC he _,zB,⟨SqL.of zB,rfl,λk hk=>absurd hk (wHd _)⟩⟩ (λj σ2 H2 _ ⟨_,_,_,_,_,sm,_⟩=>sm.seq iR.sq) ?_ ?_
 ·rintro j x σ2 H2 hx ⟨u0,u1,u2,ps,rfl,sm,ee,pr⟩;have hj:j < ws.length:=by rw[← wa.len];exact (wIi hx).1
  obtain⟨q',e1,e2⟩:=iR.at_ j hj;have ex:x=.ref q':=by rw[e1] at hx;exact (wG8 hx).symm
  subst ex;refine⟨q',_,rfl,SqT.of (sm _ _ e2),rfl,_,_,rfl,_,_,rfl,_,_,rfl,rfl,?_⟩;refine zGx ⟨_,rfl,_,rfl,zA8,λtq nI=>?_⟩;have nq:e≠tq:=zP ee nI;refine⟨_,by rw[zO nq];exact ee,by rw[pr.len];exact zAB ∅,_,_,_,ps++[.ref tq],rfl,zY (sm.trans (zC nI _)) he _,zB,pr.snoc (λb xs hb=>?_) zB (by rw[zO (Ne.symm nq)];exact zB)⟩;rw[zO (zBG hb ee (by intro z;cases z))];exact zC nI _ _ _ hb
 rintro σ2 H2 ⟨u0,u1,u2,ps,rfl,s2,ee,pr⟩;rw[wa.len] at pr;refine⟨c,e,ps,n,ws.length,wt ws,wg ws,_,rfl,s2.seq (SqL.of zB),pr,wo.t,wo.g,n9,λd f H3 hd s3 ed hf=>?_⟩;refine⟨_,rfl,(n:Nat),rfl,by omega,by omega,λg hg=>?_⟩;refine zAT (n:=((n:Nat):Int).toNat) (λi σ' H'=>∃v,σ'=[v,some (.ref d)]/\H'=upd H3 g (.lst ((plc (λj=>!f j) i).map V.int))) ⟨none,rfl,rfl⟩ ?_ ?_
 ·rintro i σ' H' hi ⟨v,rfl,rfl⟩;have pl:=zDG (λj=>!f j) i;refine⟨_,rfl,_,rfl,d,_,_,_,rfl,rfl,SqL.of (zC hg _ _ _ ed),zHz ∅ ∅,_,rfl,zCw (λc1=>?_) (λc1=>?_)⟩
  ·rw[show (0+(i:Int)).toNat=i by omega] at c1;refine⟨_,rfl,_,zB,by rw[wGX];exact zAB ∅,_,rfl,?_⟩;rw[zBx,show plc (λj=>!f j) (i+1)=plc (λj=>!f j) i++[(i:Int)] by show (if _ then _ else _)=_;rw[wG1 c1],show (0+(i:Int))=i by omega,zCg]
  rw[show (0+(i:Int)).toNat=i by omega] at c1;exact⟨_,rfl,by rw[show plc (λj=>!f j) (i+1)=plc (λj=>!f j) i by show (if _ then _ else _)=_;rw[wGZ c1]]⟩
 rintro σ' H' ⟨v,rfl,rfl⟩;rw[wHn];have sa:=((sk.trans s1).trans s2).trans s3;exact q g f _ (sa.free hg) (sa.trans (zC hg _)) zB hf
def zQ1 (ns:List Str) (p:Pct):Nat × Nat × Int:=(ns.idxOf p.1,ns.idxOf p.2.1,p.2.2.1)
def zBm (ns:List Str) (ps:List Pct) (d:Int):Wys:=(ps.filter (zBk d)).map (zQ1 ns)
structure PsOk (ns:List Str) (ps:List Pct):Prop where
 inn:∀p∈ps,p.1∈ns/\p.2.1∈ns
 ne:∀p∈ps,p.1≠p.2.1
 pt:∀p∈ps,1<=p.2.2.1/\p.2.2.1<=1000
 sp:∀p∈ps,0<=p.2.2.2.1/\p.2.2.2.1<=p.2.2.2.2/\p.2.2.2.2<=5000
def PsOk.span {ns:List Str} {ps:List Pct} (h:PsOk ns ps):zN3 (ps.map zLL):=λk hk=>by rw[wGX] at hk;have hp:ps[k]?=some ps[k]:=wG0 hk;obtain⟨l1,l2⟩:=zM6 hp;rw[l1,l2];exact h.sp _ (wHs hk)
def zLA {K:W.Frag} {H:Hp} {w:Addr} {ns:List Str} {ps:List Pct} {d:Int} (h:zAe H w ((ps.filter (zBk d)).map (zJy ns))):∃rs,WyAt K H w rs (zBm ns ps d):=by
 obtain⟨q,h1,h2,h3⟩:=h;rw[wGX] at h2;refine⟨q.map V.ref,SqL.of h1,by unfold zBm;rw[wGX,wGX,h2],λk hk=>?_⟩;unfold zBm at hk;rw[wGX] at hk;have e1:q[k]?=some (q[k]' ∅):=wG0 _;have e2:(ps.filter (zBk d))[k]?=some ((ps.filter (zBk d))[k]):=wG0 hk;refine⟨_,by rw[wG6,e1];rfl,?_⟩;have e3:(zBm ns ps d).getD k (0,0,0)=zQ1 ns ((ps.filter (zBk d))[k]):=by unfold zBm;rw[wG4,wG6,e2];rfl
 have:=h3 k _ _ e1 (by rw[wG6,e2];rfl);unfold wg wt wp;rw[e3];exact this
def zLC (ns:List Str) (ps:List Pct) (d:Int) {k:Nat} (h:k < (zBm ns ps d).length):∃p∈ps,(zBm ns ps d).getD k (0,0,0)=zQ1 ns p:=by unfold zBm at h ⊢;rw[wGX] at h;refine⟨(ps.filter (zBk d))[k],(List.mem_filter.mp (wHs h)).1,?_⟩;rw[wG4,wG6,wG0 h];rfl
def zO9 {ns:List Str} {a b:Str} (ha:a∈ns) (hb:b∈ns) (e:ns.idxOf a=ns.idxOf b):a=b:=by
 have h1:=List.getElem_idxOf (List.idxOf_lt_length_iff.mpr ha);have h2:=List.getElem_idxOf (List.idxOf_lt_length_iff.mpr hb);rw[← h1,← h2]
 congr 1
def PsOk.g {ns:List Str} {ps:List Pct} (h:PsOk ns ps) (d:Int):∀k,k < (zBm ns ps d).length->wg (zBm ns ps d) k < ns.length:=λk hk=>by obtain⟨p,hp,e⟩:=zLC ns ps d hk;unfold wg;rw[e];exact List.idxOf_lt_length_iff.mpr (h.inn p hp).1
def PsOk.wy {ns:List Str} {ps:List Pct} (h:PsOk ns ps) {d:Int} (o:∀x,zBr (zBm ns ps d) (zBm ns ps d).length x<=1000):WyOk ns.length (zBm ns ps d):=by
 refine⟨h.g d,λk hk=>?_,λk hk=>?_,λk hk=>?_,o⟩
 ·obtain⟨p,hp,e⟩:=zLC ns ps d hk;unfold wt;rw[e];exact List.idxOf_lt_length_iff.mpr (h.inn p hp).2
 ·obtain⟨p,hp,e⟩:=zLC ns ps d hk;unfold wg wt;rw[e];exact λz=>h.ne p hp (zO9 (h.inn p hp).1 (h.inn p hp).2 z)
 obtain⟨p,hp,e⟩:=zLC ns ps d hk;unfold wp;rw[e];exact h.pt p hp
def Days.cover {sps:Sps} {ds:List Int} (D:Days sps ds) {d:Int} (h0:0<=d) (h1:d<=5000):∃i,i < ds.length/\ds.getD i 0<=d/\d < nxt ds i:=by
 have pos:=D.pos;have key:∀n,1<=n->n<=ds.length->∃i,i < n/\ds.getD i 0<=d/\∀j,i < j->j < n->d < ds.getD j 0:=by
  intro n hn
  induction n with
  | zero=>omega
  | succ n ih=>
   intro hl;by_cases c:n=0
   ·subst c;refine⟨0,by omega,?_,λj h1 h2=>by omega⟩;rw[wG4,D.zero];exact h0
   by_cases e:ds.getD n 0<=d
   ·exact⟨n,by omega,e,λj h1 h2=>by omega⟩
   obtain⟨i,a,b,g⟩:=ih ∅ ∅;refine⟨i,by omega,b,λj h1 h2=>?_⟩;by_cases z:j=n
   ·subst z;omega
   exact g j h1 ∅
 obtain⟨i,a,b,g⟩:=key ds.length ∅ (wG5 _);refine⟨i,a,b,?_⟩;by_cases c:i+1 < ds.length
 ·rw[zI9 c];exact g (i+1) ∅ c
 rw[zIg c];omega
def zHX {ps:List Pct} {ds:List Int} (so:zN3 (ps.map zLL)) (D:Days (ps.map zLL) ds) {i:Nat} {d:Int} (hi:i < ds.length) (h1:ds.getD i 0<=d) (h2:d < nxt ds i):ps.filter (zBk d)=ps.filter (zBk (ds.getD i 0)):=by
 refine List.filter_congr λp hp=>?_;obtain⟨k,hk,e⟩:=List.getElem_of_mem hp;have kP:ps[k]?=some p:=by rw[wG0 hk,e]
 obtain⟨l1,l2⟩:=zM6 kP;have W:=λa b=>Days.whole so D hi (k:=k) (by rw[wGX];exact hk) a b;rw[l1,l2] at W;have up:=D.up hi;unfold zBk;rw[Bool.eq_iff_iff,wHw,wHw,decide_eq_true_eq,decide_eq_true_eq,decide_eq_true_eq,decide_eq_true_eq];constructor
 ·rintro⟨a,b⟩;have:=W ∅ ∅;omega
 rintro⟨a,b⟩;have:=W ∅ ∅;omega
open Classical in
noncomputable def zLN (ns:List Str) (ps:List Pct) (d:Int):Nat->Bool:=λj=>decide (¬Rch (zBm ns ps d).length (wt (zBm ns ps d)) (wg (zBm ns ps d)) (λj=>decide (0 < keeps (zBm ns ps d) j)) j)
open Classical in
theorem zEv {ns:List Str} {ps:List Pct} {d:Int} {j:Nat}:zLN ns ps d j=true↔¬Rch (zBm ns ps d).length (wt (zBm ns ps d)) (wg (zBm ns ps d)) (λj=>decide (0 < keeps (zBm ns ps d) j)) j:=by unfold zLN;exact decide_eq_true_iff
noncomputable def zBy (ns:List Str) (ps:List Pct) (d:Int):List Int:=plc (zLN ns ps d) ns.length
def zEu {ns:List Str} {ps:List Pct} {d e:Int} (h:ps.filter (zBk d)=ps.filter (zBk e)):zBy ns ps d=zBy ns ps e/\zBm ns ps d=zBm ns ps e:=by
 have w:zBm ns ps d=zBm ns ps e:=by unfold zBm;rw[h]
 refine⟨?_,w⟩;unfold zBy zLN;rw[w]
inductive sp_whom_shut (K:W.Frag) (t:Adr) (vs:List V) (H:Hp) (Q:VK) (E:XK):Prop
 | mk (nl pl nw:Addr) (ns:List Str) (ps:List Pct) (new:Pct):vs=[.ref nl,.ref pl,.ref nw]->(SqL K H nl (ns.map V.str)/\ns.length<=15/\zAe H pl (ps.map Pct.vs)/\ps.length<=25/\H nw=some (.tup new.vs)/\zFF new.1/\PsOk ns (ps++[new])/\
 (∀d x,x≠ns.idxOf new.1->zBr (zBm ns (ps++[new]) d) (zBm ns (ps++[new]) d).length x<=1000)/\
 ((∃d,0<=d/\d<=5000/\1000 < zBr (zBm ns (ps++[new]) d) (zBm ns (ps++[new]) d).length (ns.idxOf new.1))->∀H',zAf H H'->E (.ref t.wAc) none H')/\
 ((∀d,0<=d->d<=5000->zBr (zBm ns (ps++[new]) d) (zBm ns (ps++[new]) d).length (ns.idxOf new.1)<=1000)->
  ((∀d,0<=d->d<=5000->zBy ns (ps++[new]) d=[])->∀H',zAf H H'->Q .non H')/\
  ∀d0,0<=d0->d0<=5000->zBy ns (ps++[new]) d0≠[]->(∀d,0<=d->d < d0->zBy ns (ps++[new]) d=[])->∀H' p m,zAf H H'->H p=none->H m=none->H' p=some (.tup [.int d0,.ref m])->H' m=some (.lst ((zBy ns (ps++[new]) d0).map λj=>V.str (ns.getD j.toNat Str.empty)))->Q (.ref p) H'))->sp_whom_shut K t vs H Q E
def zGQ (T:Txt P K mg t):FnOk P w K mg base (CXx P w) 43 t.wBo t.wBp ["names","pacts","new"] (sp_whom_shut K t):=by
 refine T.wCE.okX zAK ⟨⟩ ();obtain⟨nl,pl,nw,ns,ps,new,rfl,hN,aP,hP,hz,bV,sn,ok,oth,mP,q⟩:=h;refine⟨_,(zD (zAE 3 zAK.nd (cal (zMq T) hr T.wGw T.wFd T.wGv (zN (pv 0) (zW zBL (pv 1) (zAk (zI (pv 2) zE zA))) zE zA zT)))
  (zD (zAE 4 zAK.nd (zAU ((zBE T).mono ⋯) hr rfl T.wAG T.wAy.kp T.wAF .nil zCb (zN (pv 0) (zAW K (pv 2) zG) zE zA zF)))
  (zD (zAp PassesOwn.leaving rfl (zAb K (pv 3)) (zAw K (n:=2) rfl (zQ (zK (i:=5) zAK.nd rfl (Or.inl rfl)) (zQ (zK (i:=6) zAK.nd rfl (Or.inl rfl)) zAv))) (zH (zA4 (zAc zGP (zAo K (cal (zIa T) hr T.wEr T.wDa T.wEq (zN (zS (zAi K) rfl T.wAi wHr (zI (pv 0) zE zA)) (pv 6) zE zR zA)) (pv 4)) zG (zAj _)) (zH (zB7 T.wF2 rfl T.wDU (zBq (zBY (zDn (pv 5) zDo))))) zAd)))
  (zD (zAp PassesOwn.leaving rfl (zAb K (pv 3)) (zAw K (n:=2) rfl (zQ (zK (i:=5) zAK.nd rfl (Or.inl rfl)) (zQ (zK (i:=6) zAK.nd rfl (Or.inl rfl)) zAv))) (zD (zAE 7 zAK.nd (cal (zJg T) hr T.wFO T.wDN T.wFN (zN (zS (zAi K) rfl T.wAi wHr (zI (pv 0) zE zA)) (pv 6) zE zR zA)))
  (zH (zA4 (zMc (pv 7) (λ_=>rfl)) (zH (zX (zAR (zN (pv 5) (zAq ["place","names"] [none,some 0] (by kernel_rfl) rfl (zAb K (pv 7)) (λ_ _ _ _ _=>(zK (i:=0) ndB rfl (Or.inl rfl))) (λ_ _ _ _ _=>zAs) (λ_ _ _ _ _=>(zAo K (pv 1) (pv 0)))) zE zA zA2)))) zAd))))
  (zH (zX zKx)))))),?_⟩
 obtain⟨bC,eO⟩:∃x,x=ps++[new]:=⟨_,rfl⟩;have mgi:new.1∈ns:=(ok.inn new (by simp)).1;have eC:ns.idxOf new.1 < ns.length:=List.idxOf_lt_length_iff.mpr mgi;obtain⟨pq,p1,p2,p3⟩:=id hP;rw[wGX] at p2;refine⟨_,rfl,_,rfl,_,rfl,szl,λc hc=>?_⟩;have s1:=zC hc (.lst [V.ref nw]);refine⟨pl,c,_,_,rfl,rfl,s1 _ _ p1,zB,by rw[wGX];exact small (by show _+1<=_;omega),λpn nR=>?_⟩;have s2:=s1.trans (zC nR (.lst (pq.map V.ref++[V.ref nw])));have TN:zAe (upd (upd H c (.lst [V.ref nw])) pn (.lst (pq.map V.ref++[V.ref nw]))) pn (bC.map Pct.vs):=by
  refine⟨pq++[nw],by rw[zB,wG9];rfl,by rw[eO,wGX,wG7,wG7,p2];rfl,λi a ys e1 e2=>?_⟩;rw[eO,wG9] at e2;by_cases cc:i < pq.length
  ·rw[wHl cc] at e1;rw[wHl (by rw[wGX];omega)] at e2;exact s2 _ _ (p3 i a ys e1 e2)
  rw[wHj ∅] at e1;rw[wHj (by rw[wGX];omega)] at e2;have z:i-pq.length=0:=by have:=(wIi e1).1;rw[wHM] at this;omega
  have z2:i-(ps.map Pct.vs).length=0:=by rw[wGX];omega
  rw[z] at e1;rw[z2] at e2;cases e1;cases e2;exact s2 _ _ bV
 rw[← eO] at ok oth mP q;have nC:bC.length<=30:=by rw[eO,wG7];show _+1<=_;omega
 refine⟨nl,pn,ns,bC,rfl,s2.seq hN,TN,nC,ok.inn,ok.span,λdy H3 ds hdy s23 D dl L3=>?_⟩;have s3:=s2.trans s23;have kZ:=s3.seq hN;refine⟨_,rfl,_,rfl,nw,_,0,_,rfl,rfl,SqT.of (s3 _ _ bV),zBb ⋯ rfl,nl,ns,new.1,rfl,kZ,sn,λ_=>?_,λz=>absurd mgi z⟩;obtain⟨lq,l1,l2,l3⟩:=L3;have pS:∀i,i < ds.length->ds[i]?=some (ds.getD i 0):=λi hi=>by rw[wG4,wG0 hi];rfl
 have iQ:∀i,i < ds.length->0<=ds.getD i 0/\ds.getD i 0<=5000:=λi hi=>D.bd _ (wHA (pS i hi));have d60:∀i,i < ds.length->(ds.getD i 0).natAbs < 10 ^ 60:=λi hi=>by
  have:=iQ i hi;have z:(5000:Nat) < 10 ^ 60:=by decide
  omega
 generalize hg:ns.idxOf new.1=gi at eC mP q oth;refine⟨_,rfl,dy,rfl,⟨_,SqL.of l1⟩,zAy (xs:=lq.map λx=>V.ref x.1) (λi σ' H'=>∃(v5 v6:Option V),σ'=[some (.ref nl),some (.ref pl),some (.ref nw),some (.ref dy),some (.int (gi:Nat)),v5,v6,none]/\zAf H3 H'/\∀j,j < i->zBr (zBm ns bC (ds.getD j 0)) (zBm ns bC (ds.getD j 0)).length gi<=1000)
  ⟨none,none,by rw[← hg];rfl,zAf.refl _,λj hj=>absurd hj (wHd _)⟩ (λi σ' H' _ ⟨_,_,_,s',_⟩=>SqL.of (s' _ _ l1)) ?_ ?_⟩
 ·rintro i x σ' H4 hx ⟨v5,v6,rfl,s4,le⟩;rw[wG6] at hx;obtain⟨⟨a,w'⟩,ha,rfl⟩:=wIk hx;have hi:i < ds.length:=by rw[← l2];exact (wIi ha).1
  obtain⟨b1,b2,_⟩:=l3 i a w' _ ha (pS i hi);refine⟨a,_,rfl,SqT.of (s4 _ _ b1),rfl,_,_,rfl,_,_,rfl,rfl,?_⟩;obtain⟨rs,wa⟩:=zLA (K:=K) (b2.same s4);refine⟨_,rfl,nl,_,rfl,.inl (s4.seq kZ),_,rfl,ns.length,w',rs,_,by rw[wGX];rfl,wa,ok.g _,by omega,λkd H5 hkd s5 ek=>?_⟩;refine⟨_,rfl,kd,_,_,_,rfl,rfl,SqL.of ek,zAl eC,_,_,rfl,rfl,_,rfl,?_⟩;refine zCw (λcc=>?_) (λcc=>?_)
  ·have c':keeps (zBm ns bC (ds.getD i 0)) gi < 0:=wHm cc;have l5:=zEK (d60 i hi);refine⟨by bv_omega,_,rfl,_,⟨zO1 (d60 i hi),rfl⟩,by bv_omega,by bv_omega,?_⟩;exact mP ⟨ds.getD i 0,(iQ i hi).1,(iQ i hi).2,by unfold keeps at c';omega⟩ _ (s3.trans (s4.trans s5))
  have c':¬keeps (zBm ns bC (ds.getD i 0)) gi < 0:=wHz (wIl cc);refine⟨_,_,rfl,s4.trans s5,λj hj=>?_⟩;by_cases z:j=i
  ·rw[z];unfold keeps at c';omega
  exact le j ∅
 rintro σ' H4 ⟨v5,v6,rfl,s4,le⟩;rw[wGX,l2] at le;have gR:∀d,0<=d->d<=5000->zBr (zBm ns bC d) (zBm ns bC d).length gi<=1000:=λd h0 h1=>by obtain⟨i,a,b,g⟩:=D.cover h0 h1;have e:=(zEu (ns:=ns) (zHX ok.span D a b g)).2;rw[e];exact le i a
 have wyk:∀i,i < ds.length->WyOk ns.length (zBm ns bC (ds.getD i 0)):=λi hi=>ok.wy λx=>by
  by_cases z:x=gi
  ·rw[z];exact le i hi
  exact oth _ x z
 obtain⟨qN,qS⟩:=q gR;have wl:∀d,(zBm ns bC d).length<=800:=λd=>by unfold zBm;rw[wGX];exact wHe (wH7 _ _) ∅
 refine⟨_,rfl,dy,rfl,⟨_,SqL.of (s4 _ _ l1)⟩,zAy (xs:=lq.map λx=>V.ref x.1) (λi σ' H'=>∃(v5 v6 v7:Option V),σ'=[some (.ref nl),some (.ref pl),some (.ref nw),some (.ref dy),some (.int (gi:Nat)),v5,v6,v7]/\zAf H3 H'/\∀j,j < i->zBy ns bC (ds.getD j 0)=[])
  ⟨v5,v6,none,rfl,s4,λj hj=>absurd hj (wHd _)⟩ (λi σ' H' _ ⟨_,_,_,_,s',_⟩=>SqL.of (s' _ _ l1)) ?_ ?_⟩
 ·rintro i x σ' H5 hx ⟨v5,v6,v7,rfl,s5,em⟩;rw[wG6] at hx;obtain⟨⟨a,w'⟩,ha,rfl⟩:=wIk hx;have hi:i < ds.length:=by rw[← l2];exact (wIi ha).1
  obtain⟨b1,b2,_⟩:=l3 i a w' _ ha (pS i hi);refine⟨a,_,rfl,SqT.of (s5 _ _ b1),rfl,_,_,rfl,_,_,rfl,rfl,?_⟩;obtain⟨rs,wa⟩:=zLA (K:=K) (b2.same s5);refine⟨_,rfl,nl,_,rfl,.inl (s5.seq kZ),_,rfl,ns.length,w',rs,_,by rw[wGX];rfl,wa,wyk i hi,wl _,by omega,λfd f H6 hfd s6 ef hf=>?_⟩;have esh:plc (λj=>!f j) ns.length=zBy ns bC (ds.getD i 0):=by unfold zBy;refine zGI λj _=>?_;rw[zEv,← hf j];cases f j<;>simp
  rw[esh] at ef;have jb:=s5.trans s6;refine⟨_,rfl,_,.inl ⟨_,SqL.of ef,rfl⟩,?_⟩;by_cases z:zBy ns bC (ds.getD i 0)=[]
  ·rw[z];refine zCf ?_;refine⟨_,_,_,rfl,jb,λj hj=>?_⟩;by_cases y:j=i
   ·rw[y];exact z
   exact em j ∅
  have nz:(!((zBy ns bC (ds.getD i 0)).map V.int).isEmpty)=true:=by
   cases e:zBy ns bC (ds.getD i 0) with
   | nil=>exact absurd e z
   | cons a r=>rfl
  rw[nz];refine zGx ?_;refine⟨_,rfl,_,rfl,fd,rfl,⟨_,SqL.of ef⟩,λm hm=>?_⟩;have inr:∀j∈zBy ns bC (ds.getD i 0),∃k:Nat,k < ns.length/\j=(k:Int):=λj hj=>by obtain⟨k,hk,_,e⟩:=zBT.mp hj;exact⟨k,hk,e⟩
  have lsh:(zBy ns bC (ds.getD i 0)).length<=15:=wHe (zDG _ _) aP;refine zAr (ys:=(zBy ns bC (ds.getD i 0)).map V.int) (λj σ' H'=>∃(v:Option V),σ'=[v,some (.ref nl)]/\zAf H6 H'/\H' m=some (.lst (((zBy ns bC (ds.getD i 0)).take j).map λj=>V.str (ns.getD j.toNat Str.empty)))) ⟨none,rfl,zC hm _,zB⟩ ?_ ?_ ?_
  ·rintro j σ' H' hj ⟨v,rfl,s7,em7⟩;exact SqL.of (s7 _ _ ef)
  ·rintro j x σ' H' hx ⟨v,rfl,s7,em7⟩;rw[wG6] at hx;obtain⟨y,hy,rfl⟩:=wIk hx;obtain⟨k,hk,ey⟩:=inr y (wHA hy);have ek:ns[k]?=some (ns.getD k Str.empty):=by rw[wG4,wG0 hk];rfl
   refine⟨_,rfl,_,rfl,nl,_,_,.str (ns.getD k Str.empty),rfl,rfl,(jb.trans s7).seq kZ,by rw[ey];exact zDM (by rw[wG6,ek];rfl),_,em7,by rw[wGX,wHk];exact zAm ∅,_,rfl,zY s7 hm _,?_⟩;rw[zB,wHC,hy,ey];simp only[Option.toList_some,wG9,wHW,List.map_nil,wHn]
  rintro σ' H7 ⟨v,rfl,s7,em7⟩;rw[wGX,wHo] at em7;refine⟨zA8,λp hp=>?_⟩;have s8:=zC hp (.tup [V.int (ds.getD i 0),V.ref m]);have sA:=(s3.trans jb).trans (s7.trans s8);refine qS (ds.getD i 0) (iQ i hi).1 (iQ i hi).2 z (λd h0 h1=>?_) _ p m sA (((s3.trans jb).trans s7).free hp) ((s3.trans jb).free hm) zB (s8 _ _ em7);obtain⟨i',a',b',g'⟩:=D.cover h0 (by have:=(iQ i hi).2;omega);have e:=(zEu (ns:=ns) (zHX ok.span D a' b' g')).1;rw[e];refine em i' ?_;by_cases y:i' < i
  ·exact y
  by_cases y2:i'=i
  ·rw[y2] at b';omega
  have:=D.lt (i:=i) (j:=i') ∅ a';omega
 rintro σ' H5 ⟨v5,v6,v7,rfl,s5,em⟩;rw[wGX,l2] at em;refine qN (λd h0 h1=>?_) H5 (s3.trans s5);obtain⟨i,a,b,g⟩:=D.cover h0 h1;rw[(zEu (ns:=ns) (zHX ok.span D a b g)).1];exact em i a
inductive sp_ShutIn_UinitU (C:Addr) (vs:List V) (H:Hp) (Q:VK) (E:XK):Prop
 | mk (e p:Addr) (ys:List V) (d:Int):vs=[.ref e,.int d,.ref p]->(H e=some (zDd e (.ref C) none)/\H p=some (.lst ys)/\ys.length<=1000/\d.natAbs < 10 ^ 60/\
 ∀dx l,H dx=none->dx≠e->upd (upd H e (zDd e (.ref C) (some dx))) dx (XdN dx [("day",.int d)]) l=none->
  Q .non (upd (upd (upd (upd H e (zDd e (.ref C) (some dx))) dx (XdN dx [("day",.int d)])) l (.lst ys)) dx (XdN dx [("names",.ref l),("day",.int d)])))->sp_ShutIn_UinitU C vs H Q E
def zEf (T:Txt P K mg t):FnOk P w K mg base CX0 41 t.wAr t.wAE ["self","day","names"] (sp_ShutIn_UinitU t.wAa):=by
 refine T.wC8.ok zEe ⟨⟩ ();obtain⟨e,p,ys,d,rfl,he,hp,lz,d1,q⟩:=h;refine⟨_,(zD (zAn (zMh T.wFa rfl T.wCJ (zN (pv 0) (zBq (zBY (zDn (pv 1) zDo))) zE zA zFh)))
  (zD (zP5 (pv 0) (pv 1) rfl)
  (zH (zP5 (pv 0) (zCa (zDw K) rfl T.wCv PyProof.Rows.boot_list (zI (pv 2) zE zA)) rfl)))),?_⟩
 have ed:∀dx,dx≠e->(upd (upd H e (zDd e (.ref t.wAa) (some dx))) dx (XdN dx [("day",.int d)])) e=some (zDd e (.ref t.wAa) (some dx)):=λdx h=>by rw[zO (Ne.symm h),zB]
 have l1:=zEK d1;refine⟨_,rfl,?_⟩;refine⟨by bv_omega,_,rfl,_,⟨zO1 d1,rfl⟩,by bv_omega,by bv_omega,e,t.wAa,none,_,rfl,he,T.wER.ex,?_⟩;refine⟨_,rfl,_,rfl,e,t.wAa,rfl,T.wAH,.inl ⟨he,λdx eU aI=>?_⟩⟩;have pe:p≠e:=λz=>by rw[z,he] at hp;cases hp
 have pd:p≠dx:=λz=>by rw[z,eU] at hp;cases hp
 have aV:(upd (upd H e (zDd e (.ref t.wAa) (some dx))) dx (XdN dx [("day",.int d)])) p=some (.lst ys):=by rw[zO pd,zO pe];exact hp
 refine⟨_,rfl,p,ys,rfl,.inl (SqL.of aV),λl hl=>?_⟩;have ne:e≠l:=λz=>by rw[← z,ed dx aI] at hl;cases hl
 have nd:dx≠l:=λz=>by rw[← z,zB] at hl;cases hl
 refine⟨_,rfl,e,t.wAa,rfl,T.wBC,.inr ⟨dx,[("day",.int d)],?_,?_,?_,?_⟩⟩
 ·rw[zO ne];exact ed dx aI
 ·rw[zO nd,zB]
 ·show 1<=1000
  decide
 exact q dx l eU aI hl
structure NewOk (ns:List Str) (ps:List Pct) (new:Pct):Prop where
 ok:PsOk ns (ps++[new])
 oth:∀d x,x≠ns.idxOf new.1->zBr (zBm ns (ps++[new]) d) (zBm ns (ps++[new]) d).length x<=1000
def zJ1 (ns:List Str) (ps:List Pct) (new:Pct):Prop:=∃d,0<=d/\d<=5000/\1000 < zBr (zBm ns (ps++[new]) d) (zBm ns (ps++[new]) d).length (ns.idxOf new.1)
def zEc (ns:List Str) (ps:List Pct):Prop:=∀d,0<=d->d<=5000->zBy ns ps d=[]
theorem zJM {ns:List Str} {ps:List Pct} {d:Int}:(zBy ns ps d).length<=ns.length:=by unfold zBy;exact zDG _ _
def zDz (ns:List Str) (ps:List Pct) (d0:Int):Prop:=0<=d0/\d0<=5000/\zBy ns ps d0≠[]/\∀d,0<=d->d < d0->zBy ns ps d=[]
noncomputable def zG6 (ns:List Str) (ps:List Pct) (d0:Int):List V:=(zBy ns ps d0).map λj=>V.str (ns.getD j.toNat Str.empty)
def zJx (H0 H:Hp) (dx:Addr) (d0:Int) (xs:List V):Prop:=∃l,H0 l=none/\H dx=some (.xd [("names",.ref l),("day",.int d0)])/\H l=some (.lst xs)
def zJx.back {H1 H2 H3:Hp} {dx:Addr} {d0:Int} {xs:List V} (h:zJx H2 H3 dx d0 xs) (s:zAf H1 H2):zJx H1 H3 dx d0 xs:=let ⟨l,a,b,c⟩:=h;⟨l,s.free a,b,c⟩
inductive sp_Book_check_new (K:W.Frag) (t:Adr) (vs:List V) (H:Hp) (Q:VK) (E:XK):Prop
 | mk (b tl nw:Addr) (ds:List Deed) (new:Pct):vs=[.ref b,.ref nw]->(zAD H t.wAd b tl ds/\ds.length<=900/\(zL ds).length<=15/\(zV ds).length<=25/\H nw=some (.tup new.vs)/\zFF new.1/\NewOk (zL ds) (zV ds) new/\
 (zJ1 (zL ds) (zV ds) new->∀H',zAf H H'->E (.ref t.wAc) none H')/\
 (∀d0,¬zJ1 (zL ds) (zV ds) new->zDz (zL ds) (zV ds++[new]) d0->∀H' dx,zAf H H'->zJx H H' dx d0 (zG6 (zL ds) (zV ds++[new]) d0)->E (.ref t.wAa) (some dx) H')/\
 (¬zJ1 (zL ds) (zV ds) new->zEc (zL ds) (zV ds++[new])->80<=(zV ds).length->∀H',zAf H H'->E (.ref t.wAu) none H')/\
 (¬zJ1 (zL ds) (zV ds) new->zEc (zL ds) (zV ds++[new])->(zV ds).length < 80->∀H',zAf H H'->Q .non H'))->sp_Book_check_new K t vs H Q E
def zCc (T:Txt P K mg t):FnOk P w K mg base (CXx P w) 44 t.wAC t.wAD ["self","new"] (sp_Book_check_new K t):=by
 refine T.wCZ.okX zBX ⟨⟩ ();obtain⟨b,tl,nw,ds,new,rfl,hB,hz,aP,jg,bV,sn,ok,qT,qS,qF,qN⟩:=h;refine⟨_,(zD (zAE 2 zBX.nd (zAU ((zGQ T).mono ⋯) hr rfl T.wE1 T.wCE.kp T.wE0 .nil zCb (zZ (zBd (pv 0) T.wAf T.wAm ((zAS T).mono ⋯) hr T.wAl .nil zC9) (zBd (pv 0) T.wAf T.wAx ((zBs T).mono ⋯) hr T.wAw .nil zC9) (pv 1) zE zR zR zA)))
  (zD (zA4 (zAc zOs (pv 2) zKx (zAj _)) (zH (zKp T.wER ((zEf T).mono ⋯) hr T.wC9 rfl T.wC0 (zN (zAW K (pv 2) zG) (zAW K (pv 2) zG) zE zF zF))) zAd)
  (zH (zA4 (zAc zPM (zS (zAi K) rfl T.wAi wHr (zI (zBd (pv 0) T.wAf T.wAx ((zBs T).mono ⋯) hr T.wAw .nil zC9) zE zR)) (zA9 (v:=.int 80) rfl T.wCu.choose_spec ⟨_,rfl⟩) (zAj _)) (zH (zB7 T.wF1 rfl T.wEQ (zBq (zDn (zA9 (v:=.int 80) rfl T.wCu.choose_spec ⟨_,rfl⟩) (zBY zDo))))) zAd)))),?_⟩
 obtain⟨dx,qs,hb,ht,hq,hd⟩:=id hB;refine⟨_,rfl,b,dx,_,rfl,hb,rfl,b,tl,ds,rfl,hB,hz,λnl eA=>?_⟩;have s1:=zC eA (.lst ((zL ds).map V.str));have en:upd H nl (.lst ((zL ds).map V.str)) nl=some (.lst ((zL ds).map V.str)):=zB;have B1:=hB.same s1;generalize upd H nl (.lst ((zL ds).map V.str))=H1 at s1 en B1 ⊢;obtain⟨gY,nj,cW,_⟩:=id B1;refine⟨_,rfl,b,gY,_,rfl,cW,rfl,b,tl,ds,rfl,B1,hz,λpl H2 aK s2 T2=>?_⟩;have aR:=s1.trans s2;refine⟨_,rfl,nl,pl,nw,zL ds,zV ds,new,rfl,SqL.of (s2 _ _ en),aP,T2,by omega,aR _ _ bV,sn,ok.ok,ok.oth,λov H3 s3=>qT ov H3 (aR.trans s3),λgR=>?_⟩;have aH:¬zJ1 (zL ds) (zV ds) new:=λ⟨d,h0,h1,z⟩=>absurd (gR d h0 h1) ∅;refine⟨λaO H3 s3=>?_,λd0 h0 h1 z zf H3 p m s3 fp fm hp hm=>?_⟩
 rotate_left
 ·have cA:=aR.trans s3;refine⟨_,rfl,rfl,_,rfl,zGx ?_⟩;refine⟨_,rfl,p,_,0,_,rfl,rfl,SqT.of hp,rfl,_,rfl,p,_,1,_,rfl,rfl,SqT.of hp,rfl,(by show 2<=100;decide),λe he=>?_⟩;have me:m≠e:=λz=>by rw[z,he] at hm;cases hm
  have ll:((zBy (zL ds) (zV ds++[new]) d0).map λj=>V.str ((zL ds).getD j.toNat Str.empty)).length<=1000:=by rw[wGX];have:=zJM (ns:=zL ds) (ps:=zV ds++[new]) (d:=d0);omega
  refine⟨e,m,_,d0,rfl,zB,by rw[zO me];exact hm,ll,?_,λdx l eU aI hl=>⟨rfl,dx,_,aI,?_,zB,?_⟩⟩
  ·have:d0.natAbs<=5000:=by omega
   exact wHF this ⋯
  ·have le:l≠e:=λz=>by rw[z,zO (Ne.symm aI),zB] at hl;cases hl
   rw[zO (Ne.symm aI),zO (Ne.symm le),zO (Ne.symm aI),zB]
  have ld:l≠dx:=λz=>by rw[z,zB] at hl;cases hl
  have le:l≠e:=λz=>by rw[z,zO (Ne.symm aI),zB] at hl;cases hl
  refine qS d0 aH ⟨h0,h1,z,zf⟩ _ dx ?_ ⟨l,cA.free (by rw[zO ld,zO le,zO le] at hl;exact hl),zB,?_⟩
  ·intro a o ha;have h3:=cA a o ha;have ae:a≠e:=λz=>by rw[z,he] at h3;cases h3
   have ad:a≠dx:=λz=>by rw[zO aI] at eU;rw[z,eU] at h3;cases h3
   have al:a≠l:=λz=>by rw[zO ld,zO le,zO le] at hl;rw[z,hl] at h3;cases h3
   rw[zO ad,zHR ae,zO ad,zO al,zO ad,zO ae,zO ae];exact h3
  rw[zO ld,zHR le,zO ld,zB]
  rfl
 have cA:=aR.trans s3;refine⟨_,rfl,rfl,_,rfl,zCf ?_⟩;have B3:=hB.same cA;obtain⟨kg,fY,iL,_⟩:=id B3;refine⟨_,rfl,b,kg,_,rfl,iL,rfl,b,tl,ds,rfl,B3,hz,λl4 H4 hl4 s4 T4=>?_⟩;obtain⟨q4,g1,g2,_⟩:=T4;refine⟨l4,_,rfl,.inl (SqL.of g1),_,_,rfl,rfl,_,rfl,?_⟩;have ll:(q4.map V.ref).length=(zV ds).length:=by rw[wGX,g2,wGX]
 rw[ll];refine zCw (λd=>?_) (λd=>?_)
 ·have d':(80:Int)<=((zV ds).length:Nat):=wHm d;refine⟨_,⟨by decide,rfl⟩,by bv_omega,by bv_omega,by bv_omega,?_⟩;exact qF aH aO ∅ _ (cA.trans s4)
 have d':¬(80:Int)<=((zV ds).length:Nat):=wHz (wIl d);exact qN aH aO ∅ _ (cA.trans s4)
open Classical in
noncomputable def zJz (ns:List Str) (ps:List Pct) (g u:Str) (p f l:Int):Option Nat:=match zIv ns g u p f l with
 | some k=>some k
 | none=>if zJ1 ns ps (g,u,p,f,l) then some 6 else none
def zPu {ns:List Str} {ps:List Pct} {g u:Str} {p f l:Int} {k:Nat} (h:zIv ns g u p f l=some k):zJz ns ps g u p f l=some k:=by unfold zJz;rw[h]
theorem zPv {ns:List Str} {ps:List Pct} {g u:Str} {p f l:Int} (h:zIv ns g u p f l=none) (o:zJ1 ns ps (g,u,p,f,l)):zJz ns ps g u p f l=some 6:=by unfold zJz;rw[h];exact wG1 o
def zGB {ns:List Str} {ps:List Pct} {g u:Str} {p f l:Int} (h:zIv ns g u p f l=none) (o:¬zJ1 ns ps (g,u,p,f,l)):zJz ns ps g u p f l=none:=by unfold zJz;rw[h];exact wGZ o
def zQM (t:Adr):Nat->Addr
 | 2=>t.wAh
 | 3=>t.wAn
 | 4=>t.wAj
 | 5=>t.wAg
 | 6=>t.wAc
 | _=>t.wAu
def zJI {ns:List Str} {g u:Str} {p f l:Int} {k:Nat} (h:zIv ns g u p f l=some k):k=2∨k=3∨k=4∨k=5:=by
 unfold zIv at h
 split at h
 ·split at h
  ·split at h
   ·exact .inr (.inl (wG8 h).symm)
   split at h
   ·exact .inr (.inr (.inl (wG8 h).symm))
   split at h
   ·split at h
    ·split at h
     ·cases h
     exact .inr (.inr (.inr (wG8 h).symm))
    exact .inr (.inr (.inr (wG8 h).symm))
   exact .inr (.inr (.inr (wG8 h).symm))
  exact .inl (wG8 h).symm
 exact .inl (wG8 h).symm
def zNj {t:Adr} {k:Nat} (h:k=2∨k=3∨k=4∨k=5):zQM t k=zRn t k:=by rcases h with rfl | rfl | rfl | rfl<;>rfl
inductive sp_Book_pact (K:W.Frag) (t:Adr) (vs:List V) (H:Hp) (Q:VK) (E:XK):Prop
 | mk (b tl:Addr) (ds:List Deed) (g u:Str) (p f l:Int):vs=[.ref b,.str g,.str u,.int p,.int f,.int l]->(zAD H t.wAd b tl ds/\ds.length<=900/\(zL ds).length<=15/\(zV ds).length<=25/\zFF g/\zFF u/\
 (zIv (zL ds) g u p f l=none->NewOk (zL ds) (zV ds) (g,u,p,f,l))/\
 (∀H' k,zJz (zL ds) (zV ds) g u p f l=some k->zAf H H'->E (.ref (zQM t k)) none H')/\
 (∀d0 H' dx,zJz (zL ds) (zV ds) g u p f l=none->zDz (zL ds) (zV ds++[(g,u,p,f,l)]) d0->zAf H H'->zJx H H' dx d0 (zG6 (zL ds) (zV ds++[(g,u,p,f,l)]) d0)->E (.ref t.wAa) (some dx) H')/\
 (∀H',zJz (zL ds) (zV ds) g u p f l=none->zEc (zL ds) (zV ds++[(g,u,p,f,l)])->80<=(zV ds).length->zAf H H'->E (.ref t.wAu) none H')/\
 ∀H',zJz (zL ds) (zV ds) g u p f l=none->zEc (zL ds) (zV ds++[(g,u,p,f,l)])->(zV ds).length < 80->zFs tl H H'->zAD H' t.wAd b tl (ds++[.pact g u p f l])->Q .non H')->sp_Book_pact K t vs H Q E
def zDU (T:Txt P K mg t):FnOk P w K mg base (CXx P w) 45 t.wBq t.wBr ["self","giver","taker","part","first","last"] (sp_Book_pact K t):=by
 refine T.wE2.okX zGA ⟨⟩ ();obtain⟨b,tl,ds,g,u,p,f,l,rfl,hB,hz,aP,jg,sg,su,new,qe,qS,qF,q⟩:=h;refine⟨_,(zD (zAn (zAU ((zCP T).mono ⋯) hr rfl T.wB2 T.wA2.kp T.wB1 .nil zCb (zZ (zBd (pv 0) T.wAf T.wAm ((zAS T).mono ⋯) hr T.wAl .nil zC9) (pv 1) (pv 2) (zZ (pv 3) (pv 4) (pv 5) zE zA zA zA) zR zA zA)))
  (zD (zAn (zBP (pv 0) T.wAf T.wBh ((zCc T).mono ⋯) hr T.wBg .nil zCb (zI (zAR (zN (pv 1) (pv 2) (zZ (pv 3) (pv 4) (pv 5) zE zA zA zA) zA zA)) zE zAX)))
  (zH (zAn (zBv K wHv wHG wHJ zAx (zGJ (pv 0) rfl) (zI (zAR (zI zAF (zN (pv 1) (pv 2) (zZ (pv 3) (pv 4) (pv 5) zE zA zA zA) zA zA) zJ)) zE zAX)))))),?_⟩
 obtain⟨dx,qs,hb,ht,hq,hd⟩:=id hB;refine⟨_,rfl,b,dx,_,rfl,hb,rfl,b,tl,ds,rfl,hB,hz,λnl eA=>?_⟩;have s1:=zC eA (.lst ((zL ds).map V.str));have en:upd H nl (.lst ((zL ds).map V.str)) nl=some (.lst ((zL ds).map V.str)):=zB;have B1:=hB.same s1;generalize upd H nl (.lst ((zL ds).map V.str))=H1 at s1 en B1 ⊢;refine⟨_,rfl,_,rfl,_,rfl,_,rfl,_,rfl,nl,zL ds,g,u,p,f,l,rfl,SqL.of en,sg,su,λtn=>?_,λk tk=>by rw[← zNj (zJI tk)];exact qe H1 k (zPu tk) s1⟩;have aM:=new tn;obtain⟨gY,nj,cW,_⟩:=id B1;refine⟨_,rfl,b,gY,_,rfl,cW,rfl,_,rfl,_,rfl,_,rfl,_,rfl,_,rfl,szl,λnw bV=>?_⟩;have s2:=zC bV (.tup (Pct.vs (g,u,p,f,l)));have aR:=s1.trans s2;refine⟨b,tl,nw,ds,(g,u,p,f,l),rfl,B1.same s2,hz,aP,jg,zB,sg,aM,λov H3 s3=>qe H3 6 (zPv tn ov) (aR.trans s3),λd0 aH fs H3 dx s3 hd=>qS d0 H3 dx (zGB tn aH) fs (aR.trans s3) (hd.back aR),λaH aO c H3 s3=>qF H3 (zGB tn aH) aO c (aR.trans s3),λaH aO c H3 s3=>?_⟩;have cA:=aR.trans s3;obtain⟨kg,fY,iL,nK,kO,hd3⟩:=hB.same cA;refine⟨_,rfl,b,_,kg,_,_,rfl,iL,T.wAf,T.wAq,rfl,.inl ⟨rfl,_,SqL.of nK⟩,?_⟩;refine⟨_,rfl,_,rfl,_,rfl,_,rfl,_,rfl,szl,λp' dJ=>?_⟩;have s4:=zC dJ (.tup (Deed.pact g u p f l).vs);refine⟨tl,_,_,rfl,rfl,s4 _ _ nK,by rw[wGX,kO];exact zAm ∅,?_⟩;refine q _ (zGB tn aH) aO c ((zFs.of (cA.trans s4)).trans zFs.upd) ?_;exact zAD.snoc (s4 _ _ iL) (s4 _ _ nK) kO (λi a d e1 e2=>s4 _ _ (hd3 i a d e1 e2)) zB
inductive sp_Book_ways (K:W.Frag) (t:Adr) (vs:List V) (H:Hp) (Q:VK) (E:XK):Prop
 | mk (b tl:Addr) (ds:List Deed) (d:Int):vs=[.ref b,.int d]->(zAD H t.wAd b tl ds/\ds.length<=900/\(∀p∈zV ds,p.1∈zL ds/\p.2.1∈zL ds)/\
 (¬(0<=d/\d<=5000)->E (.ref t.wAg) none H)/\
 (0<=d/\d<=5000->∀l H',H l=none->zAf H H'->zAe H' l (((zV ds).filter (zBk d)).map (zJy (zL ds)))->Q (.ref l) H'))->sp_Book_ways K t vs H Q E
def zGW (T:Txt P K mg t):FnOk P w K mg base (CXx P w) 42 t.wBs t.wBt ["self","day"] (sp_Book_ways K t):=by
 refine T.wE3.okX zG9 ⟨⟩ ();obtain⟨b,tl,ds,d,rfl,hB,hz,gE,qe,q⟩:=h;refine⟨_,(zD (zAn (zAU ((zBM T).mono ⋯) hr rfl T.wAL T.wAA.kp T.wAK .nil zCb (zI (pv 1) zE zA)))
  (zH (zX (cal (zF3 T) hr T.wDR T.wCm T.wDQ (zZ (zBd (pv 0) T.wAf T.wAm ((zAS T).mono ⋯) hr T.wAl .nil zC9) (zBd (pv 0) T.wAf T.wAx ((zBs T).mono ⋯) hr T.wAw .nil zC9) (pv 1) zE zR zR zA))))),?_⟩
 refine⟨_,rfl,d,rfl,λc=>?_,λc=>qe c⟩;obtain⟨dx,qs,hb,ht,hq,hd⟩:=id hB;refine⟨_,rfl,b,dx,_,rfl,hb,rfl,b,tl,ds,rfl,hB,hz,λnl eA=>?_⟩;have s1:=zC eA (.lst ((zL ds).map V.str));have en:upd H nl (.lst ((zL ds).map V.str)) nl=some (.lst ((zL ds).map V.str)):=zB;have B1:=hB.same s1;generalize upd H nl (.lst ((zL ds).map V.str))=H1 at s1 en B1 ⊢;obtain⟨gY,nj,cW,_⟩:=id B1;refine⟨_,rfl,b,gY,_,rfl,cW,rfl,b,tl,ds,rfl,B1,hz,λpl H2 aK s2 T2=>?_⟩;exact⟨_,rfl,nl,pl,zL ds,zV ds,d,rfl,SqL.of (s2 _ _ en),T2,wHe (zGK _) hz,gE,λl H3 hl s3 T3=>q c l H3 ((s1.trans s2).free hl) ((s1.trans s2).trans s3) T3⟩
def zMT (n:Nat) (ws:Wys) (s0:Nat) (U W:Nat->Int):Prop:=∃X Y:Nat->Int,FrOk n X Y/\FrOk n U W/\(∀(x:Nat->Int) (l:Int),(∀i,i < n->x i*Y i=X i*l)↔Sol n (M0 n ws s0) x l)/\∀i,i < n->U i*(1000*Y i)=keeps ws i*X i*W i
inductive sp_Book_shares (K:W.Frag) (t:Adr) (vs:List V) (H:Hp) (Q:VK) (E:XK):Prop
 | mk (b tl:Addr) (ds:List Deed) (h:Str) (d:Int):vs=[.ref b,.str h,.int d]->(zAD H t.wAd b tl ds/\ds.length<=900/\zFF h/\(zL ds).length<=15/\PsOk (zL ds) (zV ds)/\(zV ds).length<=800/\
 (h∉zL ds->∀H',zAf H H'->E (.ref t.wAh) none H')/\
 (h∈zL ds->¬(0<=d/\d<=5000)->∀H',zAf H H'->E (.ref t.wAg) none H')/\
 (h∈zL ds->0<=d/\d<=5000->WyOk (zL ds).length (zBm (zL ds) (zV ds) d)/\zL8 (zL ds).length (zBm (zL ds) (zV ds) d)/\
  ∀(l:Addr) (q:Nat->Addr) (U W:Nat->Int) (H':Hp),H l=none->zAf H H'->FrAt H' l q (zL ds).length U W->zMT (zL ds).length (zBm (zL ds) (zV ds) d) ((zL ds).idxOf h) U W->Q (.ref l) H'))->sp_Book_shares K t vs H Q E
def zBS (T:Txt P K mg t):FnOk P w K mg base (CXx P w) 45 t.wAX t.wAY ["self","house","day"] (sp_Book_shares K t):=by
 refine T.wDY.okX zBN ⟨⟩ ();obtain⟨b,tl,ds,h,d,rfl,hB,hz,sn,aP,ok,p8,qu,qr,q⟩:=h;refine⟨_,(zD (zAE 3 zBN.nd (zBd (pv 0) T.wAf T.wAm ((zAS T).mono ⋯) hr T.wAl .nil zC9))
  (zD (zAE 4 zBN.nd (zAU ((zBE T).mono ⋯) hr rfl T.wAG T.wAy.kp T.wAF .nil zCb (zN (pv 3) (pv 1) zE zA zA)))
  (zH (zX (zAU ((zGS T).mono ⋯) hr rfl T.wAP T.wCY.kp T.wEv .nil zC9 (zZ (zS (zAi K) rfl T.wAi wHr (zI (pv 3) zE zA)) (zBP (pv 0) T.wAf T.wE5 ((zGW T).mono ⋯) hr T.wE4 .nil zCb (zI (pv 2) zE zA)) (pv 4) zE zR zR zA)))))),?_⟩
 obtain⟨dx,qs,hb,ht,hq,hd⟩:=id hB;refine⟨_,rfl,b,dx,_,rfl,hb,rfl,b,tl,ds,rfl,hB,hz,λnl eA=>?_⟩;have s1:=zC eA (.lst ((zL ds).map V.str));have en:upd H nl (.lst ((zL ds).map V.str)) nl=some (.lst ((zL ds).map V.str)):=zB;have B1:=hB.same s1;show zFu _ _ _ _ (upd H nl (.lst ((zL ds).map V.str)));generalize upd H nl (.lst ((zL ds).map V.str))=H1 at s1 en B1 ⊢;refine⟨_,rfl,_,rfl,nl,zL ds,h,rfl,SqL.of en,sn,λc=>?_,λc=>qu c H1 s1⟩;refine⟨_,rfl,nl,_,rfl,.inl (SqL.of en),?_⟩;obtain⟨gY,nj,cW,_⟩:=id B1;refine⟨_,rfl,b,gY,_,rfl,cW,rfl,_,rfl,b,tl,ds,d,rfl,B1,hz,ok.inn,λc2=>qr c c2 H1 s1,λc2 wl H2 iB s2 T2=>?_⟩;obtain⟨wo,op,qq⟩:=q c c2;obtain⟨rs,wa⟩:=zLA (K:=K) T2;have aR:=s1.trans s2;exact⟨_,rfl,(zL ds).length,(zL ds).idxOf h,wl,rs,_,by rw[wGX];rfl,wa,wo,op,List.idxOf_lt_length_iff.mpr c,aP,λl q X Y U W H3 hl s3 F x1 x2 x3 x4=>qq l q U W H3 (aR.free hl) (aR.trans s3) F ⟨X,Y,x1,x2,x3,x4⟩⟩
inductive sp_minus (K:W.Frag) (vs:List V) (H:Hp) (Q:VK) (E:XK):Prop
 | mk (p r:Addr) (x y z u:Int):vs=[.ref p,.ref r]->(SqT K H p [.int x,.int y]/\SqT K H r [.int z,.int u]/\IntMulOk x u/\IntMulOk z y/\IntMulOk y u/\y*u≠0/\∀(m:Addr) (a b:Int),H m=none->Low (x*u-z*y) (y*u) a b->Q (.ref m) (upd H m (.tup [.int a,.int b])))->sp_minus K vs H Q E
def zMp (T:Txt P K mg t):FnOk P w K mg base CX0 42 t.wDl t.wDm ["one","two"] (sp_minus K):=by refine T.wFb.ok zLV ⟨⟩ ();obtain⟨p,r,x,y,z,u,rfl,ex,ey,m1,m2,m3,h0,q⟩:=h;refine⟨_,(zH (zX (cal (zDq T) hr T.wBS T.wBf T.wBR (zN (zW zDT (zW zAV (zAW K (pv 0) zG) (zAW K (pv 1) zG)) (zW zAV (zAW K (pv 1) zG) (zAW K (pv 0) zG))) (zW zAV (zAW K (pv 0) zG) (zAW K (pv 1) zG)) zE zT zT)))),?_⟩;exact⟨_,rfl,p,_,_,_,rfl,rfl,ex,rfl,_,rfl,r,_,_,_,rfl,rfl,ey,rfl,_,_,rfl,rfl,m1,_,rfl,r,_,_,_,rfl,rfl,ey,rfl,_,rfl,p,_,_,_,rfl,rfl,ex,rfl,_,_,rfl,rfl,m2,_,_,rfl,rfl,_,rfl,p,_,_,_,rfl,rfl,ex,rfl,_,rfl,r,_,_,_,rfl,rfl,ey,rfl,_,_,rfl,rfl,m3,_,_,rfl,h0,q⟩
def zLF {H H':Hp} {pn nw:Addr} {q:List Addr} {yss:List (List V)} {ys:List V} (h2:q.length=yss.length) (h3:∀(i:Nat) (a:Addr) (ys:List V),q[i]?=some a->yss[i]?=some ys->H a=some (.tup ys)) (hn:H nw=some (.tup ys)) (s:zAf H H') (e:H' pn=some (.lst (q.map V.ref++[V.ref nw]))):zAe H' pn (yss++[ys]):=by
 refine⟨q++[nw],by rw[e,wG9];rfl,by rw[wG7,wG7,h2];rfl,λi a zs e1 e2=>?_⟩;by_cases cc:i < q.length
 ·rw[wHl cc] at e1;rw[wHl ∅] at e2;exact s _ _ (h3 i a zs e1 e2)
 rw[wHj ∅] at e1;rw[wHj ∅] at e2;have z:i-q.length=0:=by have:=(wIi e1).1;rw[wHM] at this;omega
 have z2:i-yss.length=0:=by omega
 rw[z] at e1;rw[z2] at e2;cases e1;cases e2;exact s _ _ hn
open Classical in
noncomputable def zOM (ns:List Str) (ps:List Pct) (h:Str) (d:Int) (g u:Str) (p f l:Int):Option Nat:=
 if h∈ns then (match zIv ns g u p f l with
  | some k=>some k
  | none=>if 0<=d/\d<=5000 then (if zJ1 ns ps (g,u,p,f,l) then some 6 else none) else some 5) else some 2
inductive sp_Book_change (K:W.Frag) (t:Adr) (vs:List V) (H:Hp) (Q:VK) (E:XK):Prop
 | mk (b tl:Addr) (ds:List Deed) (h:Str) (d:Int) (g u:Str) (p f l:Int):vs=[.ref b,.str h,.int d,.str g,.str u,.int p,.int f,.int l]->(zAD H t.wAd b tl ds/\ds.length<=900/\(zL ds).length<=15/\(zV ds).length<=25/\zFF h/\zFF g/\zFF u/\PsOk (zL ds) (zV ds)/\
 (zIv (zL ds) g u p f l=none->NewOk (zL ds) (zV ds) (g,u,p,f,l))/\
 (∀H' k,zOM (zL ds) (zV ds) h d g u p f l=some k->zAf H H'->E (.ref (zQM t k)) none H')/\
 (∀d0 H' dx,zOM (zL ds) (zV ds) h d g u p f l=none->zDz (zL ds) (zV ds++[(g,u,p,f,l)]) d0->zAf H H'->zJx H H' dx d0 (zG6 (zL ds) (zV ds++[(g,u,p,f,l)]) d0)->E (.ref t.wAa) (some dx) H')/\
 (∀H',zOM (zL ds) (zV ds) h d g u p f l=none->zEc (zL ds) (zV ds++[(g,u,p,f,l)])->80<=(zV ds).length->zAf H H'->E (.ref t.wAu) none H')/\
 (zOM (zL ds) (zV ds) h d g u p f l=none->zEc (zL ds) (zV ds++[(g,u,p,f,l)])->(zV ds).length < 80->
  (WyOk (zL ds).length (zBm (zL ds) (zV ds) d)/\zL8 (zL ds).length (zBm (zL ds) (zV ds) d))/\
  (WyOk (zL ds).length (zBm (zL ds) (zV ds++[(g,u,p,f,l)]) d)/\zL8 (zL ds).length (zBm (zL ds) (zV ds++[(g,u,p,f,l)]) d))/\
  ∀(l':Addr) (A B U W U' W':Nat->Int) (qa:Nat->Addr) (H':Hp),H l'=none->zAf H H'->FrAt H' l' qa (zL ds).length A B->zMT (zL ds).length (zBm (zL ds) (zV ds++[(g,u,p,f,l)]) d) ((zL ds).idxOf h) U W->zMT (zL ds).length (zBm (zL ds) (zV ds) d) ((zL ds).idxOf h) U' W'->(∀i,i < (zL ds).length->Low (U i*W' i-U' i*W i) (W i*W' i) (A i) (B i))->Q (.ref l') H'))->sp_Book_change K t vs H Q E
def zFm (T:Txt P K mg t):FnOk P w K mg base (CXx P w) 46 t.wAZ t.wA0 ["self","house","day","giver","taker","part","first","last"] (sp_Book_change K t):=by
 refine T.wDZ.okX zBc ⟨⟩ ();obtain⟨b,tl,ds,h,d,g,u,p,f,l,rfl,hB,hz,aP,jg,sh,sg,su,ok,new,qe,qS,qF,q⟩:=h;refine⟨_,(zD (zAE 8 zBc.nd (zBd (pv 0) T.wAf T.wAm ((zAS T).mono ⋯) hr T.wAl .nil zC9))
  (zD (zAE 9 zBc.nd (zAU ((zBE T).mono ⋯) hr rfl T.wAG T.wAy.kp T.wAF .nil zCb (zN (pv 8) (pv 1) zE zA zA)))
  (zD (zAn (zAU ((zCP T).mono ⋯) hr rfl T.wB2 T.wA2.kp T.wB1 .nil zCb (zZ (pv 8) (pv 3) (pv 4) (zZ (pv 5) (pv 6) (pv 7) zE zA zA zA) zA zA zA)))
  (zD (zAn (zAU ((zBM T).mono ⋯) hr rfl T.wAL T.wAA.kp T.wAK .nil zCb (zI (pv 2) zE zA)))
  (zD (zAE 10 zBc.nd (zAR (zN (pv 3) (pv 4) (zZ (pv 5) (pv 6) (pv 7) zE zA zA zA) zA zA)))
  (zD (zAn (zBP (pv 0) T.wAf T.wBh ((zCc T).mono ⋯) hr T.wBg .nil zCb (zI (pv 10) zE zA)))
  (zD (zAE 11 zBc.nd (zAU ((zGS T).mono ⋯) hr rfl T.wAP T.wCY.kp T.wEv .nil zC9 (zZ (zS (zAi K) rfl T.wAi wHr (zI (pv 8) zE zA)) (cal (zF3 T) hr T.wDR T.wCm T.wDQ (zZ (pv 8) (zW zBL (zBd (pv 0) T.wAf T.wAx ((zBs T).mono ⋯) hr T.wAw .nil zC9) (zAk (zI (pv 10) zE zA))) (pv 2) zE zA zT zA)) (pv 9) zE zR zR zA)))
  (zH (zX (zAq ["one","two"] [none,none] (by kernel_rfl) rfl (zI2 rfl T.wD5 (zN (pv 11) (zBP (pv 0) T.wAf T.wA4 ((zBS T).mono ⋯) hr T.wA3 .nil zCb (zN (pv 1) (pv 2) zE zA zA)) zE zA zR)) (λ_ _ _ _ _=>(zAw K (n:=2) rfl (zQ (zK (i:=0) ndB rfl (Or.inl rfl)) (zQ (zK (i:=1) ndB rfl (Or.inl rfl)) zAv)))) (λ_ _ _ _ _=>zAs) (λ_ _ _ _ _=>(cal (zMp T) hr T.wGs T.wFb T.wGr (zN (pv 0) (pv 1) zE zA zA))))))))))))),?_⟩
 unfold zOM at qe qS qF q;obtain⟨dx,qs,hb,ht,hq,hd⟩:=id hB;refine⟨_,rfl,b,dx,_,rfl,hb,rfl,b,tl,ds,rfl,hB,hz,λnl eA=>?_⟩;have s1:=zC eA (.lst ((zL ds).map V.str));have en:upd H nl (.lst ((zL ds).map V.str)) nl=some (.lst ((zL ds).map V.str)):=zB;have B1:=hB.same s1;show zFu _ _ _ _ (upd H nl (.lst ((zL ds).map V.str)));generalize upd H nl (.lst ((zL ds).map V.str))=H1 at s1 en B1 ⊢;refine⟨_,rfl,_,rfl,nl,zL ds,h,rfl,SqL.of en,sh,λc1=>?_,λc1=>qe H1 2 (by rw[wGZ c1]) s1⟩;simp only[wG1 c1] at q qF qS;refine⟨_,rfl,_,rfl,_,rfl,_,rfl,_,rfl,_,rfl,nl,zL ds,g,u,p,f,l,rfl,SqL.of en,sg,su,λtn=>?_,λk tk=>by rw[← zNj (zJI tk)];exact qe H1 k (by rw[wG1 c1,tk]) s1⟩;have aM:=new tn;refine⟨_,rfl,d,rfl,λc2=>?_,λc2=>qe H1 5 (by rw[wG1 c1,tn];exact wGZ c2) s1⟩;refine⟨_,rfl,_,rfl,_,rfl,_,rfl,_,rfl,szl,λnw bV=>?_⟩;have s2:=s1.trans (zC bV (.tup (Pct.vs (g,u,p,f,l))));have fh:upd H1 nw (.tup (Pct.vs (g,u,p,f,l))) nw=some (.tup (Pct.vs (g,u,p,f,l))):=zB;have iO:=zC bV (.tup (Pct.vs (g,u,p,f,l))) _ _ en;have B2:=hB.same s2;show zFu _ _ _ _ (upd H1 nw (.tup (Pct.vs (g,u,p,f,l))));generalize upd H1 nw (.tup (Pct.vs (g,u,p,f,l)))=H2 at s2 fh iO B2 ⊢;obtain⟨dx2,qs2,iM,_⟩:=id B2;refine⟨_,rfl,b,dx2,_,rfl,iM,rfl,_,rfl,b,tl,nw,ds,(g,u,p,f,l),rfl,B2,hz,aP,jg,fh,sg,aM,λov H3 s3=>qe H3 6 (by rw[wG1 c1,tn];exact (wG1 c2).trans (wG1 ov)) (s2.trans s3),λd0 aH fs H3 dx' s3 bY=>qS d0 H3 dx' (by rw[tn];exact (wG1 c2).trans (wGZ aH)) fs (s2.trans s3) (bY.back s2),λaH aO c H3 s3=>qF H3 (by rw[tn];exact (wG1 c2).trans (wGZ aH)) aO c (s2.trans s3),λaH aO c H3 s3=>?_⟩;obtain⟨⟨wo,op⟩,⟨dS,fz⟩,qq⟩:=q (by rw[tn];exact (wG1 c2).trans (wGZ aH)) aO c;have cA:=s2.trans s3;have iN:=s3 _ _ iO;have pJ:=s3 _ _ fh;have B3:=hB.same cA;obtain⟨kg,fY,iL,_⟩:=id B3;refine⟨_,rfl,nl,_,rfl,.inl (SqL.of iN),?_⟩;refine⟨_,rfl,_,rfl,b,kg,_,rfl,iL,rfl,b,tl,ds,rfl,B3,hz,λpl H4 aK s4 T4=>?_⟩;obtain⟨pq,p1,p2,p3⟩:=T4;refine⟨_,rfl,szl,λc0 oH=>?_⟩;have s5:=zC oH (.lst [V.ref nw]);have lpq:pq.length<=25:=by rw[p2,wGX];exact jg
 refine⟨pl,c0,_,_,rfl,rfl,s5 _ _ p1,zB,by rw[wGX];exact small (by show _+1<=_;omega),λpn nR=>?_⟩;have s6:=s5.trans (zC nR (.lst (pq.map V.ref++[V.ref nw])));have TN:=zLF (pn:=pn) p2 p3 (s4 _ _ pJ) s6 zB;have lm:=s6 _ _ (s4 _ _ iN);have kH:=(cA.trans s4).trans s6;have e1:(zV ds).map Pct.vs++[Pct.vs (g,u,p,f,l)]=(zV ds++[(g,u,p,f,l)]).map Pct.vs:=by rw[wG9];rfl
 rw[e1] at TN;refine⟨_,rfl,nl,pn,zL ds,_,d,rfl,SqL.of lm,TN,by rw[wG7];show _+1<=_;omega,aM.ok.inn,λwl H7 iB s7 T7=>?_⟩;obtain⟨rs,wa⟩:=zLA (K:=K) T7;have aD:=List.idxOf_lt_length_iff.mpr c1;refine⟨_,rfl,(zL ds).length,(zL ds).idxOf h,wl,rs,_,by rw[wGX];rfl,wa,dS,fz,aD,aP,λal qa X Y U W H8 hal s8 F8 x1 x2 x3 x4=>?_⟩;have s18:=(kH.trans s7).trans s8;have B8:=hB.same s18;obtain⟨kc,qs8,jR,_⟩:=id B8;refine⟨_,rfl,_,rfl,b,kc,_,rfl,jR,rfl,_,rfl,_,rfl,b,tl,ds,h,d,rfl,B8,hz,sh,aP,ok,by omega,λz=>absurd c1 z,λ_ z=>absurd c2 z,λ_ _=>⟨wo,op,λl2 q2 U' W' H9 eB s9 F9 S9=>?_⟩⟩;have qj:=F8.mono s9;obtain⟨X2,Y2,y1,y2,y3,y4⟩:=id S9;refine⟨al,l2,_,_,rfl,SqL.of qj.top,SqL.of F9.top,λc hc=>?_⟩;refine zGo (K:=K) (xs:=tab (zL ds).length λi=>V.ref (qa i)) (ys:=tab (zL ds).length λi=>V.ref (q2 i)) (by rw[zAa,zAa]) (λi σ' H'=>∃(v1 v2:Option V) (qf:Nat->Addr) (A B:Nat->Int),σ'=[v1,v2]/\zAf H9 H'/\H' c=some (.lst (tab i λk=>V.ref (qf k)))/\∀k,k < i->H' (qf k)=some (.tup [.int (A k),.int (B k)])/\Low (U k*W' k-U' k*W k) (W k*W' k) (A k) (B k))
  ⟨none,none,λ_=>c,λ_=>0,λ_=>0,rfl,zC hc _,zB,λk hk=>absurd hk (wHd _)⟩ (λj σ2 H2 _ ⟨_,_,_,_,_,_,s3,_⟩=>⟨SqL.of (s3 _ _ qj.top),SqL.of (s3 _ _ F9.top)⟩) ?_ ?_
 ·rintro i x y σ' H' T2 hx hy ⟨v1,v2,qf,A,B,rfl,cI,ec,hk⟩ eI;obtain⟨hi,rfl⟩:=zAN hx;obtain⟨_,rfl⟩:=zAN hy;have sT:=zC eI (.tup [.ref (qa i),.ref (q2 i)]);have dW:=cI.trans sT;have jZ:=sT _ _ ec;refine⟨T2,_,rfl,SqT.of zB,rfl,_,_,rfl,_,_,rfl,rfl,?_⟩;refine⟨_,rfl,_,rfl,qa i,q2 i,U i,W i,U' i,W' i,rfl,SqT.of (dW _ _ (qj.row i hi)),SqT.of (dW _ _ (F9.row i hi)),zA6 (x2.bx i hi) (y2.by_ i hi) ⋯,zA6 (y2.bx i hi) (x2.by_ i hi) ⋯,zA6 (x2.by_ i hi) (y2.by_ i hi) ⋯,by have:=wH3 (x2.pos i hi) (y2.pos i hi);omega,λpp a b' hp lw=>?_⟩;have aS:c≠pp:=zP jZ hp;refine⟨_,by rw[zO aS];exact jZ,by rw[zAa];exact zAB ∅,_,_,λk=>if k=i then pp else qf k,λk=>if k=i then a else A k,λk=>if k=i then b' else B k,rfl,zY (dW.trans (zC hp _)) hc _,?_,λk aZ=>?_⟩
  ·rw[zB];refine congrArg (λl=>some (HO.lst l)) ?_;rw[← zA5]
   congr 1
   ·exact zAz λk hk=>by show V.ref (qf k)=V.ref (if k=i then pp else qf k);rw[wGZ ∅]
   show [V.ref pp]=[V.ref (if i=i then pp else qf i)];rw[wG1 rfl]
  by_cases e:k=i
  ·subst e;simp only[↓reduceIte];exact⟨by rw[zO (Ne.symm aS)];exact zB,lw⟩
  simp only[wGZ e];obtain⟨a1,a2⟩:=hk k ∅;refine⟨?_,a2⟩;rw[zO (zBG a1 ec (by intro z;cases z))];exact zC hp _ _ _ (sT _ _ a1)
 rintro σ' H' ⟨v1,v2,qf,A,B,rfl,cI,ec,hk⟩;rw[zAa] at ec hk;have s19:=s18.trans s9;exact qq c A B U W U' W' qf H' (s19.free hc) (s19.trans cI) ⟨ec,λi hi=>(hk i hi).1⟩ ⟨X,Y,x1,x2,x3,x4⟩ S9 λi hi=>(hk i hi).2
inductive sp_call (K:W.Frag) (t:Adr) (vs:List V) (H:Hp) (Q:VK) (E:XK):Prop
 | mk (b tl rw:Addr) (ds:List Deed) (h:Str) (d:Int) (g u:Str) (p f l:Int):vs=[.ref b,.ref rw]->(zAD H t.wAd b tl ds/\
 H rw=some (.lst [.str "change",.str h,.int d,.str g,.str u,.int p,.int f,.int l])/\sp_Book_change K t [.ref b,.str h,.int d,.str g,.str u,.int p,.int f,.int l] H Q E)->sp_call K t vs H Q E
def zOt (T:Txt P K mg t):FnOk P w K mg base (CXx P w) 47 t.wEg t.wEh ["_law_book_here","_law_row"] (sp_call K t):=by refine T.wFU.okX zNW ⟨⟩ ();obtain⟨b,tl,rw,ds,h,d,g,u,p,f,l,rfl,hB,er,sp⟩:=h;refine⟨_,(zH (zX (zBP (pv 0) T.wAf T.wD1 ((zFm T).mono ⋯) hr T.wD0 .nil zCb (zI (zAo K (pv 1) zG) (zZ (zAo K (pv 1) zG) (zAo K (pv 1) zG) (zAo K (pv 1) zG) (zZ (zAo K (pv 1) zG) (zAo K (pv 1) zG) (zAo K (pv 1) zG) zE zF zF zF) zF zF zF) zF)))),?_⟩;obtain⟨dx,qs,hb,ht,hq,hd⟩:=id hB;have Sr:=SqL.of (K:=K) er;refine⟨_,rfl,b,dx,_,rfl,hb,rfl,_,rfl,rw,_,1,_,rfl,rfl,Sr,rfl,_,rfl,rw,_,2,_,rfl,rfl,Sr,rfl,_,rfl,rw,_,3,_,rfl,rfl,Sr,rfl,_,rfl,rw,_,4,_,rfl,rfl,Sr,rfl,_,rfl,rw,_,5,_,rfl,rfl,Sr,rfl,_,rfl,rw,_,6,_,rfl,rfl,Sr,rfl,_,rfl,rw,_,7,_,rfl,rfl,Sr,rfl,?_⟩;exact sp
structure ExW (K:W.Frag) (t:Adr) (C:Addr) (w:Nat):Prop where
 xk:ExcX K C
 fc:W.exmOne K (.ref C) (.ref t.wAz)=some true
 fv:W.kitOne K (.ref C) (.type "ValueError")=some true
 f0:W.kitOne K (.ref C) (.ref t.wAo)=some (decide (w=0))
 f1:W.kitOne K (.ref C) (.ref t.wAk)=some (decide (w=1))
 f2:W.kitOne K (.ref C) (.ref t.wAh)=some (decide (w=2))
 f3:W.kitOne K (.ref C) (.ref t.wAn)=some (decide (w=3))
 f4:W.kitOne K (.ref C) (.ref t.wAj)=some (decide (w=4))
 f5:W.kitOne K (.ref C) (.ref t.wAg)=some (decide (w=5))
 f6:W.kitOne K (.ref C) (.ref t.wAc)=some (decide (w=6))
 f7:W.kitOne K (.ref C) (.ref t.wAa)=some (decide (w=7))
 f8:W.kitOne K (.ref C) (.ref t.wAu)=some (decide (w=8))
 f9:W.kitOne K (.ref C) (.ref t.wAp)=some (decide (w=9))
 f10:W.kitOne K (.ref C) (.ref t.wAM)=some (decide (w=10))
noncomputable def wds:List Str:=[Str.ofString "bad name",Str.ofString "known house",Str.ofString "unknown house",Str.ofString "to itself",Str.ofString "days turned",Str.ofString "out of range",Str.ofString "too much",Str.ofString "shut in",Str.ofString "full",Str.ofString "nothing done",Str.ofString "unclear"]
noncomputable def zB1 (w:Nat):Str:=wds.getD w Str.empty
def zGk (w:Nat):List V:=[.bl (decide (w=0)),.bl (decide (w=1)),.bl (decide (w=2)),.bl (decide (w=3)),.bl (decide (w=4)),.bl (decide (w=5)),.bl (decide (w=6)),.bl (decide (w=7)),.bl (decide (w=8)),.bl (decide (w=9)),.bl (decide (w=10))]
theorem zOD {w i:Nat} (h:i < 11):atI (zGk w) (0+(i:Int))=some (.bl (decide (w=i))):=by
 refine zBb ∅ ?_;rw[show (0+(i:Int)).toNat=i by omega];rcases i with _ | _ | _ | _ | _ | _ | _ | _ | _ | _ | _ | i
 all_goals first | rfl | omega
def zOY {i:Nat} (h:i < 11):atI (wds.map V.str) (0+(i:Int))=some (.str (zB1 i)):=by
 refine zBb ∅ ?_;rw[show (0+(i:Int)).toNat=i by omega,wG6];unfold zB1;rw[wG4,wG0 (show i < wds.length from h)]
 rfl
def zNB {i:Nat} (h:i < 11):(zB1 i).length<=1000:=by
 have all:∀i:Fin 11,(zB1 i).length<=1000:=by nofun
 exact all ⟨i,h⟩
def zNK (K:W.Frag) (t:Adr):Addr->Sp:=λe vs H Q _=>∃(C:Addr) (w:Nat) (dd:Option Addr),vs=[.ref e]/\H e=some (zFG e (.ref C) dd)/\zD0 H dd/\ExW K t C w/\w < 11/\∀H',zAf H H'->Q (.str (zB1 w)) H'
def zK7 (T:Txt P K mg t):FnOkH P w K mg base 40 t.wEe t.wEf ["_law_e"] (zNK K t):=by
 refine T.wEJ.okH zCh (λe vs H Q E h=>?_) (λcdv he A outer s H vs Q E hr h=>?_)
 ·obtain⟨C,w,dd,rfl,_⟩:=h
  rfl
 obtain⟨C,w,dd,rfl,hx,hD,W,hw,q⟩:=h;refine⟨_,(zD (zBa (i:=1) zCh.nd rfl (Or.inr rfl) (zAk (zZ (zS zBe rfl T.wAb wHc (zN (pv 0) (zA9 (v:=.ref t.wAo) rfl T.wDT rfl) zE zA zA)) (zS zBe rfl T.wAb wHc (zN (pv 0) (zA9 (v:=.ref t.wAk) rfl T.wCp rfl) zE zA zA)) (zS zBe rfl T.wAb wHc (zN (pv 0) (zA9 (v:=.ref t.wAh) rfl T.wBB rfl) zE zA zA)) zE zR zR zR)))
  (zD (zBa (i:=1) zCh.nd rfl (Or.inr rfl) (zW zBL (pv 1) (zAk (zZ (zS zBe rfl T.wAb wHc (zN (pv 0) (zA9 (v:=.ref t.wAn) rfl T.wDh rfl) zE zA zA)) (zS zBe rfl T.wAb wHc (zN (pv 0) (zA9 (v:=.ref t.wAj) rfl T.wCq rfl) zE zA zA)) (zS zBe rfl T.wAb wHc (zN (pv 0) (zA9 (v:=.ref t.wAg) rfl T.wCr rfl) zE zA zA)) zE zR zR zR))))
  (zD (zBa (i:=1) zCh.nd rfl (Or.inr rfl) (zW zBL (pv 1) (zAk (zZ (zS zBe rfl T.wAb wHc (zN (pv 0) (zA9 (v:=.ref t.wAc) rfl T.wDU rfl) zE zA zA)) (zS zBe rfl T.wAb wHc (zN (pv 0) (zA9 (v:=.ref t.wAa) rfl T.wC0 rfl) zE zA zA)) (zS zBe rfl T.wAb wHc (zN (pv 0) (zA9 (v:=.ref t.wAu) rfl T.wEQ rfl) zE zA zA)) zE zR zR zR))))
  (zD (zBa (i:=1) zCh.nd rfl (Or.inr rfl) (zW zBL (pv 1) (zAk (zN (zS zBe rfl T.wAb wHc (zN (pv 0) (zA9 (v:=.ref t.wAp) rfl T.wD2 rfl) zE zA zA)) (zS zBe rfl T.wAb wHc (zN (pv 0) (zA9 (v:=.ref t.wAM) rfl T.wFZ rfl) zE zA zA)) zE zR zR))))
  (zD (zBa (i:=2) zCh.nd rfl (Or.inr rfl) (zAk (by with_reducible exact (zI zAF (zEH zE) zJ))))
  (zD (zBa (i:=2) zCh.nd rfl (Or.inr rfl) (zW zBL (pv 2) (zAk (by with_reducible exact (zEH zE)))))
  (zD (zMe ["_law_k","_law_words","_law_flags"] [none,some 2,some 1] (by kernel_rfl) hr.hd (zKu (e:=he) rfl T.wAe (zI zG zE zJ)) (λ_ _ _ _ _=>(zK (i:=0) ndB rfl (Or.inl rfl))) (λ_ _ _ _ _=>(zC8 (zAQ (zAo K (pv 2) (pv 0))))) (λ_ _ _ _ _=>(zAo K (pv 1) (pv 0))) (zK (i:=3) zCh.nd rfl (Or.inl rfl)))
  (zD (zAE 4 zCh.nd (zI5 (zCr zCA (zS (zAi K) rfl T.wAi wHr (zI (pv 3) zE zA)) zG (zAj _)) (zI3 (zS zBe rfl T.wAb wHc (zN (pv 0) (zBQ (v:=.ty "ValueError") rfl T.wEV zGt rfl) zE zA zA)))))
  (zH (zX (zAo K (zAk (zI zAF (zI (zOo F.plainAttrs_str F.slot_str_join F.type_str_join (zIA K) zAF (zI (pv 3) zE zA)) zE zR) zJ)) (zCa zHt rfl T.wFH PyProof.Rows.boot_int (zI (pv 4) zE zA))))))))))))),?_⟩
 have nn:∀c:Addr,vcl (.ref c)≠Value.none:=λc z=>nomatch z
 refine⟨_,rfl,he,C,dd,_,_,rfl,hx,hD,W.xk,nn _,W.f0,_,rfl,he,C,dd,_,_,rfl,hx,hD,W.xk,nn _,W.f1,_,rfl,he,C,dd,_,_,rfl,hx,hD,W.xk,nn _,W.f2,szl,λl1 h1=>?_⟩;have s1:=zC h1 (.lst [V.bl (decide (w=0)),V.bl (decide (w=1)),V.bl (decide (w=2))]);have e1:upd H l1 (.lst [V.bl (decide (w=0)),V.bl (decide (w=1)),V.bl (decide (w=2))]) l1=_:=zB;have x1:=s1 _ _ hx;generalize upd H l1 (.lst [V.bl (decide (w=0)),V.bl (decide (w=1)),V.bl (decide (w=2))])=H1 at s1 e1 x1 ⊢;refine⟨_,rfl,_,rfl,he,C,dd,_,_,rfl,x1,hD.same s1,W.xk,nn _,W.f3,_,rfl,he,C,dd,_,_,rfl,x1,hD.same s1,W.xk,nn _,W.f4,_,rfl,he,C,dd,_,_,rfl,x1,hD.same s1,W.xk,nn _,W.f5,szl,λl2 h2=>?_⟩;have s2:=zC h2 (.lst [V.bl (decide (w=3)),V.bl (decide (w=4)),V.bl (decide (w=5))]);refine⟨l1,l2,_,_,rfl,rfl,s2 _ _ e1,zB,szl,λl3 h3=>?_⟩;have s3:=s1.trans (s2.trans (zC h3 (.lst [V.bl (decide (w=0)),V.bl (decide (w=1)),V.bl (decide (w=2)),V.bl (decide (w=3)),V.bl (decide (w=4)),V.bl (decide (w=5))])));have e3:upd (upd H1 l2 (.lst [V.bl (decide (w=3)),V.bl (decide (w=4)),V.bl (decide (w=5))])) l3 (.lst [V.bl (decide (w=0)),V.bl (decide (w=1)),V.bl (decide (w=2)),V.bl (decide (w=3)),V.bl (decide (w=4)),V.bl (decide (w=5))]) l3=_:=zB;have x3:=s3 _ _ hx;show zFu _ _ _ _ (upd (upd H1 l2 (.lst [V.bl (decide (w=3)),V.bl (decide (w=4)),V.bl (decide (w=5))])) l3 (.lst [V.bl (decide (w=0)),V.bl (decide (w=1)),V.bl (decide (w=2)),V.bl (decide (w=3)),V.bl (decide (w=4)),V.bl (decide (w=5))]));generalize upd (upd H1 l2 (.lst [V.bl (decide (w=3)),V.bl (decide (w=4)),V.bl (decide (w=5))])) l3 (.lst [V.bl (decide (w=0)),V.bl (decide (w=1)),V.bl (decide (w=2)),V.bl (decide (w=3)),V.bl (decide (w=4)),V.bl (decide (w=5))])=H3 at s3 e3 x3 ⊢;refine⟨_,rfl,_,rfl,he,C,dd,_,_,rfl,x3,hD.same s3,W.xk,nn _,W.f6,_,rfl,he,C,dd,_,_,rfl,x3,hD.same s3,W.xk,nn _,W.f7,_,rfl,he,C,dd,_,_,rfl,x3,hD.same s3,W.xk,nn _,W.f8,szl,λl4 h4=>?_⟩;have s4:=zC h4 (.lst [V.bl (decide (w=6)),V.bl (decide (w=7)),V.bl (decide (w=8))]);refine⟨l3,l4,_,_,rfl,rfl,s4 _ _ e3,zB,szl,λl5 h5=>?_⟩;obtain⟨H5,hH5,s5,e5⟩:∃H5,H5=upd (upd H3 l4 (.lst [V.bl (decide (w=6)),V.bl (decide (w=7)),V.bl (decide (w=8))])) l5 (.lst ([V.bl (decide (w=0)),V.bl (decide (w=1)),V.bl (decide (w=2)),V.bl (decide (w=3)),V.bl (decide (w=4)),V.bl (decide (w=5))]++[V.bl (decide (w=6)),V.bl (decide (w=7)),V.bl (decide (w=8))]))/\zAf H H5/\H5 l5=some (.lst ([V.bl (decide (w=0)),V.bl (decide (w=1)),V.bl (decide (w=2)),V.bl (decide (w=3)),V.bl (decide (w=4)),V.bl (decide (w=5))]++[V.bl (decide (w=6)),V.bl (decide (w=7)),V.bl (decide (w=8))])):=⟨_,rfl,s3.trans (s4.trans (zC h5 _)),zB⟩;have x5:=s5 _ _ hx;show zFu _ _ _ _ (upd (upd H3 l4 _) l5 _);rw[← hH5];clear hH5;refine⟨_,rfl,_,rfl,he,C,dd,_,_,rfl,x5,hD.same s5,W.xk,nn _,W.f9,_,rfl,he,C,dd,_,_,rfl,x5,hD.same s5,W.xk,nn _,W.f10,zA8,λl6 h6=>?_⟩;have s6:=zC h6 (.lst [V.bl (decide (w=9)),V.bl (decide (w=10))]);refine⟨l5,l6,_,_,rfl,rfl,s6 _ _ e5,zB,szl,λfl h7=>?_⟩;obtain⟨H7,hH7,s7,e7⟩:∃H7,H7=upd (upd H5 l6 (.lst [V.bl (decide (w=9)),V.bl (decide (w=10))])) fl (.lst (zGk w))/\zAf H H7/\H7 fl=some (.lst (zGk w)):=⟨_,rfl,s5.trans (s6.trans (zC h7 _)),zB⟩;show zFu _ _ _ _ (upd (upd H5 l6 _) fl (.lst (zGk w)));rw[← hH7];clear hH7;refine⟨szl,λl8 h8=>?_⟩;refine⟨_,rfl,szl,λl9 h9=>?_⟩;have s8:=zC h8 (.lst [V.str "bad name",V.str "known house",V.str "unknown house",V.str "to itself",V.str "days turned",V.str "out of range"]);have s9:=zC h9 (.lst [V.str "too much",V.str "shut in",V.str "full",V.str "nothing done",V.str "unclear"]);refine⟨l8,l9,_,_,rfl,rfl,s9 _ _ zB,zB,szl,λwl h10=>?_⟩;have sA:=s8.trans (s9.trans (zC h10 (.lst (wds.map V.str))));have eW:upd (upd (upd H7 l8 (.lst [V.str "bad name",V.str "known house",V.str "unknown house",V.str "to itself",V.str "days turned",V.str "out of range"])) l9 (.lst [V.str "too much",V.str "shut in",V.str "full",V.str "nothing done",V.str "unclear"])) wl (.lst (wds.map V.str)) wl=_:=zB;have eF:=sA _ _ e7;have sB:=s7.trans sA;show zFu _ _ _ _ (upd (upd (upd H7 l8 _) l9 _) wl (.lst (wds.map V.str)));generalize upd (upd (upd H7 l8 (.lst [V.str "bad name",V.str "known house",V.str "unknown house",V.str "to itself",V.str "days turned",V.str "out of range"])) l9 (.lst [V.str "too much",V.str "shut in",V.str "full",V.str "nothing done",V.str "unclear"])) wl (.lst (wds.map V.str))=HB at eW eF sB ⊢;have xB:=sB _ _ hx;refine⟨11,rfl,by decide,by decide,λfo hfo=>?_⟩;have sC:∀o,zAf HB (upd HB fo o):=λo=>zC hfo o;refine zIo (λi σ' H'=>∃(v:Option V),σ'=[v,some (.ref wl),some (.ref fl)]/\H'=upd HB fo (.lst ((if w < i then [zB1 w] else []).map V.str))) ⟨none,rfl,rfl⟩ ?_ ?_ ?_
 ·rintro σ' H' ⟨v,rfl,rfl⟩;exact⟨_,_,sC _ _ _ xB⟩
 ·rintro i σ' H' hi ⟨v,rfl,rfl⟩;have aC:i < 11:=hi;refine⟨_,rfl,_,rfl,fl,_,_,_,rfl,rfl,SqL.of (sC _ _ _ eF),zOD aC,_,rfl,?_⟩;refine zCw (λc=>?_) (λc=>?_)
  ·have c':w=i:=wHm c;refine⟨_,rfl,_,rfl,wl,_,_,_,rfl,rfl,SqL.of (sC _ _ _ eW),zOY aC,_,zB,?_,_,rfl,?_⟩
   ·rw[wGX];exact zAm (by split<;>simp)
   rw[zBx,wGZ (show ¬w < i by omega),wG1 (show w < i+1 by omega),c']
   rfl
  have c':¬w=i:=wHz (wIl c);refine⟨_,rfl,?_⟩;by_cases d:w < i
  ·rw[wG1 d,wG1 (show w < i+1 by omega)]
  rw[wGZ d,wGZ (show ¬w < i+1 by omega)]
 rintro σ' H' ⟨v,rfl,rfl⟩;rw[wG1 (show w < (11:Int).toNat from hw)];have eo:upd HB fo (.lst ([zB1 w].map V.str)) fo=some (.lst ([zB1 w].map V.str)):=zB;have xC:=sC (.lst ([zB1 w].map V.str)) _ _ xB;have sD:=sB.trans (sC (.lst ([zB1 w].map V.str)));generalize upd HB fo (.lst ([zB1 w].map V.str))=HD at eo xC sD ⊢;refine⟨_,rfl,fo,_,rfl,.inl (SqL.of eo),rfl,_,rfl,zGx ?_⟩;refine⟨_,rfl,he,C,dd,_,_,rfl,xC,hD.same sD,W.xk,(λz=>nomatch z),W.fv,?_⟩;refine⟨rfl,_,rfl,_,fo,[zB1 w],rfl,rfl,SqL.of eo,?_,zA8,λl10 ow=>?_⟩
 ·have:=zNB hw;show (zB1 w).length+0+1*_<=_;have:(Str.ofString "").length=0:=rfl;omega
 have sE:=zC ow (.lst [V.str "odd",V.str (zB1 w)]);exact⟨_,rfl,.inr ⟨_,rfl,l10,_,1,_,rfl,rfl,SqL.of zB,rfl,q _ (sD.trans sE)⟩⟩
def zMZ (K:W.Frag) (t:Adr) (spc:Sp):Sp:=λvs H Q _=>vs.length=2/\∀(H0:Hp) (Q':VK) (E':XK),zAf H H0->
 (∀v H',(∀l,H' l=none->Q (.ref l) (upd H' l (.lst [.str "answer",v])))->Q' v H')->
 (∀cls dd H',(∃(C:Addr) (k:Nat),cls=.ref C/\ExW K t C k/\W.exmOne K (.ref C) (.ref t.wAa)=some false/\k < 11/\zD0 H' dd/\∀l H2,zAf H' H2->H' l=none->H2 l=some (.lst [.str "refused",.str (zB1 k)])->Q (.ref l) H2)->E' cls dd H')->
 (∀dx p d H',H' dx=some (.xd [("names",.ref p),("day",.int d)])->(∀l H2,zAf H' H2->H' l=none->H2 l=some (.lst [.str "refused",.str "shut in",.int d,.ref p])->Q (.ref l) H2)->E' (.ref t.wAa) (some dx) H')->spc vs H0 Q' E'
def zPc {vs:List V} (h:vs.length=2):∃x y,vs=[x,y]:=by
 match vs,h with
 | [x,y],_=>exact⟨x,y,rfl⟩
def zNn (T:Txt P K mg t):FnOk P w K mg base CX0 48 t.wFl t.wFm ["_law_book_here","_law_row"] (zMZ K t (sp_call K t)):=by
 refine T.wFA.ok zFz (λvs H Q E h=>?_) ()
 ·exact h.1
 obtain⟨hl,hc⟩:=h;obtain⟨x,y,rfl⟩:=zPc hl;refine⟨_,(zD (zAE 2 zFz.nd (zAk (zI zAF (zI zKx zE zJ) zJ)))
  (zD (zOj (i:=3) zFz.nd rfl rfl rfl T.wC0 rfl T.wCJ (zMd (zOi (i:=2) zFz.nd rfl (Or.inl rfl) (zOm (zI6 (zPD zAF) (zI6 (zMg ((zOt T).mono ⋯) hr rfl T.wGM T.wFU.kp T.wGL .nil (zN (pv 0) (pv 1) zE zA zA)) zOp zR) zJ)))) (λhe=>(zH (zAE 2 zFz.nd (zAk (zI zAF (zZ (zI4 ((zK7 T).mono ⋯) (RoomH.of hr) rfl T.wFT T.wEJ.kp T.wFS (zI (pv 3) zE zA)) (zKw (pv 3) rfl) (zKw (pv 3) rfl) zE zR zCN zCN) zJ))))) (λhe=>(zH (zAE 2 zFz.nd (zAk (zI zAF (zI (zI4 ((zK7 T).mono ⋯) (RoomH.of hr) rfl T.wFT T.wEJ.kp T.wFS (zI (pv 3) zE zA)) zE zR) zJ))))))
  (zH (zX (pv 2))))),?_⟩
 refine⟨zA8,λl0 h0=>?_⟩;refine⟨_,rfl,_,rfl,?_⟩;dsimp only [zJJ];refine hc _ _ _ (zC h0 _) (λv H' hq=>?_) (λcls dd H' hx=>?_) λdx p d H' hd hq=>?_
 ·exact⟨zA8,λp hp=>⟨_,rfl,hq p hp⟩⟩
 ·obtain⟨C,k,rfl,W,ns,hk,hD,q⟩:=hx;refine .inr ⟨ns,W.fc,λe he=>?_⟩;have s1:=zC he (zFG e (.ref C) dd);refine⟨_,rfl,C,k,dd,rfl,zB,hD.same s1,W,hk,λH2 s2=>?_⟩;refine⟨zA8,λp hp=>⟨_,rfl,q p _ ((s1.trans s2).trans (zC hp _)) ((s1.trans s2).free hp) zB⟩⟩
 refine .inl ⟨T.wDi,λe he=>?_⟩;have s1:=zC he (zFG e (.ref t.wAa) (some dx));have W:ExW K t t.wAa 7:=⟨T.wC3,T.wCt,T.wB8,T.wC4,T.wB5,T.wBE,T.wCB,T.wB6,T.wB7,T.wC5,T.wDj,T.wD3,T.wBX,T.wC6⟩;have e1:upd H' e (zFG e (.ref t.wAa) (some dx)) e=some (zFG e (.ref t.wAa) (some dx)):=zB;refine⟨_,rfl,t.wAa,7,some dx,rfl,e1,λdx' z=>⟨_,by cases z;exact s1 _ _ hd⟩,W,by decide,λH2 s2=>?_⟩;have s3:=s1.trans s2;have e2:=s2 _ _ e1;have d2:=s3 _ _ hd;refine⟨_,rfl,e,t.wAa,dx,_,.int d,rfl,e2,d2,T.wC3,T.wAH.hd,T.wAH.no,rfl,?_⟩;refine⟨_,rfl,e,t.wAa,dx,_,.ref p,rfl,e2,d2,T.wC3,T.wAH.hd,T.wBC.no,rfl,?_⟩;refine⟨szl,λl hl=>⟨_,rfl,hq l _ (s3.trans (zC hl _)) (s3.free hl) zB⟩⟩
def nws:List Str:=[Str.ofString "pact",Str.ofString "loss",Str.ofString "house",Str.ofString "back",Str.ofString "none",Str.ofString "deeds",Str.ofString "done",Str.ofString "shut",Str.ofString "change",Str.ofString "coins",Str.ofString "paper",Str.ofString "shares",Str.ofString "borne",Str.ofString "rounds",Str.ofString "refused"]
def nmL (d:Int) (k:Nat):List Nat:=
 if d%8=2 then (nws.getD k Str.empty).cps.toList
 else if d%8 < 2 then List.replicate (1+k%5) 113++[97+(17+k / 5)]
 else (List.replicate (d / 208%8).toNat (97+(d / 13312%26).toNat)).take (min (d / 1664%8) (d / 208%8)).toNat++[97+(((k:Int)*7+d / 8)%26).toNat]++(List.replicate (d / 208%8).toNat (97+(d / 13312%26).toNat)).drop (min (d / 1664%8) (d / 208%8)).toNat
def zQN:∀k:Fin 15,zIN (nws.getD k Str.empty):=by nofun
def zQO (d:Int) (h:0<=d) (k:Nat) (hk:k < 15):zIN (tx (nmL d k)):=by
 unfold nmL;by_cases c:d%8=2
 ·rw[wG1 c,zI8];exact zQN ⟨k,hk⟩
 rw[wGZ c];by_cases e:d%8 < 2
 ·rw[wG1 e];refine⟨λx hx=>?_,?_⟩
  ·rw[zEr] at hx;rcases wIm hx with z | z
   ·rw[List.eq_of_mem_replicate z];omega
   rw[wIj z];omega
  rw[zCM,wG7,wH6,wHM];omega
 rw[wGZ e];have b1:=zBw (x:=d / 208) (m:=8) (n:=8) ⋯ ⋯;have b2:=zBw (x:=d / 13312) (m:=26) (n:=26) ⋯ ⋯;have b3:=zBw (x:=(k:Int)*7+d / 8) (m:=26) (n:=26) ⋯ ⋯;refine⟨λx hx=>?_,?_⟩
 ·rw[zEr] at hx;rcases wIm hx with z | z
  ·rcases wIm z with z | z
   ·rw[List.eq_of_mem_replicate (List.mem_of_mem_take z)];omega
   rw[wIj z];omega
  rw[List.eq_of_mem_replicate (List.mem_of_mem_drop z)];omega
 rw[zCM,wG7,wG7,wHM,wHk,wHP,wH6];omega
def zPR:∀i j:Fin 15,nws.getD i Str.empty=nws.getD j Str.empty->i=j:=by nofun
def zPS (d:Int) {i j:Nat} (hi:i < 15) (hj:j < 15) (h:nmL d i=nmL d j):i=j:=by
 unfold nmL at h;by_cases c:d%8=2
 ·rw[wG1 c,wG1 c] at h;have:=zPR ⟨i,hi⟩ ⟨j,hj⟩ (by rw[← zI8 (nws.getD i Str.empty),h,zI8]);exact Fin.mk.inj this
 rw[wGZ c,wGZ c] at h;by_cases e:d%8 < 2
 ·rw[wG1 e,wG1 e] at h;have l:=congrArg List.length h;rw[wG7,wG7,wH6,wH6,wHM,wHM] at l;have g:=congrArg List.getLast? h;rw[List.getLast?_append,List.getLast?_append] at g;simp at g;omega
 rw[wGZ e,wGZ e] at h;rw[wHD,wHD] at h;have h2:=List.append_cancel_left h;have h3:=(List.cons.inj h2).1;have b1:=zBw (x:=(i:Int)*7+d / 8) (m:=26) (n:=26) ⋯ ⋯;have b2:=zBw (x:=(j:Int)*7+d / 8) (m:=26) (n:=26) ⋯ ⋯;omega
def zKR {n:Int} (h0:0<=n) (h:n < 26):atI ((Str.ofString "abcdefghijklmnopqrstuvwxyz").cps.toList) n=some (97+n.toNat):=by
 have e:(Str.ofString "abcdefghijklmnopqrstuvwxyz").cps.toList=(List.range 26).map (97 + ·):=by nofun
 rw[e];exact zMS h0 (by rw[wG6,List.getElem?_range ∅];rfl)
def zKg (c r:Nat):(List.replicate r (⟨#[c]⟩:Str).cps.toList).flatten=List.replicate r c:=by
 rw[show (⟨#[c]⟩:Str).cps.toList=[c] from rfl]
 induction r with
 | zero=>rfl
 | succ r ih=>rw[wHV,wIb,ih,wHV];rfl
inductive sp_names (K:W.Frag) (vs:List V) (H:Hp) (Q:VK) (E:XK):Prop
 | mk (d:Int) (n:Nat):vs=[.int d,.int (n:Nat)]->(0<=d/\n<=15/\
 ∀l H' (ns:List Str),H l=none->zAf H H'->H' l=some (.lst (ns.map V.str))->ns.length=n->(∀x∈ns,zIN x)->ns.Nodup->Q (.ref l) H')->sp_names K vs H Q E
def zJj:∃(L1 L2:Expr) (c0:Nat) (p0 q0 r0 p1 q1 p2 q2 p3 q3:Pos),(∀X:Cx,PE X L1 (zPl (zA0 (tC (.str "pact")) (zA0 (tC (.str "loss")) (zA0 (tC (.str "house")) (zA0 (tC (.str "back")) (zA0 (tC (.str "none")) (zA0 (tC (.str "deeds")) (zA0 (tC (.str "done")) (zA0 (tC (.str "shut")) (zA0 (tC (.str "change")) (zA0 (tC (.str "coins")) zJJ))))))))))))/\(∀X:Cx,PE X L2 (zPl (zA0 (tC (.str "paper")) (zA0 (tC (.str "shares")) (zA0 (tC (.str "borne")) (zA0 (tC (.str "rounds")) (zA0 (tC (.str "refused")) zJJ)))))))/\(∀tg ln env,swapsWith L1 tg ln env=pure false)/\
  zBf zE7=.Assign [.Name "_law_letters" p0] (.Constant (.str "abcdefghijklmnopqrstuvwxyz") c0 q0) r0::.Assign [.Name "_law_words" p1] L1 q1::.Assign [.Name "_law_words" p2] (.BinOp (.Name "_law_words" p3) .Add L2 q3) q2::(zBf zE7).drop 3:=by
 refine⟨_,_,_,_,_,_,_,_,_,_,_,_,?_,?_,?_,rfl⟩
 ·intro X
  with_reducible exact zOn
 ·intro X
  with_reducible exact zPH
 intro tg ln env
 rfl
def zMo (T:Txt P K mg t):FnOk P w K mg base CX0 40 t.wDt t.wDu ["_law_draw","_law_count"] (sp_names K):=by
 refine T.wFf.ok zAY ⟨⟩ ();obtain⟨d,n,rfl,d0,aP,q⟩:=h;obtain⟨L1,L2,c0,p0',q0,r0,p1,q1,p2,q2,p3,q3,h1,h2,w1,eb⟩:=zJj;rw[eb];refine⟨_,(zD (zAE 2 zAY.nd zAF)
  (zD (zBa (i:=3) zAY.nd rfl (Or.inl rfl) (h1 _) (w1 _ _ _))
  (zD (zAE 3 zAY.nd (zW zBL (pv 3) (h2 _)))
  (zD (zAE 4 zAY.nd (zAk zE))
  (zD (zAp PassesOwn.never rfl (zAh rfl T.wAe (zI (pv 1) zE zA)) (zK (i:=5) zAY.nd rfl (Or.inl rfl)) (zD (zAE 6 zAY.nd (zKy zKT (pv 2) (zW zAt (zW zBj (zW zGO (pv 5) zG) (zW zB5 (pv 0) zG)) zG) (λ_ _=>rfl)))
  (zD (zAE 7 zAY.nd (zW zAt (zW zB5 (pv 0) zG) zG))
  (zD (zAE 8 zAY.nd (zS (zHo rfl) rfl T.wFJ PyProof.Rows.boot_min (zN (zW zAt (zW zB5 (pv 0) zG) zG) (pv 7) zE zT zA)))
  (zD (zAE 9 zAY.nd (zW zF2 (zKy zKT (pv 2) (zW zAt (zW zB5 (pv 0) zG) zG) (λ_ _=>rfl)) (pv 7)))
  (zD (zAE 10 zAY.nd (zW zDI (zW zDI (zBK zNa (pv 9) zED (zBC (pv 8))) (pv 6)) (zBK zNa (pv 9) (zBC (pv 8)) zED)))
  (zD (zGG (zA4 (zAc zGP (zW zAt (pv 0) zG) zG (zAj _)) (zH (zAE 10 zAY.nd (zW zDI (zW zF2 zAF (zW zBj zG (zW zAt (pv 5) zG))) (zKy zKT (pv 2) (zW zBj zG (zW zB5 (pv 5) zG)) (λ_ _=>rfl))))) zAd))
  (zD (zGG (zA4 (zAc zCA (zW zAt (pv 0) zG) zG (zAj _)) (zH (zAE 10 zAY.nd (zAo K (pv 3) (pv 5)))) zAd))
  (zH (zAn (zBv K wHv wHG wHJ zAx (pv 4) (zI (pv 10) zE zA))))))))))))
  (zH (zX (pv 4)))))))),?_⟩
 refine⟨szl,λl1 h1=>?_⟩;refine⟨_,rfl,szl,λl2 h2=>?_⟩;have s1:=zC h1 (.lst [V.str "pact",V.str "loss",V.str "house",V.str "back",V.str "none",V.str "deeds",V.str "done",V.str "shut",V.str "change",V.str "coins"]);have s2:=zC h2 (.lst [V.str "paper",V.str "shares",V.str "borne",V.str "rounds",V.str "refused"]);refine⟨l1,l2,_,_,rfl,rfl,s2 _ _ zB,zB,szl,λwl h3=>?_⟩;obtain⟨H3,hH3,s3,e3⟩:∃H3,H3=upd (upd (upd H l1 (.lst [V.str "pact",V.str "loss",V.str "house",V.str "back",V.str "none",V.str "deeds",V.str "done",V.str "shut",V.str "change",V.str "coins"])) l2 (.lst [V.str "paper",V.str "shares",V.str "borne",V.str "rounds",V.str "refused"])) wl (.lst (nws.map V.str))/\zAf H H3/\H3 wl=some (.lst (nws.map V.str)):=⟨_,rfl,s1.trans (s2.trans (zC h3 _)),zB⟩;show zFu _ _ _ _ (upd (upd (upd H l1 _) l2 _) wl (.lst (nws.map V.str)));rw[← hH3];clear hH3 s1 s2 h3;refine⟨szl,λml hm=>?_⟩;have s4:=zC hm (.lst []);have hm0:H ml=none:=s3.free hm;have wml:wl≠ml:=zP e3 hm;refine⟨_,rfl,(n:Nat),rfl,by omega,by omega,zA1 (n:=((n:Nat):Int).toNat) (λi σ' H'=>∃(x1 x2 x3 x4 x5 x6:Option V),σ'=[some (.int d),some (.int (n:Nat)),some (.str "abcdefghijklmnopqrstuvwxyz"),some (.ref wl),some (.ref ml),x1,x2,x3,x4,x5,x6]/\zAf H H'/\H' wl=some (.lst (nws.map V.str))/\H' ml=some (.lst (((List.range i).map λk=>tx (nmL d k)).map V.str)))
  ⟨none,none,none,none,none,none,rfl,s3.trans s4,s4 _ _ e3,zB⟩ ?_ ?_⟩
 ·rintro i σ' H' hi ⟨x1,x2,x3,x4,x5,x6,rfl,s',ew,em⟩;have aC:i < 15:=by omega
  have b1:=zBw (x:=d / 208) (m:=8) (n:=8) ⋯ ⋯;have b0:=zBw (x:=d / 1664) (m:=8) (n:=8) ⋯ ⋯;have b2:=zBw (x:=d / 13312) (m:=26) (n:=26) ⋯ ⋯;have b3:=zBw (x:=(0+(i:Int))*7+d / 8) (m:=26) (n:=26) ⋯ ⋯;refine⟨_,rfl,_,rfl,_,_,rfl,rfl,.inr ⟨by decide,by decide⟩,_,rfl,_,_,rfl,rfl,⟨by decide,by decide⟩,_,_,rfl,rfl,_,_,rfl,rfl,(by show (0:Int) < 26;decide),_,_,_,rfl,rfl,by nofun,zKR b3.1 ∅,?_⟩;refine⟨_,rfl,_,_,rfl,rfl,⟨by decide,by decide⟩,_,_,rfl,rfl,(by show (0:Int) < 8;decide),?_⟩;refine⟨_,rfl,_,_,rfl,rfl,⟨by decide,by decide⟩,_,_,rfl,rfl,(by show (0:Int) < 8;decide),_,rfl,_,_,rfl,?_⟩;have emin:(if d / 208%8 < d / 1664%8 then d / 208%8 else d / 1664%8)=min (d / 1664%8) (d / 208%8):=by
   by_cases z:d / 208%8 < d / 1664%8
   ·rw[wG1 z];omega
   rw[wGZ z];omega
  refine⟨_,rfl,_,rfl,_,_,rfl,rfl,⟨by decide,by decide⟩,_,_,rfl,rfl,(by show (0:Int) < 26;decide),_,_,_,rfl,rfl,by nofun,zKR b2.1 ∅,_,rfl,_,_,rfl,rfl,?_,?_,(show 1<=1000 by decide),?_⟩
  ·show 0<=d / 208%8;omega
  ·show d / 208%8<=1000;omega
  have er:=zKg (97+(d / 13312%26).toNat) (d / 208%8).toNat;show zJr 9 (V.str (tx (List.replicate (d / 208%8).toNat (⟨#[97+(d / 13312%26).toNat]⟩:Str).cps.toList).flatten)) _ _ _;rw[er];obtain⟨st,bT⟩:∃st,st=List.replicate (d / 208%8).toNat (97+(d / 13312%26).toNat):=⟨_,rfl⟩;rw[← bT];have ls:st.length<=8:=by rw[bT,wH6];omega
  have sl:(tx st).length<=sizeLine:=by rw[zCM];exact small ∅
  have c0:0<=(if d / 208%8 < d / 1664%8 then d / 208%8 else d / 1664%8):=by rw[emin];omega
  refine⟨_,rfl,_,rfl,_,rfl,tx st,rfl,sl,.inl ⟨rfl,_,rfl,c0,?_⟩⟩;rw[zEr];refine⟨_,rfl,_,_,rfl,rfl,?_,?_⟩
  ·show (tx _).length+1<=_;rw[zCM,wHk];exact small ∅
  refine⟨_,rfl,_,rfl,_,rfl,tx st,rfl,sl,.inr ⟨_,rfl,rfl,c0,?_⟩⟩;rw[zEr];have e1:∀l:List Nat,∀c:Nat,tx l++(⟨#[c]⟩:Str)=tx (l++[c]):=λl c=>zJB _ [c];rw[e1];refine⟨_,_,rfl,rfl,?_,?_⟩
  ·rw[zCM,zCM,wG7,wHk,wHP];exact small (by show _+1+_<=_;omega)
  rw[zJB];show zQC _ _ _ _;rw[emin];refine⟨λσ' H2=>∃(x1 x2 x3 x4 x5:Option V) (nm:List Nat),σ'=[some (.int d),some (.int (n:Nat)),some (.str "abcdefghijklmnopqrstuvwxyz"),some (.ref wl),some (.ref ml),some (.int (0+(i:Int))),x1,x2,x3,x4,some (.str (tx nm))]/\H2=H'/\(d%8≠2->nm=nmL d i),?_,?_⟩
  ·refine⟨_,rfl,_,_,rfl,rfl,(by show (0:Int) < 8;decide),_,_,rfl,rfl,_,rfl,?_⟩;refine zCw (λc=>?_) (λc=>?_)
   ·have c':d%8 < 2:=wHm c;refine⟨_,rfl,_,_,rfl,rfl,(by show (0:Int) < 5;decide),_,_,rfl,rfl,_,_,rfl,rfl,?_,?_,(by nofun),?_⟩
    ·show 0<=1+(0+(i:Int))%5;omega
    ·show 1+(0+(i:Int))%5<=1000;omega
    refine⟨_,rfl,_,rfl,_,_,rfl,rfl,⟨by decide,by decide⟩,_,_,rfl,rfl,_,_,_,rfl,rfl,by nofun,zKR (by show 0<=17+(0+(i:Int)) / 5;omega) (by show 17+(0+(i:Int)) / 5 < 26;omega),?_⟩;have eq1:(List.replicate (1+(0+(i:Int))%5).toNat (Str.ofString "q").cps.toList).flatten=List.replicate (1+i%5) 113:=by rw[show (1+(0+(i:Int))%5).toNat=1+i%5 by omega];exact zKg 113 _
    refine⟨_,_,rfl,rfl,?_,?_⟩
    ·show (tx (List.replicate (1+(0+(i:Int))%5).toNat (Str.ofString "q").cps.toList).flatten).length+1<=_;rw[eq1,zCM,wH6];exact small ∅
    refine⟨some (.str (⟨#[97+(((0+(i:Int))*7+d / 8)%26).toNat]⟩:Str)),some (.int (d / 208%8)),some (.int (min (d / 1664%8) (d / 208%8))),some (.str (tx st)),none,List.replicate (1+i%5) 113++[97+(17+i / 5)],?_,rfl,λz=>?_⟩
    ·show [_,_,_,_,_,_,_,_,_,_,some (V.str (tx (List.replicate (1+(0+(i:Int))%5).toNat (Str.ofString "q").cps.toList).flatten++(⟨#[97+(17+(0+(i:Int)) / 5).toNat]⟩:Str)))]=_;rw[eq1,e1,show (17+(0+(i:Int)) / 5).toNat=17+i / 5 by omega]
    unfold nmL;rw[wGZ z,wG1 c']
   have c':¬d%8 < 2:=wHz (wIl c);refine⟨_,_,_,_,none,_,rfl,rfl,λz=>?_⟩;unfold nmL;rw[wGZ z,wGZ c',bT,Int.zero_add]
  rintro σ' H2 ⟨y1,y2,y3,y4,y5,nm,rfl,rfl,en⟩;refine⟨λσ' H3=>∃(x1 x2 x3 x4 x5:Option V),σ'=[some (.int d),some (.int (n:Nat)),some (.str "abcdefghijklmnopqrstuvwxyz"),some (.ref wl),some (.ref ml),some (.int (0+(i:Int))),x1,x2,x3,x4,some (.str (tx (nmL d i)))]/\H3=H2,?_,?_⟩
  ·refine⟨_,rfl,_,_,rfl,rfl,(by show (0:Int) < 8;decide),rfl,_,rfl,?_⟩;refine zCw (λc=>?_) (λc=>?_)
   ·have c':d%8=2:=V.int.inj (wHm c);have gN:atI (nws.map V.str) (0+(i:Int))=some (.str (tx (nmL d i))):=by
     refine zBb ∅ ?_;rw[show (0+(i:Int)).toNat=i by omega,wG6,wG0 (show i < nws.length from aC)];unfold nmL;rw[wG1 c',zI8,wG4,wG0 (show i < nws.length from aC)]
     rfl
    exact⟨_,rfl,_,rfl,wl,_,_,_,rfl,rfl,SqL.of ew,gN,_,_,_,_,none,rfl,rfl⟩
   have c':¬d%8=2:=λz=>c (wHB (congrArg V.int z));rw[← en c'];exact⟨_,_,_,_,none,rfl,rfl⟩
  rintro σ' H3' ⟨z1,z2,z3,z4,z5,rfl,rfl⟩;refine⟨_,rfl,.inl ⟨rfl,_,SqL.of em⟩,_,rfl,ml,_,_,rfl,rfl,em,by rw[wGX,wGX,wIh];exact zAm ∅,?_⟩;refine⟨_,_,_,_,_,_,rfl,zY s' hm0 _,by rw[zO wml];exact ew,?_⟩;rw[zB,List.range_succ,wG9,wG9];rfl
 rintro σ' H' ⟨x1,x2,x3,x4,x5,x6,rfl,s',ew,em⟩;rw[show ((n:Nat):Int).toNat=n by omega] at em;refine⟨_,rfl,q ml H' _ hm0 s' em (by rw[wGX,wIh]) (λx hx=>?_) ?_⟩
 ·obtain⟨k,hk,rfl⟩:=List.mem_map.mp hx;exact zQO d d0 k (by have:=List.mem_range.mp hk;omega)
 refine List.pairwise_map.mpr (List.Pairwise.imp_of_mem (λ{a b} ha hb ne e=>ne ?_) (List.nodup_range (n:=n)));exact zPS d (by have:=List.mem_range.mp ha;omega) (by have:=List.mem_range.mp hb;omega) (zPe e)
inductive sp_refused (K:W.Frag) (vs:List V) (H:Hp) (Q:VK) (E:XK):Prop
 | mk (l:Addr) (w:Str) (r:List V):vs=[.ref l,.str w]->(SqL K H l (.str "refused"::.str w::r)/\Q (.bl true) H)->sp_refused K vs H Q E
def zJh (T:Txt P K mg t):FnOk P w K mg base CX0 40 t.wCh t.wCi ["_law_told","_law_word_here"] (sp_refused K):=by refine T.wDS.ok zJa ⟨⟩ ();obtain⟨l,w,r,rfl,hS,q⟩:=h;refine⟨_,(zH (zX (zI5 (zCr zCA (zAo K (pv 0) zG) zAF (zAj _)) (zI3 (zCr zCA (zAo K (pv 0) zG) (pv 1) (zAj _)))))),?_⟩;refine⟨_,rfl,l,_,0,_,rfl,rfl,hS,zBb ⋯ rfl,rfl,_,rfl,zNq rfl ?_⟩;refine⟨_,rfl,l,_,1,_,rfl,rfl,hS,zBb ⋯ rfl,_,rfl,rfl,?_⟩;rw[wHB rfl];exact q
def zLJ (K:W.Frag):Sp:=λvs H Q _=>(∃(i:Int),vs=[.int i]/\Q (.bl true) H)∨∃(z:Str),vs=[.str z]/\Q (.bl false) H
def zGa (T:Txt P K mg t):FnOk P w K mg base CX0 40 t.wDx t.wDy ["_law_found"] (zLJ K):=by
 refine T.wCw.ok zLT (λvs H Q E h=>?_) ()
 ·rcases h with ⟨i,rfl,_⟩ | ⟨i,rfl,_⟩<;>rfl
 refine⟨_,(zH (zX (zI5 (zS (zAC K) rfl T.wAb wHc (zN (pv 0) (zBQ (v:=.ty "int") rfl T.wFH PyProof.Rows.boot_int rfl) zE zA zA)) (zI3 (zPG (zS (zAC K) rfl T.wAb wHc (zN (pv 0) (zBQ (v:=.ty "bool") rfl T.wGP PyProof.Rows.boot_bool rfl) zE zA zA))))))),?_⟩;rcases h with ⟨i,rfl,q⟩ | ⟨z,rfl,q⟩
 ·refine⟨_,rfl,_,_,_,_,rfl,.int _,rfl,_,rfl,zGx ?_⟩;exact⟨_,rfl,_,_,_,_,rfl,.int _,rfl,_,rfl,q⟩
 exact⟨_,rfl,_,_,_,_,rfl,.str _,rfl,_,rfl,zCf q⟩
inductive sp_tuples (K:W.Frag) (vs:List V) (H:Hp) (Q:VK) (E:XK):Prop
 | mk (p r:Addr) (yss:List (List V)):vs=[.ref p,.ref r]->(zAe H p yss/\zAe H r yss/\yss.length<=900/\(∀ys∈yss,ys.length<=900/\∀y∈ys,(∃i,y=.int i)∨∃z,y=.str z)/\Q (.bl true) H)->sp_tuples K vs H Q E
def zK8 (T:Txt P K mg t):FnOk P w K mg base CX0 41 t.wCU t.wCV ["_law_found","_law_due_here"] (sp_tuples K):=by
 refine T.wEO.ok zEx ⟨⟩ ();obtain⟨p,r,yss,rfl,⟨ps,hp,lp,ip⟩,⟨rs,hr',lr,ir⟩,hl,hy,q⟩:=h;refine⟨_,(zD (zA4 (PW.pt (zEA (zAZ (zAQ (zS (zAC K) rfl T.wAb wHc (zN (pv 0) (zBQ (v:=.ty "list") rfl T.wCv PyProof.Rows.boot_list rfl) zE zA zA)))) (zCO (zAc zDH (zS (zAi K) rfl T.wAi wHr (zI (pv 0) zE zA)) (zS (zAi K) rfl T.wAi wHr (zI (pv 1) zE zA)) (zAj _))))) (zH (zX zBu)) zAd)
  (zD (zAp PassesOwn.never rfl (zAh rfl T.wAe (zI (zS (zAi K) rfl T.wAi wHr (zI (pv 1) zE zA)) zE zR)) (zK (i:=2) zEx.nd rfl (Or.inl rfl)) (zD (zA4 (PW.pt (zEA (zAZ (zAQ (zS (zAC K) rfl T.wAb wHc (zN (zAo K (pv 0) (pv 2)) (zBQ (v:=.ty "tuple") rfl T.wFi PyProof.Rows.boot_tuple rfl) zE zF zA)))) (zCO (zAc zDH (zS (zAi K) rfl T.wAi wHr (zI (zAo K (pv 0) (pv 2)) zE zF)) (zS (zAi K) rfl T.wAi wHr (zI (zAo K (pv 1) (pv 2)) zE zF)) (zAj _))))) (zH (zX zBu)) zAd)
  (zH (zAp PassesOwn.never rfl (zAh rfl T.wAe (zI (zS (zAi K) rfl T.wAi wHr (zI (zAo K (pv 1) (pv 2)) zE zF)) zE zR)) (zK (i:=3) zEx.nd rfl (Or.inl rfl)) (zD (zA4 (PW.pt (zEB (zAZ (zAQ (cal (zGa T) hr T.wDH T.wCw T.wDG (zI (zAW K (zAo K (pv 0) (pv 2)) (pv 3)) zE zF)))) (zDE (zAZ (zAQ (zS (zAC K) rfl T.wAb wHc (zN (zAW K (zAo K (pv 0) (pv 2)) (pv 3)) (zBQ (v:=.ty "str") rfl T.wFK PyProof.Rows.boot_str rfl) zE zF zA))))))) (zH (zX zBu)) zAd)
  (zH (zA4 (zAc zDH (zAW K (zAo K (pv 0) (pv 2)) (pv 3)) (zAW K (zAo K (pv 1) (pv 2)) (pv 3)) (zAj _)) (zH (zX zBu)) zAd)))))))
  (zH (zX zBu)))),?_⟩
 have Sp:=SqL.of (K:=K) hp;have Sr:=SqL.of (K:=K) hr';have lpr:(ps.map V.ref).length=(rs.map V.ref).length:=by rw[wGX,wGX,lp,lr]
 have lr2:(rs.map V.ref).length=yss.length:=by rw[wGX,lr]
 refine⟨_,rfl,_,_,_,_,rfl,.lst hp,rfl,_,rfl,zCf ?_⟩;refine⟨_,rfl,p,_,rfl,.inl Sp,_,rfl,r,_,rfl,.inl Sr,rfl,_,rfl,zDK (by rw[lpr]) ?_⟩;refine⟨_,rfl,r,_,rfl,.inl Sr,(((rs.map V.ref).length:Nat):Int),rfl,by omega,by omega,zA1 (n:=((((rs.map V.ref).length:Nat):Int)).toNat) (λi σ' H'=>∃v w,σ'=[some (.ref p),some (.ref r),v,w]/\H'=H) ⟨none,none,rfl,rfl⟩ ?_ ?_⟩
 ·rintro i σ' H' hi ⟨v,w,rfl,rfl⟩;have bA:i < yss.length:=by omega
  have hg:yss[i]?=some yss[i]:=wG0 bA;obtain⟨a,ha⟩:∃a,ps[i]?=some a:=⟨_,wG0 ∅⟩;obtain⟨b,hb⟩:∃b,rs[i]?=some b:=⟨_,wG0 ∅⟩;obtain⟨ly,hy⟩:=hy yss[i] (wHs bA);have ea:=ip i a _ ha hg;have eb:=ir i b _ hb hg;generalize yss[i]=ys at ea eb ly hy;have cD:atI (ps.map V.ref) (0+(i:Int))=some (.ref a):=zBb ∅ (by rw[show (0+(i:Int)).toNat=i by omega,wG6,ha];rfl);have eV:atI (rs.map V.ref) (0+(i:Int))=some (.ref b):=zBb ∅ (by rw[show (0+(i:Int)).toNat=i by omega,wG6,hb];rfl);have xa:=SqT.of (K:=K) ea;have xb:=SqT.of (K:=K) eb;refine⟨_,rfl,_,rfl,p,_,_,_,rfl,rfl,Sp,cD,_,_,_,_,rfl,.tup ea,rfl,_,rfl,zCf ?_⟩;refine⟨_,rfl,_,rfl,p,_,_,_,rfl,rfl,Sp,cD,a,_,rfl,.inr xa,_,rfl,_,rfl,r,_,_,_,rfl,rfl,Sr,eV,b,_,rfl,.inr xb,rfl,_,rfl,zDK rfl ?_⟩;refine⟨_,rfl,_,rfl,r,_,_,_,rfl,rfl,Sr,eV,b,_,rfl,.inr xb,_,rfl,by omega,by omega,zA1 (n:=(((ys.length:Nat):Int)).toNat) (λj σ' H2=>∃w,σ'=[some (.ref p),some (.ref r),some (.int (0+(i:Int))),w]/\H2=H') ⟨w,rfl,rfl⟩ ?_ ?_⟩
  ·rintro j σ' H2 hj ⟨w,rfl,rfl⟩;have iH:j < ys.length:=by omega
   have o9:ys[j]?=some ys[j]:=wG0 iH;have bI:atI ys (0+(j:Int))=some ys[j]:=zBb ∅ (by rw[show (0+(j:Int)).toNat=j by omega,o9]);rcases hy ys[j] (wHs iH) with ⟨x,ey⟩ | ⟨z,ey⟩
   ·rw[ey] at bI;refine⟨_,rfl,_,rfl,p,_,_,_,rfl,rfl,Sp,cD,_,rfl,a,_,_,_,rfl,rfl,xa,bI,.inl ⟨_,rfl,_,rfl,zCf ?_⟩⟩;refine zCf ?_;refine⟨_,rfl,_,rfl,p,_,_,_,rfl,rfl,Sp,cD,_,rfl,a,_,_,_,rfl,rfl,xa,bI,_,rfl,_,rfl,r,_,_,_,rfl,rfl,Sr,eV,_,rfl,b,_,_,_,rfl,rfl,xb,bI,rfl,_,rfl,zDK rfl ?_⟩;exact⟨_,rfl,rfl⟩
   rw[ey] at bI;refine⟨_,rfl,_,rfl,p,_,_,_,rfl,rfl,Sp,cD,_,rfl,a,_,_,_,rfl,rfl,xa,bI,.inr ⟨_,rfl,_,rfl,zGx ?_⟩⟩;refine⟨_,rfl,_,rfl,p,_,_,_,rfl,rfl,Sp,cD,_,rfl,a,_,_,_,rfl,rfl,xa,bI,_,_,_,_,rfl,.str _,rfl,_,rfl,zCf ?_⟩;refine⟨_,rfl,_,rfl,p,_,_,_,rfl,rfl,Sp,cD,_,rfl,a,_,_,_,rfl,rfl,xa,bI,_,rfl,_,rfl,r,_,_,_,rfl,rfl,Sr,eV,_,rfl,b,_,_,_,rfl,rfl,xb,bI,rfl,_,rfl,zDK rfl ?_⟩;exact⟨_,rfl,rfl⟩
  rintro σ' H2 ⟨w,rfl,rfl⟩;exact⟨_,_,rfl,rfl⟩
 rintro σ' H' ⟨v,w,rfl,rfl⟩;exact q
abbrev W5:=Int × Int × Int × Int × Int
def W5.vs (p:W5):List V:=[.int p.1,.int p.2.1,.int p.2.2.1,.int p.2.2.2.1,.int p.2.2.2.2]
def pOf (ns:List Str) (p:W5):Pct:=(ns.getD p.1.toNat Str.empty,ns.getD p.2.1.toNat Str.empty,p.2.2.1,p.2.2.2.1,p.2.2.2.2)
structure OkN (n:Nat) (p:W5):Prop where
 g:0<=p.1/\p.1 < n
 u:0<=p.2.1/\p.2.1 < n
 ne:p.1≠p.2.1
 pt:1<=p.2.2.1/\p.2.2.1<=1000
 sp:0<=p.2.2.2.1/\p.2.2.2.1<=p.2.2.2.2/\p.2.2.2.2<=5000
def on5 (d:Int) (p:W5):Bool:=decide (p.2.2.2.1<=d) && decide (d<=p.2.2.2.2)
def zCs {d:Int} {p:W5}:on5 d p=true↔p.2.2.2.1<=d/\d<=p.2.2.2.2:=by unfold on5;rw[wHw,decide_eq_true_eq,decide_eq_true_eq]
def w3 (p:W5):Nat × Nat × Int:=(p.1.toNat,p.2.1.toNat,p.2.2.1)
def wyL (ws:List W5) (d:Int):Wys:=(ws.filter (on5 d)).map w3
def zDX {ns:List Str} (nd:ns.Nodup) {k:Nat} (h:k < ns.length):ns.idxOf (ns.getD k Str.empty)=k:=by
 have e:ns.getD k Str.empty=ns[k]:=by rw[wG4,wG0 h];rfl
 rw[e];have hm:ns[k]∈ns:=wHs h;have h1:=List.getElem_idxOf (List.idxOf_lt_length_iff.mpr hm);exact (List.getElem_inj (h₀:=List.idxOf_lt_length_iff.mpr hm) (h₁:=h) nd).mp h1
def zAM {ns:List Str} (nd:ns.Nodup) {ws:List W5} (ok:∀p∈ws,OkN ns.length p) (d:Int):zBm ns (ws.map (pOf ns)) d=wyL ws d:=by unfold zBm wyL;rw[List.filter_map,List.map_map];have e:zBk d∘pOf ns=on5 d:=rfl;rw[e];refine List.map_congr_left λp hp=>?_;have o:=ok p (List.mem_filter.mp hp).1;show (ns.idxOf (ns.getD p.1.toNat Str.empty),ns.idxOf (ns.getD p.2.1.toNat Str.empty),p.2.2.1)=(p.1.toNat,p.2.1.toNat,p.2.2.1);rw[zDX nd (by have:=o.g;omega),zDX nd (by have:=o.u;omega)]
def zEn (L:Wys) (j:Nat):Int:=(L.map λw=>if w.1=j then w.2.2 else 0).sum
def zBD (w:Nat × Nat × Int) (L:Wys) (j:Nat):zEn (w::L) j=(if w.1=j then w.2.2 else 0)+zEn L j:=by unfold zEn;rw[wHW,List.sum_cons]
theorem zI7 (L M:Wys) (j:Nat):zEn (L++M) j=zEn L j+zEn M j:=by unfold zEn;rw[wG9,List.sum_append]
theorem zF1 (L:Wys) (j:Nat):∀n,n<=L.length->zBr L n j=zEn (L.take n) j
 | 0,_=>rfl
 | n+1,h=>by
  have hn:L[n]?=some L[n]:=wG0 ∅;have e:L.getD n (0,0,0)=L[n]:=by rw[wG4,hn];rfl
  rw[wHC,hn,zI7,← zF1 L j n ∅];show zBr L n j+(if wg L n=j then wp L n else 0)=zBr L n j+zEn [L[n]] j;unfold wg wp;rw[e];unfold zEn;simp
def zBi (L:Wys) (j:Nat):zBr L L.length j=zEn L j:=by rw[zF1 L j _ (wG5 _),wHo]
theorem zCI (L:Wys) (j:Nat):keeps L j=1000-zEn L j:=by unfold keeps;rw[zBi]
inductive RL (L:Wys):Nat->Prop
 | base {j:Nat}:zEn L j < 1000->RL L j
 | step {w:Nat × Nat × Int}:w∈L->RL L w.2.1->RL L w.1
def zJ5 {L:Wys} {k:Nat} (h:k < L.length):L.getD k (0,0,0)∈L:=by rw[wG4,wG0 h];exact wHs h
def zOf {L:Wys} {j:Nat} (h:Rch L.length (wt L) (wg L) (λj=>decide (0 < keeps L j)) j):RL L j:=by
 induction h with
 | base z=>refine .base ?_;have:=wHm z;rw[zCI] at this;omega
 | step hk _ ih=>exact .step (zJ5 hk) ih
def zOe {L:Wys} {j:Nat} (h:RL L j):Rch L.length (wt L) (wg L) (λj=>decide (0 < keeps L j)) j:=by
 induction h with
 | base z=>refine .base (wHB ?_);rw[zCI];omega
 | @step w hw _ ih=>
  obtain⟨k,hk,e⟩:=List.getElem_of_mem hw;have e2:L.getD k (0,0,0)=w:=by rw[wG4,wG0 hk,e];rfl
  have s:=Rch.step (m:=L.length) (a:=wt L) (b:=wg L) (mk:=λj=>decide (0 < keeps L j)) (k:=k) hk (by unfold wt at *;rw[e2];exact ih);unfold wg at s;rw[e2] at s;exact s
def zHV {L' L:Wys} (s:L'.Sublist L) (p:∀w∈L,1<=w.2.2) (j:Nat):zEn L' j<=zEn L j:=by
 induction s with
 | slnil=>exact wH2 _
 | cons a _ ih=>
  rw[zBD];have:=ih λw hw=>p w (by simp[hw]);have:=p a (by simp)
  split<;>omega
 | cons_cons a _ ih=>
  rw[zBD,zBD];have:=ih λw hw=>p w (by simp[hw]);omega
def zHU {L' L:Wys} (s:L'.Sublist L) (p:∀w∈L,1<=w.2.2) {w:Nat × Nat × Int} (hw:w∈L) (hn:w∉L'):zEn L' w.1+w.2.2<=zEn L w.1:=by
 induction s with
 | slnil=>cases hw
 | @cons M' M a s ih=>
  rw[zBD];have pM:∀w∈M,1<=w.2.2:=λw hw=>p w (by simp[hw]);by_cases e:w=a
  ·subst e;rw[wG1 rfl];have:=zHV s pM w.1;omega
  have:=ih pM (by rcases wIn hw with z | z;exact absurd z e;exact z) hn;have:=p a (by simp)
  split<;>omega
 | @cons_cons M' M a s ih=>
  rw[zBD,zBD];have e:w≠a:=λe=>hn (by rw[e];simp);have:=ih (λw hw=>p w (by simp[hw])) (by rcases wIn hw with z | z;exact absurd z e;exact z) (λz=>hn (by simp[z]));omega
def zNe {L' L:Wys} (s:L'.Sublist L) (p:∀w∈L,1<=w.2.2) (o:∀j,zEn L j<=1000) {j:Nat} (h:RL L j):RL L' j:=by
 induction h with
 | @base i z=>exact .base (Int.lt_of_le_of_lt (zHV s p i) z)
 | @step w hw _ ih=>
  by_cases c:w∈L'
  ·exact .step c ih
  refine .base ?_;have:=zHU s p hw c;have:=o w.1;have:=p w hw;omega
structure GoodB (n:Nat) (ws:List W5):Prop where
 ok:∀p∈ws,OkN n p
 out:∀d j,zEn (wyL ws d) j<=1000
 opn:∀d j,j < n->RL (wyL ws d) j
def GoodB.nil (n:Nat):GoodB n []:=⟨λp hp=>(by cases hp),λd j=>(by show (0:Int)<=1000;decide),λd j _=>.base (by show (0:Int) < 1000;decide)⟩
def zH2 (ws:List W5) (w:W5) (d:Int):Prop:=d=w.2.2.2.1∨∃p∈ws,p.2.2.2.1=d/\w.2.2.2.1 < d/\d<=w.2.2.2.2
theorem zN1 (w:W5) {d:Int} (h0:w.2.2.2.1<=d) (h1:d<=w.2.2.2.2):∀ws:List W5,∃s,zH2 ws w s/\w.2.2.2.1<=s/\s<=d/\∀p∈ws,p.2.2.2.1<=d->p.2.2.2.1<=s
 | []=>⟨w.2.2.2.1,.inl rfl,wH2 _,h0,λp hp=>by cases hp⟩
 | q::ws=>by
  obtain⟨s,i,a,b,c⟩:=zN1 w h0 h1 ws;by_cases e:q.2.2.2.1<=d/\s < q.2.2.2.1
  ·refine⟨q.2.2.2.1,.inr ⟨q,by simp,rfl,by omega,by omega⟩,by omega,e.1,λp hp hd=>?_⟩;rcases wIn hp with z | z
   ·rw[z];exact wH2 _
   have:=c p z hd;omega
  refine⟨s,?_,a,b,λp hp hd=>?_⟩
  ·rcases i with z | ⟨p,hp,r⟩
   ·exact .inl z
   exact .inr ⟨p,by simp[hp],r⟩
  rcases wIn hp with z | z
  ·rw[z] at hd ⊢;exact Int.not_lt.mp λy=>e ⟨hd,y⟩
  exact c p z hd
def zN9 {ws:List W5} {d s:Int} (h:∀p∈ws,on5 d p=true->on5 s p=true):(wyL ws d).Sublist (wyL ws s):=by
 have e:ws.filter (on5 d)=(ws.filter (on5 s)).filter (on5 d):=by
  rw[List.filter_filter];refine List.filter_congr λp hp=>?_;cases c:on5 d p with
  | false=>rfl
  | true=>rw[h p hp c];rfl
 unfold wyL;rw[e];exact List.Sublist.map _ List.filter_sublist
def zH5 {ws:List W5} {d:Int} {w:Nat × Nat × Int} (h:w∈wyL ws d):∃p∈ws,on5 d p=true/\w=w3 p:=by obtain⟨p,hp,e⟩:=List.mem_map.mp h;exact⟨p,(List.mem_filter.mp hp).1,(List.mem_filter.mp hp).2,e.symm⟩
def zJ6 {n:Nat} {ws:List W5} (ok:∀p∈ws,OkN n p) (d:Int):∀w∈wyL ws d,1<=w.2.2:=λw hw=>by obtain⟨p,hp,_,rfl⟩:=zH5 hw;exact (ok p hp).pt.1
def zCF (ws:List W5) (w:W5) (d:Int):wyL (ws++[w]) d=if on5 d w=true then wyL ws d++[w3 w] else wyL ws d:=by
 unfold wyL;rw[List.filter_append];by_cases c:on5 d w=true
 ·rw[wG1 c,List.filter_cons_of_pos c,List.filter_nil,wG9];rfl
 rw[wGZ c,List.filter_cons_of_neg c,List.filter_nil,wHx]
theorem zBR {n:Nat} {ws:List W5} {w:W5} (ok:∀p∈ws,OkN n p) (o:OkN n w):∀p∈ws++[w],OkN n p:=λp hp=>by
 rcases wIm hp with z | z
 ·exact ok p z
 rw[wIj z];exact o
def zHW {n:Nat} {ws:List W5} {w:W5} (g:GoodB n ws) (d:Int) {j:Nat} (h:w.1.toNat≠j):zEn (wyL (ws++[w]) d) j<=1000:=by
 rw[zCF]
 split
 ·rw[zI7,zBD,wGZ (show ¬(w3 w).1=j from h)];have:=g.out d j;show _+(0+0)<=_;omega
 exact g.out d j
def zFg (n:Nat) (ws:List W5):Prop:=∀i,i<=ws.length->GoodB n (ws.take i)
def zFg.nil (n:Nat):zFg n []:=λi _=>by rw[List.take_nil];exact GoodB.nil n
def zFg.all {n:Nat} {ws:List W5} (g:zFg n ws):GoodB n ws:=by have:=g ws.length (wG5 _);rwa [wHo] at this
def zFg.snoc {n:Nat} {ws:List W5} {w:W5} (g:zFg n ws) (b:GoodB n (ws++[w])):zFg n (ws++[w]):=λi hi=>by
 by_cases c:i<=ws.length
 ·rw[List.take_append_of_le_length c];exact g i c
 rw[wG7] at hi;have:i=(ws++[w]).length:=by rw[wG7];show i=_+1;have:[w].length=1:=rfl;omega
 rw[this,wHo];exact b
def zCB {ns:List Str} (nd:ns.Nodup) {ws:List W5} (ok:∀p∈ws,OkN ns.length p):PsOk ns (ws.map (pOf ns)):=by
 have mem:∀k:Int,0<=k->k < ns.length->ns.getD k.toNat Str.empty∈ns:=λk h0 h1=>by rw[wG4,wG0 (show k.toNat < ns.length by omega)];exact wHs _
 refine⟨λp hp=>?_,λp hp=>?_,λp hp=>?_,λp hp=>?_⟩<;>obtain⟨w,hw,rfl⟩:=List.mem_map.mp hp<;>have o:=ok w hw
 ·exact⟨mem _ o.g.1 o.g.2,mem _ o.u.1 o.u.2⟩
 ·intro e;have e1:=zDX nd (k:=w.1.toNat) (by have:=o.g;omega);have e2:=zDX nd (k:=w.2.1.toNat) (by have:=o.u;omega);have e3:ns.idxOf (ns.getD w.1.toNat Str.empty)=ns.idxOf (ns.getD w.2.1.toNat Str.empty):=congrArg (λz=>ns.idxOf z) e;rw[e1,e2] at e3;have:=o.g;have:=o.u;have:=o.ne;omega
 ·exact o.pt
 exact o.sp
def zAI (ns:List Str) (ws:List W5) (w:W5):ws.map (pOf ns)++[pOf ns w]=(ws++[w]).map (pOf ns):=by rw[wG9];rfl
def GoodB.wy {ns:List Str} (nd:ns.Nodup) {ws:List W5} (g:GoodB ns.length ws) (d:Int):WyOk ns.length (zBm ns (ws.map (pOf ns)) d)/\zL8 ns.length (zBm ns (ws.map (pOf ns)) d):=by
 refine⟨(zCB nd g.ok).wy λx=>?_,λj hj=>?_⟩
 ·rw[zAM nd g.ok,zBi];exact g.out d x
 rw[zAM nd g.ok];exact zOe (g.opn d j hj)
def GoodB.noshut {ns:List Str} (nd:ns.Nodup) {ws:List W5} (g:GoodB ns.length ws):zEc ns (ws.map (pOf ns)):=λd _ _=>by unfold zBy;refine List.eq_nil_iff_forall_not_mem.mpr λz hz=>?_;obtain⟨j,hj,hb,_⟩:=zBT.mp hz;exact (zEv.mp hb) ((g.wy nd d).2 j hj)
def GoodB.new {ns:List Str} (nd:ns.Nodup) {ws:List W5} {w:W5} (g:GoodB ns.length (ws++[w])):NewOk ns (ws.map (pOf ns)) (pOf ns w)/\¬zJ1 ns (ws.map (pOf ns)) (pOf ns w):=by
 refine⟨⟨by rw[zAI];exact zCB nd g.ok,λd x _=>?_⟩,?_⟩
 ·rw[zAI,zAM nd g.ok,zBi];exact g.out d x
 rintro⟨d,_,_,h⟩;rw[zAI,zAM nd g.ok,zBi] at h;have:=g.out d (ns.idxOf (pOf ns w).1);omega
def tN {ns:List Str} (nd:ns.Nodup) {w:W5} (o:OkN ns.length w):zIv ns (pOf ns w).1 (pOf ns w).2.1 w.2.2.1 w.2.2.2.1 w.2.2.2.2=none:=by
 have h:=zCB nd (ws:=[w]) λp hp=>by rw[wIj hp];exact o
 have m:pOf ns w∈[w].map (pOf ns):=by simp
 have o3:=o.sp;unfold zIv;rw[wG1 (h.inn _ m).1,wG1 (h.inn _ m).2,wGZ (h.ne _ m),wGZ ∅,wG1 o.pt,wG1 ∅,wG1 ∅]
def wv (w:Nat × Nat × Int):List V:=[.int (w.1:Nat),.int (w.2.1:Nat),.int w.2.2]
theorem zEp {K:W.Frag} {H:Hp} {l:Addr} {L:Wys} (h:zAe H l (L.map wv)):∃rs,WyAt K H l rs L:=by
 obtain⟨q,h1,h2,h3⟩:=h;rw[wGX] at h2;refine⟨q.map V.ref,SqL.of h1,by rw[wGX,h2],λk hk=>?_⟩;have e1:q[k]?=some (q[k]' ∅):=wG0 _;have e2:L[k]?=some L[k]:=wG0 hk;refine⟨_,by rw[wG6,e1];rfl,?_⟩;have e3:L.getD k (0,0,0)=L[k]:=by rw[wG4,e2];rfl
 have:=h3 k _ _ e1 (by rw[wG6,e2];rfl);unfold wg wt wp;rw[e3];exact this
def zQ2 {p:W5} (h:0<=p.1/\0<=p.2.1):wv (w3 p)=[.int p.1,.int p.2.1,.int p.2.2.1]:=by show [V.int (p.1.toNat:Int),V.int (p.2.1.toNat:Int),V.int p.2.2.1]=_;rw[Int.toNat_of_nonneg h.1,Int.toNat_of_nonneg h.2]
theorem zLB {ws:List W5} {i:Nat} {p:W5} (h:ws[i]?=some p) (d:Int):wyL (ws.take (i+1)) d=if on5 d p=true then wyL (ws.take i) d++[w3 p] else wyL (ws.take i) d:=by rw[wHC,h];exact zCF _ _ _
def zFH (ws:List W5) (d:Int):(wyL ws d).length<=ws.length:=by unfold wyL;rw[wGX];exact wH7 _ _
inductive sp_on (K:W.Frag) (vs:List V) (H:Hp) (Q:VK) (E:XK):Prop
 | mk (pl:Addr) (ws:List W5) (d:Int):vs=[.ref pl,.int d]->(zAe H pl (ws.map W5.vs)/\ws.length<=900/\(∀p∈ws,0<=p.1/\0<=p.2.1)/\
 ∀l H',H l=none->zAf H H'->zAe H' l ((wyL ws d).map wv)->Q (.ref l) H')->sp_on K vs H Q E
def zKD (T:Txt P K mg t):FnOk P w K mg base CX0 40 t.wF7 t.wF8 ["_law_pacts","_law_day"] (sp_on K):=by
 refine T.wDF.ok zHG ⟨⟩ ();obtain⟨pl,ws,d,rfl,⟨qs,hp,lq,hq⟩,hz,ok,q⟩:=h;refine⟨_,(zD (zAE 2 zHG.nd (zAk zE))
  (zD (zAp PassesOwn.never rfl (zAb K (pv 0)) (zAw K (n:=5) rfl (zQ (zK (i:=3) zHG.nd rfl (Or.inl rfl)) (zQ (zK (i:=4) zHG.nd rfl (Or.inl rfl)) (zQ (zK (i:=5) zHG.nd rfl (Or.inl rfl)) (zQ (zK (i:=6) zHG.nd rfl (Or.inl rfl)) (zQ (zK (i:=7) zHG.nd rfl (Or.inl rfl)) zAv)))))) (zH (zA4 (PW.pt (zEB (zAc zDb (pv 6) (pv 1) (zAj _)) (zDE (zAc zDb (pv 1) (pv 7) (zAj _))))) (zH (zAn (zBv K wHv wHG wHJ zAx (pv 2) (zI (zAR (zZ (pv 3) (pv 4) (pv 5) zE zA zA zA)) zE zAX)))) zAd)))
  (zH (zX (pv 2))))),?_⟩
 rw[wGX] at lq;refine⟨szl,λl hl=>?_⟩;refine⟨_,rfl,pl,rfl,⟨_,SqL.of (zC hl _ _ _ hp)⟩,zAy (xs:=qs.map V.ref) (λi σ' H'=>∃(v3 v4 v5 v6 v7:Option V),σ'=[some (.ref pl),some (.int d),some (.ref l),v3,v4,v5,v6,v7]/\zAf H H'/\zAe H' l ((wyL (ws.take i) d).map wv)) ⟨none,none,none,none,none,rfl,zC hl _,zAe.nil zB⟩ (λi σ' H' _ ⟨_,_,_,_,_,_,s',_⟩=>SqL.of (s' _ _ hp)) ?_ ?_⟩
 ·rintro i x σ' H' hi ⟨v3,v4,v5,v6,v7,rfl,s',el⟩;rw[wG6] at hi;obtain⟨a,ha,rfl⟩:=wIk hi;have aC:i < ws.length:=by rw[← lq];exact (wIi ha).1
  have aY:ws[i]?=some ws[i]:=wG0 aC;have ea:=s' _ _ (hq i a _ ha (by rw[wG6,aY];rfl));have o:=ok ws[i] (wHs aC);refine⟨a,_,rfl,SqT.of ea,rfl,_,_,rfl,_,_,rfl,_,_,rfl,_,_,rfl,_,_,rfl,rfl,?_⟩;rw[zLB aY];refine⟨_,rfl,_,rfl,_,_,rfl,rfl,_,rfl,?_⟩;by_cases c1:(ws[i]).2.2.2.1<=d
  ·refine zNq c1 ⟨_,rfl,_,rfl,_,_,rfl,rfl,_,rfl,?_⟩;by_cases c2:d<=(ws[i]).2.2.2.2
   ·refine zNq c2 ?_;obtain⟨q2,g1,g2,g3⟩:=el;refine⟨_,rfl,.inl ⟨rfl,_,SqL.of g1⟩,_,rfl,_,rfl,_,rfl,szl,λp dJ=>?_⟩;have s2:=zC dJ (.tup [.int (ws[i]).1,.int (ws[i]).2.1,.int (ws[i]).2.2.1]);have g1':=s2 _ _ g1;have lw:=zFH (ws.take i) d;rw[wHk] at lw;refine⟨l,_,_,rfl,rfl,g1',by rw[wGX,g2,wGX];exact zAm ∅,_,_,_,_,_,rfl,zY (s'.trans s2) hl _,?_⟩;rw[wG1 (zCs.mpr ⟨c1,c2⟩),wG9,wHW,zQ2 o];exact zAe.snoc g1' g2 (λi a ys e1 e2=>s2 _ _ (g3 i a ys e1 e2)) zB
   rw[wGZ λz=>c2 (zCs.mp z).2];exact zNp c2 ⟨_,_,_,_,_,rfl,s',el⟩
  rw[wGZ λz=>c1 (zCs.mp z).1];exact zNp c1 (zCf ⟨_,_,_,_,_,rfl,s',el⟩)
 rintro σ' H' ⟨v3,v4,v5,v6,v7,rfl,s',el⟩;rw[wGX,lq,wHo] at el;exact⟨_,rfl,q l H' hl s' el⟩
inductive sp_left (K:W.Frag) (vs:List V) (H:Hp) (Q:VK) (E:XK):Prop
 | mk (n:Nat) (r:Addr) (rs:List V) (ws:Wys):vs=[.int (n:Nat),.ref r]->(WyAt K H r rs ws/\(∀k,k < ws.length->wg ws k < n)/\n<=900/\
 ∀(d:Addr) (H':Hp),H d=none->zAf H H'->H' d=some (.lst (tab n λh=>V.int (keeps ws h)))->Q (.ref d) H')->sp_left K vs H Q E
def zHZ (T:Txt P K mg t):FnOk P w K mg base CX0 40 t.wEa t.wEb ["_law_count","_law_ways"] (sp_left K):=by
 refine T.wDe.ok zE0 ⟨⟩ ();obtain⟨n,r,rs,ws,rfl,wa,wo,n9,q⟩:=h;refine⟨_,(zD (zAE 2 zE0.nd (zW zGM (zAk (zI zG zE zJ)) (pv 0)))
  (zD (zAp PassesOwn.never rfl (zAb K (pv 1)) (zAw K (n:=3) rfl (zQ (zK (i:=3) zE0.nd rfl (Or.inl rfl)) (zQ (zK (i:=4) zE0.nd rfl (Or.inl rfl)) (zQ (zK (i:=5) zE0.nd rfl (Or.inl rfl)) zAv)))) (zH (zHS (pv 2) (pv 3) zGi (pv 5) zKY zAG)))
  (zH (zX (pv 2))))),?_⟩
 refine⟨szl,λl1 h1=>⟨_,rfl,l1,_,_,rfl,rfl,zB,by omega,by omega,?_,λd hd=>?_⟩⟩
 ·show 1*_<=sizeLine;exact small ∅
 have s0:=(zC h1 (.lst [V.int 1000])).trans (zC hd (.lst (List.replicate (n:Int).toNat [V.int 1000]).flatten));have bW:H d=none:=(zC h1 _).free hd;refine⟨_,rfl,r,rfl,⟨_,s0.seq wa.sq⟩,zAy (K:=K) (a:=r) (xs:=rs) (λi σ' H'=>∃u v w,σ'=[some (.int (n:Nat)),some (.ref r),some (.ref d),u,v,w]/\zAf H H'/\H' d=some (.lst (tab n λh=>V.int (1000-zBr ws i h))))
  ⟨_,_,_,rfl,s0,by rw[zB,zOS,wHn,zEs];exact congrArg (λl=>some (HO.lst l)) (zAz λi _=>by show _=V.int (1000-0);rfl)⟩ (λi σ' H' _ ⟨_,_,_,_,sm,_⟩=>sm.seq wa.sq) ?_ ?_⟩
 ·rintro i x σ' H' hx ⟨u,v,w,rfl,sm,ed⟩;have hi:i < ws.length:=by rw[← wa.len];exact (wIi hx).1
  obtain⟨q',e1,e2⟩:=wa.at_ i hi;have ex:x=.ref q':=by rw[e1] at hx;exact (wG8 hx).symm
  subst ex;refine⟨q',_,rfl,SqT.of (sm _ _ e2),rfl,_,_,rfl,_,_,rfl,_,_,rfl,rfl,?_⟩;refine⟨_,rfl,_,rfl,d,_,_,_,rfl,rfl,SqL.of ed,zAl (wo i hi),_,rfl,_,_,rfl,rfl,d,_,_,_,rfl,rfl,ed,zBt (wo i hi),?_⟩;exact⟨_,_,_,rfl,zY sm bW _,by rw[zB,zHd]⟩
 rintro σ' H' ⟨u,v,w,rfl,sm,ed⟩;rw[wa.len] at ed;exact⟨_,rfl,q d H' bW sm ed⟩
structure Mk (n:Nat) (ws:Wys) (f:Nat->Bool):Prop where
 base:∀j,0 < keeps ws j->f j=true
 snd:∀j,f j=true->Rch ws.length (wt ws) (wg ws) (λj=>decide (0 < keeps ws j)) j
def Mk.iff {n:Nat} {ws:Wys} {f:Nat->Bool} (h:Mk n ws f) (c:Clo ws.length (wt ws) (wg ws) f) (j:Nat):f j=true↔Rch ws.length (wt ws) (wg ws) (λj=>decide (0 < keeps ws j)) j:=by
 refine⟨h.snd j,λr=>?_⟩
 induction r with
 | base z=>exact h.base _ (wHm z)
 | step hk _ ih=>exact c _ hk ih
inductive sp_closed (K:W.Frag) (vs:List V) (H:Hp) (Q:VK) (E:XK):Prop
 | mk (n:Nat) (r:Addr) (rs:List V) (ws:Wys):vs=[.int (n:Nat),.ref r]->(WyAt K H r rs ws/\WyOk n ws/\n<=900/\
 ∀(d:Addr) (f:Nat->Bool) (H':Hp),H d=none->zAf H H'->H' d=some (.lst ((plc (λj=>!f j) n).map V.int))->(∀j,f j=true↔Rch ws.length (wt ws) (wg ws) (λj=>decide (0 < keeps ws j)) j)->Q (.ref d) H')->sp_closed K vs H Q E
def zKG (T:Txt P K mg t):FnOk P w K mg base CX0 41 t.wCQ t.wCR ["_law_count","_law_ways"] (sp_closed K):=by
 refine T.wEI.ok zB3 ⟨⟩ ();obtain⟨n,r,rs,ws,rfl,wa,wo,n9,q⟩:=h;refine⟨_,(zD (zBa (i:=2) zB3.nd rfl (Or.inr rfl) (zAq ["_law_part"] [none] (by kernel_rfl) rfl (zAb K (cal (zHZ T) hr T.wEH T.wDe T.wEG (zN (pv 0) (pv 1) zE zA zA))) (λ_ _ _ _ _=>(zK (i:=0) ndB rfl (Or.inl rfl))) (λ_ _ _ _ _=>zAs) (λ_ _ _ _ _=>(zCr zMk (pv 0) zG (zAj _)))))
  (zD (zAE 3 zB3.nd zBu)
  (zD (zFY PassesOwn.never (zAQ (pv 3)) (zD (zAE 3 zB3.nd zBu)
  (zH (zAp PassesOwn.never rfl (zAb K (pv 1)) (zAw K (n:=3) rfl (zQ (zK (i:=4) zB3.nd rfl (Or.inl rfl)) (zQ (zK (i:=5) zB3.nd rfl (Or.inl rfl)) (zQ (zK (i:=6) zB3.nd rfl (Or.inl rfl)) zAv)))) (zH (zA4 (PW.pt (zEB (zAQ (zAo K (pv 2) (pv 5))) (zDE (zAZ (zAQ (zAo K (pv 2) (pv 4))))))) (zD (zBB zBu (zBZ (pv 2) (pv 4) zAG))
  (zH (zAE 3 zB3.nd zBu))) zAd))))))
  (zH (zX (zAq ["_law_k","_law_safe"] [none,some 2] (by kernel_rfl) rfl (zAh rfl T.wAe (zI (pv 0) zE zA)) (λ_ _ _ _ _=>(zK (i:=0) ndB rfl (Or.inl rfl))) (λ_ _ _ _ _=>(zC8 (zAZ (zAQ (zAo K (pv 1) (pv 0)))))) (λ_ _ _ _ _=>(pv 0)))))))),?_⟩
 refine⟨_,rfl,_,rfl,n,r,rs,ws,rfl,wa,wo.g,n9,λkp H0 kW sk ek=>⟨kp,rfl,⟨_,SqL.of ek⟩,λd hd=>?_⟩⟩;refine zAr (K:=K) (ys:=tab n λh=>V.int (keeps ws h)) (λi σ' H'=>∃v,σ'=[v]/\H'=upd H0 d (.lst (tab i λj=>V.bl (decide (0 < keeps ws j))))) ⟨none,rfl,rfl⟩ (λj σ2 H2 _ ⟨_,_,e⟩=>by rw[e];exact SqL.of (zC hd _ _ _ ek)) ?_ ?_
 ·rintro i x σ' H' hx ⟨v,rfl,rfl⟩;obtain⟨hi,rfl⟩:=zAN hx;refine⟨_,rfl,_,_,rfl,rfl,_,zB,by rw[zAa];exact zAB ∅,_,rfl,?_⟩;rw[zBx,← zA5]
 rintro σ' H1 ⟨v,rfl,rfl⟩;rw[zAa];have s0:=sk.trans (zC hd (.lst (tab n λj=>V.bl (decide (0 < keeps ws j)))));have bW:H d=none:=sk.free hd;refine⟨λm σ' H'=>∃(b:Bool) (f:Nat->Bool) (u v w:Option V),σ'=[some (.int (n:Nat)),some (.ref r),some (.ref d),some (.bl b),u,v,w]/\zAf H H'/\H' d=some (.lst (tab n λj=>V.bl (f j)))/\Mk n ws f/\(b=false->Clo ws.length (wt ws) (wg ws) f)/\m=2*(n-cnt f n)+(if b=true then 1 else 0),
  ⟨_,true,λj=>decide (0 < keeps ws j),_,_,_,rfl,s0,zB,⟨λj h=>wHB h,λj h=>.base h⟩,(λz=>by cases z),rfl⟩,?_⟩
 rintro m σ' H1 ⟨b,f,u,v,w,rfl,s1,ed,mk,cl,rfl⟩;cases b with
 | true=>
  refine⟨_,rfl,_,rfl,zGx ?_⟩;have hc:=zIJ f n;refine⟨λσ' H'=>∃(b:Bool) (g:Nat->Bool) (u v w:Option V),σ'=[some (.int (n:Nat)),some (.ref r),some (.ref d),some (.bl b),u,v,w]/\zAf H H'/\H' d=some (.lst (tab n λj=>V.bl (g j)))/\Mk n ws g/\(b=true->cnt f n+1<=cnt g n)/\(b=false->g=f/\Clo ws.length (wt ws) (wg ws) f),?_,?_⟩
  ·rintro σ' H' ⟨b,g,u,v,w,rfl,sm,ed,mk,h1,h2⟩;have hc2:=zIJ g n;refine⟨_,?_,b,g,u,v,w,rfl,sm,ed,mk,λz=>by obtain⟨e,c⟩:=h2 z;rw[e];exact c,rfl⟩;cases b with
   | true=>have:=h1 rfl;simp only[if_true];omega
   | false=>obtain⟨e,_⟩:=h2 rfl;rw[e];simp
  refine⟨_,rfl,r,rfl,⟨_,s1.seq wa.sq⟩,zAy (K:=K) (a:=r) (xs:=rs) (λi σ' H'=>∃(b:Bool) (g:Nat->Bool) (u v w:Option V),σ'=[some (.int (n:Nat)),some (.ref r),some (.ref d),some (.bl b),u,v,w]/\zAf H H'/\H' d=some (.lst (tab n λj=>V.bl (g j)))/\Mk n ws g/\(∀j,f j=true->g j=true)/\(b=true->cnt f n+1<=cnt g n)/\(b=false->g=f/\∀k,k < i->f (wt ws k)=true->f (wg ws k)=true))
   ⟨false,f,_,_,_,rfl,s1,ed,mk,λ_ z=>z,(λz=>by cases z),λ_=>⟨rfl,λk hk=>absurd hk (wHd _)⟩⟩ (λj σ' H' _ ⟨_,_,_,_,_,_,sm,_⟩=>sm.seq wa.sq) ?_ ?_⟩
  ·rintro i x σ' H' hx ⟨b,g,u,v,w,rfl,sm,ed,mk,le,h1,h2⟩;have hj:i < ws.length:=by rw[← wa.len];exact (wIi hx).1
   obtain⟨q',e1,e2⟩:=wa.at_ i hj;have ex:x=.ref q':=by rw[e1] at hx;exact (wG8 hx).symm
   subst ex;have ht:=wo.t i hj;have hg:=wo.g i hj;have stay:¬(g (wt ws i)=true/\¬g (wg ws i)=true)->(b=false->g=f/\∀k,k < i+1->f (wt ws k)=true->f (wg ws k)=true):=λno z=>by
    obtain⟨e,c⟩:=h2 z;refine⟨e,λk hk hf=>?_⟩;by_cases e3:k=i
    ·subst e3;rw[e] at no;exact wHH λy=>no ⟨hf,y⟩
    exact c k ∅ hf
   refine⟨q',_,rfl,SqT.of (sm _ _ e2),rfl,_,_,rfl,_,_,rfl,_,_,rfl,rfl,?_⟩;refine⟨_,rfl,_,rfl,d,_,_,_,rfl,rfl,SqL.of ed,zAl ht,_,rfl,zCw (λc=>?_) (λc=>?_)⟩
   ·refine⟨_,rfl,_,rfl,d,_,_,_,rfl,rfl,SqL.of ed,zAl hg,_,rfl,zCw (λc2=>?_) (λc2=>?_)⟩
    ·have c3:¬g (wg ws i)=true:=λz=>by have c4:(!g (wg ws i))=true:=c2;rw[z] at c4;cases c4
     have up:∀j,g j=true->(if j=wg ws i then true else g j)=true:=λj z=>by split;rfl;exact z
     refine⟨_,rfl,_,rfl,d,_,_,_,rfl,rfl,ed,zBt hg,true,λj=>if j=wg ws i then true else g j,_,_,_,rfl,zY sm bW _,?_,⟨λj z=>up j (mk.base j z),λj z=>?_⟩,λj z=>up j (le j z),λ_=>?_,(λz=>by cases z)⟩
     ·rw[zB,zD3];refine congrArg (λl=>some (HO.lst l)) (zAz λj _=>?_);by_cases e:j=wg ws i
      ·simp[e]
      simp[e]
     ·by_cases e:j=wg ws i
      ·rw[e];exact .step hj (mk.snd _ c)
      simp only[wGZ e] at z;exact mk.snd j z
     have:=zGq le n;have:=zGp (f:=g) (g:=λj=>if j=wg ws i then true else g j) up c3 (by simp) hg;omega
    have c3:g (wg ws i)=true:=wHH λz=>c2 (by show (!g (wg ws i))=true;rw[wIl z];rfl);exact⟨b,g,_,_,_,rfl,sm,ed,mk,le,h1,stay λz=>z.2 c3⟩
   exact zCf ⟨b,g,_,_,_,rfl,sm,ed,mk,le,h1,stay λz=>c z.1⟩
  rintro σ' H' ⟨b,g,u,v,w,rfl,sm,ed,mk,le,h1,h2⟩;exact⟨b,g,u,v,w,rfl,sm,ed,mk,h1,λz=>by obtain⟨e,c⟩:=h2 z;rw[wa.len] at c;exact⟨e,c⟩⟩
 | false=>
  refine⟨_,rfl,_,rfl,zCf ?_⟩;have hf:=mk.iff (cl rfl);refine⟨_,rfl,(n:Nat),rfl,by omega,by omega,λg hg=>?_⟩;refine zAT (n:=((n:Nat):Int).toNat) (λi σ' H'=>∃v,σ'=[v,some (.ref d)]/\H'=upd H1 g (.lst ((plc (λj=>!f j) i).map V.int))) ⟨none,rfl,rfl⟩ ?_ ?_
  ·rintro i σ' H' hi ⟨v,rfl,rfl⟩;have pl:=zDG (λj=>!f j) i;refine⟨_,rfl,_,rfl,d,_,_,_,rfl,rfl,SqL.of (zC hg _ _ _ ed),zHz ∅ ∅,_,rfl,zCw (λc1=>?_) (λc1=>?_)⟩
   ·rw[show (0+(i:Int)).toNat=i by omega] at c1;refine⟨_,rfl,_,zB,by rw[wGX];exact zAB ∅,_,rfl,?_⟩;rw[zBx,show plc (λj=>!f j) (i+1)=plc (λj=>!f j) i++[(i:Int)] by show (if _ then _ else _)=_;rw[wG1 c1],show (0+(i:Int))=i by omega,zCg]
   rw[show (0+(i:Int)).toNat=i by omega] at c1;exact⟨_,rfl,by rw[show plc (λj=>!f j) (i+1)=plc (λj=>!f j) i by show (if _ then _ else _)=_;rw[wGZ c1]]⟩
  rintro σ' H' ⟨v,rfl,rfl⟩;rw[wHn];exact q g f _ (s1.free hg) (s1.trans (zC hg _)) zB hf
open Classical in
noncomputable def shB (L:Wys):Nat->Bool:=λj=>decide (¬RL L j)
open Classical in
theorem zD7 {L:Wys} {j:Nat}:shB L j=true↔¬RL L j:=by unfold shB;exact decide_eq_true_iff
theorem zHT {f g:Nat->Bool}:∀{n:Nat},(∀j,j < n->f j=g j)->plc f n=plc g n
 | 0,_=>rfl
 | n+1,h=>by show (if _ then _ else _)=(if _ then _ else _);rw[h n ∅,zHT λj hj=>h j ∅]
theorem zP9 {f:Nat->Bool} {n:Nat} {x:Int} (h:x∈plc f n):0<=x/\x < n/\f x.toNat=true:=by obtain⟨j,hj,hb,e⟩:=zBT.mp h;subst e;exact⟨by omega,by omega,by rw[wHn];exact hb⟩
def OvD (ws:List W5) (w:W5):Prop:=∃d,w.2.2.2.1<=d/\d<=w.2.2.2.2/\1000 < zEn (wyL (ws++[w]) d) w.1.toNat
noncomputable def zDe (n:Nat) (ws:List W5) (w:W5) (d:Int):List Int:=plc (shB (wyL (ws++[w]) d)) n
def ShD (n:Nat) (ws:List W5) (w:W5) (d:Int):Prop:=w.2.2.2.1<=d/\d<=w.2.2.2.2/\zDe n ws w d≠[]/\∀e,w.2.2.2.1<=e->e < d->zDe n ws w e=[]
theorem zIy {ns:List Str} (nd:ns.Nodup) {ws:List W5} {w:W5} (ok:∀p∈ws++[w],OkN ns.length p) (d:Int):zBy ns (ws.map (pOf ns)++[pOf ns w]) d=zDe ns.length ws w d:=by unfold zBy zDe;refine zHT λj _=>?_;rw[Bool.eq_iff_iff,zEv,zD7,zAI,zAM nd ok];exact not_congr ⟨zOf,zOe⟩
def zNQ {n:Nat} {ws:List W5} {w:W5} (g:GoodB n ws) {d:Int} (h:¬(w.2.2.2.1<=d/\d<=w.2.2.2.2)):zDe n ws w d=[]:=by unfold zDe;rw[zCF,wGZ λz=>h (zCs.mp z)];refine List.eq_nil_iff_forall_not_mem.mpr λz hz=>?_;obtain⟨j,hj,hb,_⟩:=zBT.mp hz;exact (zD7.mp hb) (g.opn d j hj)
def zQe {ns:List Str} (nd:ns.Nodup) {w:W5} (o:OkN ns.length w):ns.idxOf (pOf ns w).1=w.1.toNat:=zDX nd (by have:=o.g;omega)
def zMx {ns:List Str} (nd:ns.Nodup) {ws:List W5} {w:W5} (g:GoodB ns.length ws) (o:OkN ns.length w):NewOk ns (ws.map (pOf ns)) (pOf ns w):=by refine⟨by rw[zAI];exact zCB nd (zBR g.ok o),λd x hx=>?_⟩;rw[zAI,zAM nd (zBR g.ok o),zBi];exact zHW g d λz=>hx (by rw[zQe nd o,z])
def zPJ {ns:List Str} (nd:ns.Nodup) {ws:List W5} {w:W5} (g:GoodB ns.length ws) (o:OkN ns.length w):zJ1 ns (ws.map (pOf ns)) (pOf ns w)↔OvD ws w:=by
 have sp:=o.sp;unfold zJ1 OvD;rw[zQe nd o,zAI];constructor
 ·rintro⟨d,h0,h1,h⟩;rw[zAM nd (zBR g.ok o),zBi] at h;by_cases c:w.2.2.2.1<=d/\d<=w.2.2.2.2
  ·exact⟨d,c.1,c.2,h⟩
  rw[zCF,wGZ λz=>c (zCs.mp z)] at h;have:=g.out d w.1.toNat;omega
 rintro⟨d,h0,h1,h⟩;refine⟨d,by omega,by omega,?_⟩;rw[zAM nd (zBR g.ok o),zBi];exact h
def zOE {ns:List Str} (nd:ns.Nodup) {ws:List W5} {w:W5} (g:GoodB ns.length ws) (o:OkN ns.length w) {d:Int} (f:zDz ns (ws.map (pOf ns)++[pOf ns w]) d):ShD ns.length ws w d:=by obtain⟨h0,h1,h2,h3⟩:=f;have sp:=o.sp;rw[zIy nd (zBR g.ok o)] at h2;have c:w.2.2.2.1<=d/\d<=w.2.2.2.2:=wHH λz=>h2 (zNQ g z);refine⟨c.1,c.2,h2,λe e0 e1=>?_⟩;rw[← zIy nd (zBR g.ok o)];exact h3 e ∅ e1
def zMw {ns:List Str} (nd:ns.Nodup) {ws:List W5} {w:W5} (g:GoodB ns.length ws) (o:OkN ns.length w) (f:zEc ns (ws.map (pOf ns)++[pOf ns w])) (d:Int) (h0:w.2.2.2.1<=d) (h1:d<=w.2.2.2.2):zDe ns.length ws w d=[]:=by have sp:=o.sp;rw[← zIy nd (zBR g.ok o)];exact f d ∅ ∅
def zNP {n:Nat} {ws:List W5} {w:W5} {d e:Int} (h:ShD n ws w d) (k:ShD n ws w e):d=e:=by
 obtain⟨a0,a1,a2,a3⟩:=h;obtain⟨b0,b1,b2,b3⟩:=k;rcases Int.lt_trichotomy d e with z | z | z
 ·exact absurd (b3 d a0 z) a2
 ·exact z
 exact absurd (a3 e b0 z) b2
def zIG {n:Nat} {ws:List W5} {w:W5} (g:GoodB n ws) (o:OkN n w) (aH:¬OvD ws w) (aO:∀d,w.2.2.2.1<=d->d<=w.2.2.2.2->zDe n ws w d=[]):GoodB n (ws++[w]):=by
 refine⟨zBR g.ok o,λd j=>?_,λd j hj=>?_⟩
 ·by_cases c:w.1.toNat=j
  ·rw[← c];by_cases e:w.2.2.2.1<=d/\d<=w.2.2.2.2
   ·exact Int.not_lt.mp λz=>aH ⟨d,e.1,e.2,z⟩
   rw[zCF,wGZ λz=>e (zCs.mp z)];exact g.out d _
  exact zHW g d c
 by_cases e:w.2.2.2.1<=d/\d<=w.2.2.2.2
 ·refine wHH λz=>?_;have:((j:Nat):Int)∈zDe n ws w d:=zBT.mpr ⟨j,hj,zD7.mpr z,rfl⟩;rw[aO d e.1 e.2] at this;cases this
 rw[zCF,wGZ λz=>e (zCs.mp z)];exact g.opn d j hj
theorem zKk {K:W.Frag} {H:Hp}:∀ns:List Int,RdA K H (ns.map V.int) (ns.map PyData.int)
 | []=>.nil
 | n::ns=>.cons (.int n) (zKk ns)
def zHB (ns:List Int):PySem.SeqAt.shaped (.list (ns.map PyData.int))=true:=by
 have c:∀ns:List Int,PyData.canLayAll0 (ns.map PyData.int)=true/\PyData.depthAll (ns.map PyData.int)=0:=by
  intro ns
  induction ns with
  | nil=>exact⟨rfl,rfl⟩
  | cons n ns ih=>
   obtain⟨h1,h2⟩:=ih;refine⟨?_,?_⟩
   ·show (true && PyData.canLayAll0 (ns.map PyData.int))=true;rw[h1];rfl
   show max 0 (PyData.depthAll (ns.map PyData.int))=0;rw[h2];rfl
 obtain⟨h1,h2⟩:=c ns;show (PyData.canLayAll0 (ns.map PyData.int) && decide (PyData.depthAll (ns.map PyData.int)+1<=64))=true;rw[h1,h2];rfl
def zOX {n:Nat} {ws:List W5} (ok:∀p∈ws,OkN n p) (d:Int):∀k,k < (wyL ws d).length->wg (wyL ws d) k < n:=λk hk=>by obtain⟨p,hp,_,e⟩:=zH5 (zJ5 hk);unfold wg;rw[e];show p.1.toNat < n;have:=(ok p hp).g;omega
def zOW {n:Nat} {ws:List W5} (ok:∀p∈ws,OkN n p) {d:Int} (o:∀j,zEn (wyL ws d) j<=1000):WyOk n (wyL ws d):=by
 refine⟨zOX ok d,λk hk=>?_,λk hk=>?_,λk hk=>?_,λx=>by rw[zBi];exact o x⟩<;>obtain⟨p,hp,_,e⟩:=zH5 (zJ5 hk)<;>have h:=ok p hp
 ·unfold wt;rw[e];show p.2.1.toNat < n;have:=h.u;omega
 ·unfold wg wt;rw[e];show p.1.toNat≠p.2.1.toNat;have:=h.g;have:=h.u;have:=h.ne;omega
 unfold wp;rw[e];exact h.pt
def zDh {H:Hp} {pl nw p:Addr} {qs:List Addr} {ws:List W5} {w:W5} (hp:H pl=some (.lst (qs.map V.ref))) (lq:qs.length=ws.length) (hq:∀(i:Nat) (a:Addr) (ys:List V),qs[i]?=some a->(ws.map W5.vs)[i]?=some ys->H a=some (.tup ys)) (hn:H nw=some (.tup w.vs)) (e:H p=some (.lst (qs.map V.ref++[V.ref nw]))):zAe H p ((ws++[w]).map W5.vs):=by
 refine⟨qs++[nw],by rw[e,wG9];rfl,by rw[wG7,wGX,wG7,lq];rfl,λi a ys e1 e2=>?_⟩;by_cases c:i < qs.length
 ·rw[wHl c] at e1;rw[wG9,wHl (by rw[wGX];omega)] at e2;exact hq i a ys e1 e2
 rw[wHj ∅] at e1;rw[wG9,wHj (by rw[wGX];omega),wGX,← lq] at e2;have z:i-qs.length=0:=by have:=(wIi e1).1;have l1:[nw].length=1:=rfl;omega
 rw[z] at e1 e2;cases e1;cases e2;exact hn
def zK2 {n:Nat} {ws:List W5} {w:W5} {d:Int} (h0:w.2.2.2.1<=d) (h1:d<=w.2.2.2.2):∃s,zH2 ws w s/\w.2.2.2.1<=s/\s<=d/\(wyL (ws++[w]) d).Sublist (wyL (ws++[w]) s):=by
 obtain⟨s,i,a,b,c⟩:=zN1 w h0 h1 ws;refine⟨s,i,a,b,zN9 λp hp e=>?_⟩;obtain⟨e0,e1⟩:=zCs.mp e;refine zCs.mpr ⟨?_,by omega⟩;rcases wIm hp with z | z
 ·exact c p z e0
 rw[wIj z];exact a
def zID {ws:List W5} {w:W5} {d:Int} (o:w.2.2.2.1<=w.2.2.2.2) (h:zH2 ws w d):w.2.2.2.1<=d/\d<=w.2.2.2.2:=by
 rcases h with rfl | ⟨p,_,_,h1,h2⟩
 ·exact⟨wH2 _,o⟩
 exact⟨by omega,h2⟩
def zNb {n:Nat} {ws:List W5} {w:W5} {d:Int}:zDe n ws w d=[]↔∀j,j < n->RL (wyL (ws++[w]) d) j:=by
 constructor
 ·intro h j hj;refine wHH λz=>?_;have:((j:Nat):Int)∈zDe n ws w d:=zBT.mpr ⟨j,hj,zD7.mpr z,rfl⟩;rw[h] at this;cases this
 intro h;refine List.eq_nil_iff_forall_not_mem.mpr λz hz=>?_;obtain⟨j,hj,hb,_⟩:=zBT.mp hz;exact (zD7.mp hb) (h j hj)
def zQY {ms:List Int} (pw:ms.Pairwise (·<=·)) {i:Nat} {d s:Int} (hd:ms[i]?=some d) (hs:s∈ms) (lt:s < d):s∈ms.take i:=by
 obtain⟨j,hj,e⟩:=List.getElem_of_mem hs;obtain⟨hi,e2⟩:=wIi hd;by_cases c:j < i
 ·exact wHA (i:=j) (by rw[List.getElem?_take_of_lt c,wG0 hj,e])
 exfalso
 by_cases z:i=j
 ·subst z;omega
 have:=List.pairwise_iff_getElem.mp pw i j hi hj ∅;omega
inductive Du (H:Hp) (du:Addr) (n:Nat) (ws:List W5) (w:W5):Prop
 | over (y z:V):OvD ws w->H du=some (.tup [.str "too much",y,z])->Du H du n ws w
 | shut (d:Int) (l:Addr):¬OvD ws w->ShD n ws w d->H du=some (.tup [.str "shut in",.int d,.ref l])->H l=some (.lst ((zDe n ws w d).map V.int))->Du H du n ws w
 | none (y z:V):¬OvD ws w->(∀d,w.2.2.2.1<=d->d<=w.2.2.2.2->zDe n ws w d=[])->H du=some (.tup [.str "",y,z])->Du H du n ws w
inductive sp_due (K:W.Frag) (vs:List V) (H:Hp) (Q:VK) (E:XK):Prop
 | mk (n:Nat) (pl nw:Addr) (ws:List W5) (w:W5):vs=[.int (n:Nat),.ref pl,.ref nw]->(zAe H pl (ws.map W5.vs)/\H nw=some (.tup w.vs)/\GoodB n ws/\OkN n w/\n<=15/\ws.length<=50/\
 ∀(q:Addr) (H':Hp),zAf H H'->Du H' q n ws w->Q (.ref q) H')->sp_due K vs H Q E
def zNm (T:Txt P K mg t):FnOk P w K mg base CX0 42 t.wFj t.wFk ["_law_count","_law_pacts","_law_new"] (sp_due K):=by
 refine T.wFz.ok zE2 ⟨⟩ ();obtain⟨n,pl,nw,ws,w,rfl,⟨qs,hp,lq,hq⟩,bV,gb,o,aP,hz,q⟩:=h;refine⟨_,(zD (zAE 3 zE2.nd (zAk (zI (zAW K (pv 2) zG) zE zF)))
  (zD (zAp PassesOwn.never rfl (zAb K (pv 1)) (zK (i:=4) zE2.nd rfl (Or.inl rfl)) (zH (zA4 (PW.pt (zEB (zAc zGP (zAW K (pv 2) zG) (zAW K (pv 4) zG) (zAj _)) (zDE (zAc zDb (zAW K (pv 4) zG) (zAW K (pv 2) zG) (zAj _))))) (zH (zAn (zBv K wHv wHG wHJ zAx (pv 3) (zI (zAW K (pv 4) zG) zE zF)))) zAd)))
  (zD (zAE 3 zE2.nd (zS zEZ rfl T.wC7 PyProof.Rows.boot_sorted (zI (pv 3) zE zA)))
  (zD (zAp PassesOwn.never rfl (zAb K (pv 3)) (zK (i:=5) zE2.nd rfl (Or.inl rfl)) (zH (zA4 (zAc zGP (zAo K (cal (zHZ T) hr T.wEH T.wDe T.wEG (zN (pv 0) (cal (zKD T) hr T.wEF T.wDF T.wEE (zN (zW zBL (pv 1) (zAk (zI (pv 2) zE zA))) (pv 5) zE zT zA)) zE zA zR)) (zAW K (pv 2) zG)) zG (zAj _)) (zH (zX (zAR (zI zAF (zN zG (zAk zE) zE zJ zEt) zJ)))) zAd)))
  (zD (zAp PassesOwn.never rfl (zAb K (pv 3)) (zK (i:=5) zE2.nd rfl (Or.inl rfl)) (zD (zAE 6 zE2.nd (cal (zKG T) hr T.wGd T.wEI T.wGc (zN (pv 0) (cal (zKD T) hr T.wEF T.wDF T.wEE (zN (zW zBL (pv 1) (zAk (zI (pv 2) zE zA))) (pv 5) zE zT zA)) zE zA zR)))
  (zH (zA4 (zAc (zPL hr.units) (pv 6) (zAk zE) (zAj _)) (zH (zX (zAR (zI zAF (zN (pv 5) (pv 6) zE zA zA) zJ)))) zAd))))
  (zH (zX (zAR (zI zAF (zN zG (zAk zE) zE zJ zEt) zJ))))))))),?_⟩
 rw[wGX] at lq;have Sn:=SqT.of (K:=K) bV;refine⟨_,rfl,nw,_,3,_,rfl,rfl,Sn,rfl,szl,λdl gJ=>?_⟩;have s1:=zC gJ (.lst [.int w.2.2.2.1]);refine⟨_,rfl,pl,rfl,⟨_,SqL.of (s1 _ _ hp)⟩,zAy (xs:=qs.map V.ref) (λi σ' H'=>∃(v4:Option V) (ds:List Int),σ'=[some (.int (n:Nat)),some (.ref pl),some (.ref nw),some (.ref dl),v4,none,none]/\zAf H H'/\H' dl=some (.lst (ds.map V.int))/\ds.length<=i+1/\∀d,d∈ds↔zH2 (ws.take i) w d)
  ⟨none,[w.2.2.2.1],rfl,s1,zB,wG5 _,λd=>⟨λz=>.inl (wIj z),λz=>by rcases z with y | ⟨p,hp,_⟩;rw[y];simp;cases hp⟩⟩ (λi σ' H' _ ⟨_,_,_,s',_⟩=>SqL.of (s' _ _ hp)) ?_ ?_⟩
 ·rintro i x σ' H' hi ⟨v4,ds,rfl,s',ed,ld,md⟩;rw[wG6] at hi;obtain⟨a,ha,rfl⟩:=wIk hi;have aC:i < ws.length:=by rw[← lq];exact (wIi ha).1
  have aY:ws[i]?=some ws[i]:=wG0 aC;have Sa:=SqT.of (K:=K) (s' _ _ (hq i a _ ha (by rw[wG6,aY];rfl)));have Sn':=SqT.of (K:=K) (s' _ _ bV);have tk:ws.take (i+1)=ws.take i++[ws[i]]:=by rw[wHC,aY];rfl
  have stay:¬(w.2.2.2.1 < (ws[i]).2.2.2.1/\(ws[i]).2.2.2.1<=w.2.2.2.2)->∀d,d∈ds↔zH2 (ws.take (i+1)) w d:=λno d=>by
   rw[md d,tk];unfold zH2;constructor
   ·rintro (z | ⟨p,hp,r⟩)
    ·exact .inl z
    exact .inr ⟨p,List.mem_append_left _ hp,r⟩
   rintro (z | ⟨p,hp,r,r2⟩)
   ·exact .inl z
   rcases wIm hp with y | y
   ·exact .inr ⟨p,y,r,r2⟩
   rw[wIj y] at r;rw[← r] at r2;exact absurd r2 no
  refine⟨_,rfl,nw,_,3,_,rfl,rfl,Sn',rfl,_,rfl,a,_,3,_,rfl,rfl,Sa,rfl,_,_,rfl,rfl,_,rfl,?_⟩;by_cases c1:w.2.2.2.1 < (ws[i]).2.2.2.1
  ·refine zNq c1 ⟨_,rfl,a,_,3,_,rfl,rfl,Sa,rfl,_,rfl,nw,_,4,_,rfl,rfl,Sn',rfl,_,_,rfl,rfl,_,rfl,?_⟩;by_cases c2:(ws[i]).2.2.2.1<=w.2.2.2.2
   ·refine zNq c2 ?_;refine⟨_,rfl,.inl ⟨rfl,_,SqL.of ed⟩,_,rfl,a,_,3,_,rfl,rfl,Sa,rfl,dl,_,_,rfl,rfl,ed,by rw[wGX];exact zAm ∅,?_⟩;refine⟨_,ds++[(ws[i]).2.2.2.1],rfl,zY s' gJ _,by rw[zB,wG9];rfl,by rw[wG7];show _+1<=_;omega,λd=>?_⟩;rw[List.mem_append,md d,tk,List.mem_singleton];unfold zH2;constructor
    ·rintro ((z | ⟨p,hp,r⟩) | z)
     ·exact .inl z
     ·exact .inr ⟨p,List.mem_append_left _ hp,r⟩
     exact .inr ⟨ws[i],wHp _ (List.mem_singleton.mpr rfl),z.symm,by rw[z];exact⟨c1,c2⟩⟩
    rintro (z | ⟨p,hp,r,r2⟩)
    ·exact .inl (.inl z)
    rcases wIm hp with y | y
    ·exact .inl (.inr ⟨p,y,r,r2⟩)
    rw[wIj y] at r;exact .inr r.symm
   exact zNp c2 ⟨_,ds,rfl,s',ed,by omega,stay λz=>c2 z.2⟩
  exact zNp c1 (zCf ⟨_,ds,rfl,s',ed,by omega,stay λz=>c1 z.1⟩)
 rintro σ' H2 ⟨v4,ds,rfl,s2,ed,ld,md⟩;rw[wGX,lq,wHo] at md;rw[wGX] at ld;refine⟨_,rfl,dl,ds,rfl,SqL.of ed,by omega,λd2 ms hd2 pm pw=>?_⟩;have s3:=s2.trans (zC hd2 (.lst (ms.map V.int)));have em:upd H2 d2 (.lst (ms.map V.int)) d2=some (.lst (ms.map V.int)):=zB;have mm:∀d,d∈ms↔zH2 ws w d:=λd=>by rw[pm.mem_iff];exact md d
 show zFu _ _ _ _ (upd H2 d2 (.lst (ms.map V.int)));generalize upd H2 d2 (.lst (ms.map V.int))=H3 at s3 em ⊢;have ok:=zBR gb.ok o;have nn:∀p∈ws++[w],0<=p.1/\0<=p.2.1:=λp hp=>⟨(ok p hp).g.1,(ok p hp).u.1⟩;have lw:(ws++[w]).length<=900:=by rw[wG7];show _+1<=_;omega
 refine⟨_,rfl,d2,rfl,⟨_,SqL.of em⟩,zAy (xs:=ms.map V.int) (λi σ' H'=>∃(v5:Option V),σ'=[some (.int (n:Nat)),some (.ref pl),some (.ref nw),some (.ref d2),v4,v5,none]/\zAf H H'/\H' d2=some (.lst (ms.map V.int))/\∀d∈ms.take i,zEn (wyL (ws++[w]) d) w.1.toNat<=1000)
  ⟨none,rfl,s3,em,λd hd=>by rw[List.take_zero] at hd;cases hd⟩ (λi σ' H' _ ⟨_,_,_,e,_⟩=>SqL.of e) ?_ ?_⟩
 ·rintro i x σ' H' hi ⟨v5,rfl,s',em',ho⟩;rw[wG6] at hi;obtain⟨d,hd,rfl⟩:=wIk hi;refine⟨_,rfl,_,rfl,_,rfl,szl,λx1 dZ=>⟨pl,x1,_,_,rfl,rfl,zC dZ _ _ _ (s' _ _ hp),zB,by rw[wGX];exact small (by show _+1<=1000;omega),λp1 dI=>?_⟩⟩;have s4:=(s'.trans (zC dZ (.lst [.ref nw]))).trans (zC dI (.lst (qs.map V.ref++[.ref nw])));refine⟨_,rfl,p1,ws++[w],d,rfl,zDh (s4 _ _ hp) lq (λi a ys e1 e2=>s4 _ _ (hq i a ys e1 e2)) (s4 _ _ bV) zB,lw,nn,λl H5 hl s5 t5=>?_⟩;obtain⟨rs,wa⟩:=zEp (K:=K) t5;have hW:=s4.trans s5;refine⟨n,l,rs,_,rfl,wa,zOX ok d,by omega,λkp H6 kW s6 ek=>?_⟩;have dU:=hW.trans s6;have gn:=o.g;have ix:atI (tab n λh=>V.int (keeps (wyL (ws++[w]) d) h)) w.1=some (.int (keeps (wyL (ws++[w]) d) w.1.toNat)):=zHz ∅ ∅;refine⟨_,rfl,nw,_,0,_,rfl,rfl,SqT.of (dU _ _ bV),rfl,kp,_,_,_,rfl,rfl,SqL.of ek,ix,_,_,rfl,rfl,_,rfl,?_⟩;have sm:zAf H' H6:=((zC dZ (.lst [.ref nw])).trans (zC dI (.lst (qs.map V.ref++[.ref nw])))).trans (s5.trans s6);by_cases c:keeps (wyL (ws++[w]) d) w.1.toNat < 0
  ·refine zNq c ⟨szl,λl0 fF=>⟨szl,λr hr=>?_⟩⟩;have s7:=dU.trans (zC fF (.lst []));rw[zCI] at c;have jJ:=zID o.sp.2.1 ((mm d).mp (wHA hd));exact q r _ (s7.trans (zC hr _)) (.over _ _ ⟨d,jJ.1,jJ.2,by omega⟩ zB)
  refine zNp c ⟨_,rfl,dU,sm _ _ em',λd' bY=>?_⟩;rw[wHC,hd] at bY;rcases wIm bY with z | z
  ·exact ho d' z
  rw[wIj (show d'∈[d] from z)];rw[zCI] at c;omega
 rintro σ' H4 ⟨v5,rfl,s4,em4,ho⟩;rw[wGX,wHo] at ho;have oa:∀d∈ms,∀j,zEn (wyL (ws++[w]) d) j<=1000:=λd hd j=>by
  by_cases c:w.1.toNat=j
  ·rw[← c];exact ho d hd
  exact zHW gb d c
 have aH:¬OvD ws w:=λ⟨d,h0,h1,h⟩=>by obtain⟨s,i,_,_,sb⟩:=zK2 (n:=n) h0 h1;have:=zHV sb (zJ6 ok s) w.1.toNat;have:=oa s ((mm s).mpr i) w.1.toNat;omega
 refine⟨_,rfl,d2,rfl,⟨_,SqL.of em4⟩,zAy (xs:=ms.map V.int) (λi σ' H'=>∃(v5 v6:Option V),σ'=[some (.int (n:Nat)),some (.ref pl),some (.ref nw),some (.ref d2),v4,v5,v6]/\zAf H H'/\H' d2=some (.lst (ms.map V.int))/\∀d∈ms.take i,∀j,j < n->RL (wyL (ws++[w]) d) j)
  ⟨v5,none,rfl,s4,em4,λd hd=>by rw[List.take_zero] at hd;cases hd⟩ (λi σ' H' _ ⟨_,_,_,_,e,_⟩=>SqL.of e) ?_ ?_⟩
 ·rintro i x σ' H' hi ⟨v5,v6,rfl,s',em',cN⟩;rw[wG6] at hi;obtain⟨d,hd,rfl⟩:=wIk hi;refine⟨_,rfl,_,rfl,_,rfl,szl,λx1 dZ=>⟨pl,x1,_,_,rfl,rfl,zC dZ _ _ _ (s' _ _ hp),zB,by rw[wGX];exact small (by show _+1<=1000;omega),λp1 dI=>?_⟩⟩;have s4:=(s'.trans (zC dZ (.lst [.ref nw]))).trans (zC dI (.lst (qs.map V.ref++[.ref nw])));refine⟨_,rfl,p1,ws++[w],d,rfl,zDh (s4 _ _ hp) lq (λi a ys e1 e2=>s4 _ _ (hq i a ys e1 e2)) (s4 _ _ bV) zB,lw,nn,λl H5 hl s5 t5=>?_⟩;obtain⟨rs,wa⟩:=zEp (K:=K) t5;have hW:=s4.trans s5;refine⟨n,l,rs,_,rfl,wa,zOW ok (oa d (wHA hd)),by omega,λsh f H6 hsh s6 es hf=>?_⟩;have dU:=hW.trans s6;have sm:zAf H' H6:=((zC dZ (.lst [.ref nw])).trans (zC dI (.lst (qs.map V.ref++[.ref nw])))).trans (s5.trans s6);refine⟨_,rfl,szl,λl0 fF=>?_⟩;have s7:=dU.trans (zC fF (.lst []));refine⟨_,_,.lst (SqL.of (zC fF _ _ _ es)) (zKk _),.lst (SqL.of zB) .nil,zHB _,rfl,_,rfl,?_⟩;rw[zOH];by_cases c:plc (λj=>!f j) n=[]
  ·rw[c];refine zCf ⟨_,_,rfl,s7,(sm.trans (zC fF _)) _ _ em',λd' bY=>?_⟩;rw[wHC,hd] at bY;rcases wIm bY with z | z
   ·exact cN d' z
   rw[wIj (show d'∈[d] from z)];intro j hj;refine zOf ((hf j).mp (wHH λy=>?_));have:((j:Nat):Int)∈plc (λj=>!f j) n:=zBT.mpr ⟨j,hj,by cases e:f j with | true=>exact absurd e y | false=>rfl,rfl⟩;rw[c] at this;cases this
  have ne:((plc (λj=>!f j) n).map PyData.int).isEmpty=false:=by
   cases e:plc (λj=>!f j) n with
   | nil=>exact absurd e c
   | cons a b=>rfl
  rw[ne];refine zGx ⟨_,rfl,_,rfl,szl,λr hr=>?_⟩;have jJ:=zID o.sp.2.1 ((mm d).mp (wHA hd));have ef:plc (λj=>!f j) n=zDe n ws w d:=zHT λj _=>by
   rw[Bool.eq_iff_iff,zD7];cases e:f j with
   | true=>exact⟨λz=>(by cases z),λz=>absurd (zOf ((hf j).mp e)) z⟩
   | false=>exact⟨λ_ z=>(by rw[(hf j).mpr (zOe z)] at e;cases e),λ_=>rfl⟩
  refine q r _ (s7.trans (zC hr _)) (.shut d sh aH ⟨jJ.1,jJ.2,by rw[← ef];exact c,λe e0 e1=>?_⟩ zB ?_)
  ·obtain⟨s,i,_,b,sb⟩:=zK2 (n:=n) e0 (show e<=w.2.2.2.2 by omega);have st:=cN s (zQY pw hd ((mm s).mpr i) ∅);exact zNb.mpr λj hj=>zNe sb (zJ6 ok s) (oa s ((mm s).mpr i)) (st j hj)
  rw[← ef];exact ((zC fF (.lst [])).trans (zC hr _)) _ _ es
 rintro σ' H5 ⟨v5,v6,rfl,s5,em5,ho5⟩;rw[wGX,wHo] at ho5;refine⟨szl,λl0 fF=>⟨szl,λr hr=>?_⟩⟩;have s7:=s5.trans (zC fF (.lst []));refine q r _ (s7.trans (zC hr _)) (.none _ _ aH (λd h0 h1=>?_) zB);obtain⟨s,i,_,b,sb⟩:=zK2 (n:=n) h0 h1;exact zNb.mpr λj hj=>zNe sb (zJ6 ok s) (oa s ((mm s).mpr i)) (ho5 s ((mm s).mpr i) j hj)
section
open PySem.Spec PyProof.Rows
def zF9 {vs:List Value} {ns:List Int} (hi:IntsAre vs ns) (aI:0 < ns.length):∃xs:Array (Int × Tok),vs.toArray=intItems xs/\ns=xs.toList.map (·.1)/\0 < xs.size:=by
 obtain⟨xs,e⟩:=hi.allInts.items;have cO:ns=xs.toList.map (·.1):=by rw[← hi.numsOf,← nums_intItems,← e]
 refine⟨xs,e,cO,?_⟩;have h3:=aI;rw[cO,wGX,wHt] at h3;exact h3
def zLw {X:Cx} (hc:X.calm=true):zB6 X (.builtin "min") (λxs H Q=>∃(p:Addr) (ns:List Int),xs=[.ref p]/\SqL X.K H p (ns.map V.int)/\0 < ns.length/\∀M,M∈ns->(∀a,a∈ns->M<=a)->Q (.int M) H):=by
 intro pins s σ H xs us Q I r h;obtain⟨p,ns,rfl,hS,aI,q⟩:=h;obtain⟨u,rfl,ru⟩:=r.one;cases ru;obtain⟨its,rv,pl,hz⟩:=I.list hS;obtain⟨ys,e,cO,eN⟩:=zF9 (zCd rv) aI;have hl:=pl.isList;rw[e] at hl;refine min_intList (I.ok.hd hc) hl eN λv h' tk hv hk=>?_;obtain⟨t,rfl⟩:=intItems_at hv;obtain⟨h1,h2⟩:=argBest_lt (numAt ys) (ys.size-1);refine⟨.int _,H,I.kept hk,⟨t,rfl⟩,q _ ?_ λa ha=>?_⟩
 ·rw[cO,numAt_eq];exact Pf.zDs (by rw[wGX,wHt];omega)
 rw[cO] at ha;obtain⟨j,hj,rfl⟩:=mem_getD ha;rw[wGX,wHt] at hj;rw[← numAt_eq];exact h2 j ∅
def zLx {X:Cx} (hc:X.calm=true):zB6 X (.builtin "max") (λxs H Q=>∃(p:Addr) (ns:List Int),xs=[.ref p]/\SqL X.K H p (ns.map V.int)/\0 < ns.length/\∀M,M∈ns->(∀a,a∈ns->a<=M)->Q (.int M) H):=by
 intro pins s σ H xs us Q I r h;obtain⟨p,ns,rfl,hS,aI,q⟩:=h;obtain⟨u,rfl,ru⟩:=r.one;cases ru;obtain⟨its,rv,pl,hz⟩:=I.list hS;obtain⟨ys,e,cO,eN⟩:=zF9 (zCd rv) aI;have hl:=pl.isList;rw[e] at hl;refine max_intList (I.ok.hd hc) hl eN λv h' tk hv hk=>?_;obtain⟨t,rfl⟩:=intItems_at hv;obtain⟨h1,h2⟩:=argBest_gt (numAt ys) (ys.size-1);refine⟨.int _,H,I.kept hk,⟨t,rfl⟩,q _ ?_ λa ha=>?_⟩
 ·rw[cO,numAt_eq];exact Pf.zDs (by rw[wGX,wHt];omega)
 rw[cO] at ha;obtain⟨j,hj,rfl⟩:=mem_getD ha;rw[wGX,wHt] at hj;rw[← numAt_eq];exact h2 j ∅
end
def zNM {ms:List Int} {a b:Int} (hp:ms.Perm [a,b]):∃x y,ms=[x,y]/\(x=a∨x=b)/\(y=a∨y=b):=by
 match ms,hp.length_eq with
 | [x,y],_=>
  have h1:x∈[a,b]:=hp.mem_iff.mp (by simp);have h2:y∈[a,b]:=hp.mem_iff.mp (by simp);exact⟨x,y,rfl,by simpa using h1,by simpa using h2⟩
def zLG {n g r:Int} (h0:0<=g) (h1:g < n) (h2:0<=r) (h3:r+1 < n):(0<=(g+1+r)%n/\(g+1+r)%n < n)/\g≠(g+1+r)%n:=by
 refine⟨⟨Int.emod_nonneg _ ∅,Int.emod_lt_of_pos _ ∅⟩,?_⟩;by_cases c:g+1+r < n
 ·rw[Int.emod_eq_of_lt ∅ c];omega
 have e:g+1+r=(g+1+r-n)+n:=by omega
 rw[e,Int.add_emod_right,Int.emod_eq_of_lt ∅ ∅];omega
def zQP {k:Nat} (h:k < 4):0<=([0,1,8,4999]:List Int).getD k 0/\([0,1,8,4999]:List Int).getD k 0<=5000:=by
 have:∀k:_root_.Fin 4,0<=([0,1,8,4999]:List Int).getD k.1 0/\([0,1,8,4999]:List Int).getD k.1 0<=5000:=by decide
 exact this ⟨k,h⟩
def zQQ {k:Nat} (h:k < 2):0<=([4999,5000]:List Int).getD k 0/\([4999,5000]:List Int).getD k 0<=5000:=by
 have:∀k:_root_.Fin 2,0<=([4999,5000]:List Int).getD k.1 0/\([4999,5000]:List Int).getD k.1 0<=5000:=by decide
 exact this ⟨k,h⟩
inductive sp_pact (K:W.Frag) (vs:List V) (H:Hp) (Q:VK) (E:XK):Prop
 | mk (fl pl:Addr) (fv:List Int) (n:Nat) (ws:List W5):vs=[.ref fl,.int (n:Nat),.ref pl]->(SqL K H fl (fv.map V.int)/\fv.length=5/\zAe H pl (ws.map W5.vs)/\1<=n/\(∀p∈ws,1<=p.2.2.1)/\
 ∀(q:Addr) (H':Hp) (w:W5),H q=none->zAf H H'->H' q=some (.tup w.vs)->(2<=n->OkN n w)->Q (.ref q) H')->sp_pact K vs H Q E
def zKC (T:Txt P K mg t):FnOk P w K mg base CX0 40 t.wD8 t.wD9 ["_law_five","_law_count","_law_pacts"] (sp_pact K):=by
 refine T.wED.ok zBz ⟨⟩ ();obtain⟨fl,pl,fv,n,ws,rfl,hS,l5,⟨qs,hp,lq,hq⟩,n2,hw,q⟩:=h;refine⟨_,(zD (zAE 3 zBz.nd (zW zAt (zAo K (pv 0) zG) (pv 1)))
  (zD (zAE 4 zBz.nd (zW zAt (zW zBj (zW zBj (pv 3) zG) (zW zAt (zAo K (pv 0) zG) (zS (zHp rfl) rfl T.wFI PyProof.Rows.boot_max (zN zG (zW zDT (pv 1) zG) zE zJ zT)))) (pv 1)))
  (zD (zAE 5 zBz.nd (zS zEZ rfl T.wC7 PyProof.Rows.boot_sorted (zI (zAk (zN (zW zAt (zW zB5 (zAo K (pv 0) zG) zG) zG) (zW zAt (zW zB5 (zAo K (pv 0) zG) zG) zG) zE zT zT)) zE zEt)))
  (zD (zGG (zA4 (zAc zCA (zW zAt (zAo K (pv 0) zG) zG) zG (zAj _)) (zH (zAE 5 zBz.nd (zAk (zN (zW zAt (zW zB5 (zAo K (pv 0) zG) zG) zG) (zW zBj zG (zW zAt (zW zB5 (zAo K (pv 0) zG) zG) zG)) zE zT zT)))) zAd))
  (zD (zGG (zA4 (zAc zCA (zW zAt (zAo K (pv 0) zG) zG) zG (zAj _)) (zH (zAE 5 zBz.nd (zAk (zN (zAo K (zAk (zI zG (zZ zG zG zG zE zJ zJ zJ) zJ)) (zW zAt (zW zB5 (zAo K (pv 0) zG) zG) zG)) (zAo K (zAk (zN zG zG zE zJ zJ)) (zW zAt (zW zB5 (zAo K (pv 0) zG) zG) zG)) zE zF zF)))) zAd))
  (zD (zAE 6 zBz.nd zG)
  (zD (zAp PassesOwn.never rfl (zAb K (pv 2)) (zK (i:=7) zBz.nd rfl (Or.inl rfl)) (zH (zA4 (PW.pt (zEB (zAc zCA (zAW K (pv 7) zG) (pv 3) (zAj _)) (zEB (zAc zDb (zAW K (pv 7) zG) (zAo K (pv 5) zG) (zAj _)) (zDE (zAc zDb (zAo K (pv 5) zG) (zAW K (pv 7) zG) (zAj _)))))) (zH (zP7 (i:=6) zBz.nd rfl (Or.inl rfl) (zAW K (pv 7) zG) zQb)) zAd)))
  (zD (zAE 8 zBz.nd (zW zBj zG (zW zAt (zW zB5 (zAo K (pv 0) zG) zG) zG)))
  (zD (zAE 9 zBz.nd (zW zDT zG (pv 6)))
  (zD (zAE 10 zBz.nd (zAo K (zAk (zN (pv 8) (pv 9) (zZ zG zG zG (zZ (zW zDT (pv 9) zG) (pv 9) (pv 8) zE zT zA zA) zJ zJ zJ) zA zA)) (zW zAt (zAo K (pv 0) zG) zG)))
  (zD (zGG (zA4 (zAc zGP (pv 10) zG (zAj _)) (zH (zAE 10 zBz.nd (pv 8))) zAd))
  (zH (zX (zAR (zN (pv 3) (pv 4) (zZ (pv 10) (zS (zLw rfl) rfl T.wFJ PyProof.Rows.boot_min (zI (pv 5) zE zA)) (zS (zLx rfl) rfl T.wFI PyProof.Rows.boot_max (zI (pv 5) zE zA)) zE zA zR zR) zA zA))))))))))))))),?_⟩
 rw[wGX] at lq;have ai:∀j:Int,0<=j->j < 5->atI (fv.map V.int) j=some (.int (fv.getD j.toNat 0)):=λj h0 h1=>zFD h0 ∅;have gb:0<=fv.getD 0 0%(n:Int)/\fv.getD 0 0%(n:Int) < n:=⟨Int.emod_nonneg _ ∅,Int.emod_lt_of_pos _ ∅⟩;refine⟨_,rfl,fl,_,0,_,rfl,rfl,hS,ai 0 ⋯ ⋯,_,rfl,_,_,rfl,rfl,(by show (0:Int) < (n:Int);omega),?_⟩;have mb:1<=(if (n:Int)-1 > 1 then (n:Int)-1 else 1)/\(2<=n->(if (n:Int)-1 > 1 then (n:Int)-1 else 1)<=n-1):=by split<;>omega
 refine⟨_,rfl,_,_,rfl,rfl,_,rfl,fl,_,1,_,rfl,rfl,hS,ai 1 ⋯ ⋯,_,rfl,_,_,rfl,rfl,1,_,rfl,_,_,rfl,rfl,(by show (0:Int) < (if (n:Int)-1 > 1 then (n:Int)-1 else 1);omega),_,_,rfl,rfl,_,rfl,_,_,rfl,rfl,(by show (0:Int) < (n:Int);omega),?_⟩;have rb:0<=fv.getD 1 0%(if (n:Int)-1 > 1 then (n:Int)-1 else 1)/\fv.getD 1 0%(if (n:Int)-1 > 1 then (n:Int)-1 else 1) < (if (n:Int)-1 > 1 then (n:Int)-1 else 1):=⟨Int.emod_nonneg _ ∅,Int.emod_lt_of_pos _ ∅⟩;have tb:=λh2:2<=n=>zLG gb.1 gb.2 rb.1 (by have:=mb.2 h2;omega);show zFu _ _ _ [some (.ref fl),some (.int (n:Nat)),some (.ref pl),some (.int (fv.getD 0 0%(n:Int))),some (.int ((fv.getD 0 0%(n:Int)+1+fv.getD 1 0%(if (n:Int)-1 > 1 then (n:Int)-1 else 1))%(n:Int))),none,none,none,none,none,none] _;generalize (fv.getD 0 0%(n:Int)+1+fv.getD 1 0%(if (n:Int)-1 > 1 then (n:Int)-1 else 1))%(n:Int)=u at tb ⊢;generalize fv.getD 0 0%(n:Int)=g at gb tb ⊢;clear rb mb;have b:=λ(z m:Int) (n:Nat) (h1:0 < m) (h2:m<=n)=>zBw (x:=z) (m:=m) (n:=n) h1 h2;refine⟨_,rfl,fl,_,3,_,rfl,rfl,hS,ai 3 ⋯ ⋯,_,_,rfl,rfl,⟨by decide,by decide⟩,_,_,rfl,rfl,(by show (0:Int) < 5001;decide),_,rfl,fl,_,4,_,rfl,rfl,hS,ai 4 ⋯ ⋯,_,_,rfl,rfl,⟨by decide,by decide⟩,_,_,rfl,rfl,(by show (0:Int) < 5001;decide),szl,λl1 h1=>⟨l1,[fv.getD 3 0 / 3%5001,fv.getD 4 0 / 3%5001],rfl,SqL.of zB,(by show 2 < 64;decide),λl2 ms h2 pm _=>?_⟩⟩;obtain⟨x,y,rfl,e1,e2⟩:=zNM pm;have b1:=b (fv.getD 3 0 / 3) 5001 5001 ⋯ ⋯;have b2:=b (fv.getD 4 0 / 3) 5001 5001 ⋯ ⋯;have s1:zAf H (upd (upd H l1 (.lst [.int (fv.getD 3 0 / 3%5001),.int (fv.getD 4 0 / 3%5001)])) l2 (.lst [.int x,.int y])):=(zC h1 (.lst [.int (fv.getD 3 0 / 3%5001),.int (fv.getD 4 0 / 3%5001)])).trans (zC h2 (.lst [.int x,.int y]));have ee:upd (upd H l1 (.lst [.int (fv.getD 3 0 / 3%5001),.int (fv.getD 4 0 / 3%5001)])) l2 (.lst [.int x,.int y]) l2=some (.lst [.int x,.int y]):=zB;have xb:0<=x/\x<=5000:=by omega
 have yb:0<=y/\y<=5000:=by omega
 show zFu _ _ _ _ (upd (upd H l1 (.lst [.int (fv.getD 3 0 / 3%5001),.int (fv.getD 4 0 / 3%5001)])) l2 (.lst [.int x,.int y]));generalize upd (upd H l1 (.lst [.int (fv.getD 3 0 / 3%5001),.int (fv.getD 4 0 / 3%5001)])) l2 (.lst [.int x,.int y])=H1 at s1 ee ⊢;have c1:∃(I:St->Hp->Prop),I=λσ' H'=>∃(e:Addr) (x y:Int),σ'=[some (.ref fl),some (.int (n:Nat)),some (.ref pl),some (.int g),some (.int u),some (.ref e),none,none,none,none,none]/\zAf H H'/\H' e=some (.lst [.int x,.int y])/\(0<=x/\x<=5000)/\(0<=y/\y<=5000):=⟨_,rfl⟩;obtain⟨I,hI⟩:=c1;have I1:I [some (.ref fl),some (.int (n:Nat)),some (.ref pl),some (.int g),some (.int u),some (.ref l2),none,none,none,none,none] H1:=by rw[hI];exact⟨l2,x,y,rfl,s1,ee,xb,yb⟩
 refine⟨I,?_,?_⟩
 ·refine⟨_,rfl,fl,_,3,_,rfl,rfl,s1.seq hS,ai 3 ⋯ ⋯,_,_,rfl,rfl,(by show (0:Int) < 3;decide),rfl,_,rfl,zCw (λ_=>?_) (λ_=>I1)⟩;refine⟨_,rfl,fl,_,3,_,rfl,rfl,s1.seq hS,ai 3 ⋯ ⋯,_,_,rfl,rfl,⟨by decide,by decide⟩,_,_,rfl,rfl,(by show (0:Int) < 9;decide),_,rfl,fl,_,4,_,rfl,rfl,s1.seq hS,ai 4 ⋯ ⋯,_,_,rfl,rfl,⟨by decide,by decide⟩,_,_,rfl,rfl,(by show (0:Int) < 9;decide),_,_,rfl,rfl,szl,λl3 h3=>?_⟩;have b3:=b (fv.getD 3 0 / 3) 9 9 ⋯ ⋯;have b4:=b (fv.getD 4 0 / 3) 9 9 ⋯ ⋯;rw[hI];exact⟨l3,fv.getD 3 0 / 3%9,7+fv.getD 4 0 / 3%9,rfl,s1.trans (zC h3 _),zB,by omega,by omega⟩
 intro σ2 H2 i2;refine⟨I,?_,?_⟩
 ·have i2':=i2;rw[hI] at i2;obtain⟨e,x2,y2,rfl,s2,ee2,xb2,yb2⟩:=i2;refine⟨_,rfl,fl,_,3,_,rfl,rfl,s2.seq hS,ai 3 ⋯ ⋯,_,_,rfl,rfl,(by show (0:Int) < 3;decide),rfl,_,rfl,zCw (λ_=>?_) (λ_=>i2')⟩;have b3:=b (fv.getD 3 0 / 3) 4 4 ⋯ ⋯;have b4:=b (fv.getD 4 0 / 3) 2 2 ⋯ ⋯;refine⟨szl,λm1 oq=>?_⟩;have sm1:=zC oq (.lst (([0,1,8,4999]:List Int).map V.int));refine⟨_,rfl,fl,_,3,_,rfl,rfl,(s2.trans sm1).seq hS,ai 3 ⋯ ⋯,_,_,rfl,rfl,⟨by decide,by decide⟩,_,_,rfl,rfl,(by show (0:Int) < 4;decide),m1,([0,1,8,4999]:List Int).map V.int,_,_,rfl,rfl,SqL.of zB,zFD b3.1 (by have:=b3.2;show _ < (4:Int);omega),szl,λm2 oo=>?_⟩;have kF:=zC oo (.lst (([4999,5000]:List Int).map V.int));have iY:=s2.trans (sm1.trans kF);refine⟨_,rfl,fl,_,4,_,rfl,rfl,iY.seq hS,ai 4 ⋯ ⋯,_,_,rfl,rfl,⟨by decide,by decide⟩,_,_,rfl,rfl,(by show (0:Int) < 2;decide),m2,([4999,5000]:List Int).map V.int,_,_,rfl,rfl,SqL.of zB,zFD b4.1 (by have:=b4.2;show _ < (2:Int);omega),szl,λl3 h3=>?_⟩;rw[hI];exact⟨l3,_,_,rfl,iY.trans (zC h3 _),zB,zQP ∅,zQQ ∅⟩
 intro σ3 H3 i3;rw[hI] at i3;obtain⟨e,a,c,rfl,s3,ee3,xa,xc⟩:=i3;clear I1 hI i2 ee xb yb s1 e1 e2 b1 b2 pm;refine⟨_,rfl,pl,rfl,⟨_,SqL.of (s3 _ _ hp)⟩,zAy (xs:=qs.map V.ref) (λi σ' H'=>∃(gv:Int) (v7:Option V),σ'=[some (.ref fl),some (.int (n:Nat)),some (.ref pl),some (.int g),some (.int u),some (.ref e),some (.int gv),v7,none,none,none]/\H'=H3/\0<=gv) ⟨0,none,rfl,rfl,wH2 _⟩ (λi σ' H' _ ⟨_,_,_,e,_⟩=>by rw[e];exact SqL.of (s3 _ _ hp)) ?_ ?_⟩
 ·rintro i x' σ' H' hi ⟨gv,v7,rfl,rfl,g0⟩;rw[wG6] at hi;obtain⟨aa,ha,rfl⟩:=wIk hi;have aC:i < ws.length:=by rw[← lq];exact (wIi ha).1
  have aY:ws[i]?=some ws[i]:=wG0 aC;have Sa:=SqT.of (K:=K) (s3 _ _ (hq i aa _ ha (by rw[wG6,aY];rfl)));have Se:=SqL.of (K:=K) ee3;have p1:=hw ws[i] (wHs aC);refine⟨_,rfl,aa,_,0,_,rfl,rfl,Sa,rfl,_,rfl,rfl,_,rfl,zCw (λ_=>?_) (λ_=>zCf ⟨_,_,rfl,rfl,g0⟩)⟩;refine⟨_,rfl,aa,_,3,_,rfl,rfl,Sa,rfl,_,rfl,e,_,0,_,rfl,rfl,Se,rfl,_,_,rfl,rfl,_,rfl,zCw (λ_=>?_) (λ_=>zCf ⟨_,_,rfl,rfl,g0⟩)⟩;refine⟨_,rfl,e,_,0,_,rfl,rfl,Se,rfl,_,rfl,aa,_,4,_,rfl,rfl,Sa,rfl,_,_,rfl,rfl,_,rfl,zCw (λ_=>?_) (λ_=>⟨_,_,rfl,rfl,g0⟩)⟩;exact⟨_,rfl,_,rfl,aa,_,2,_,rfl,rfl,Sa,rfl,_,_,rfl,rfl,gv+(ws[i]).2.2.1,_,rfl,rfl,by omega⟩
 rintro σ' H' ⟨gv,v7,rfl,rfl,g0⟩;have b8:=b (fv.getD 2 0 / 8) 1000 1000 ⋯ ⋯;have b9:=b (fv.getD 2 0) 8 8 ⋯ ⋯;refine⟨_,rfl,fl,_,2,_,rfl,rfl,s3.seq hS,ai 2 ⋯ ⋯,_,_,rfl,rfl,⟨by decide,by decide⟩,_,_,rfl,rfl,(by show (0:Int) < 1000;decide),_,_,rfl,rfl,?_⟩;refine⟨_,rfl,_,_,rfl,rfl,?_⟩;obtain⟨wd,hwd⟩:∃wd,wd=1+fv.getD 2 0 / 8%1000:=⟨_,rfl⟩;have wb:1<=wd/\wd<=1000:=by omega
 refine⟨_,rfl,_,rfl,_,rfl,_,_,rfl,rfl,_,rfl,_,rfl,szl,λml fE=>?_⟩;have sm:=s3.trans (zC fE (.lst (([1+fv.getD 2 0 / 8%1000,1000-gv,500,1000,1,1000-gv-1,1000-gv,1+fv.getD 2 0 / 8%1000]:List Int).map V.int)));have ee4:=zC fE (.lst (([1+fv.getD 2 0 / 8%1000,1000-gv,500,1000,1,1000-gv-1,1000-gv,1+fv.getD 2 0 / 8%1000]:List Int).map V.int)) _ _ ee3;refine⟨_,rfl,fl,_,2,_,rfl,rfl,sm.seq hS,ai 2 ⋯ ⋯,_,_,rfl,rfl,(by show (0:Int) < 8;decide),ml,([1+fv.getD 2 0 / 8%1000,1000-gv,500,1000,1,1000-gv-1,1000-gv,1+fv.getD 2 0 / 8%1000]:List Int).map V.int,_,_,rfl,rfl,SqL.of zB,zFD b9.1 (by have:=b9.2;show _ < (8:Int);omega),?_⟩;have pb:([1+fv.getD 2 0 / 8%1000,1000-gv,500,1000,1,1000-gv-1,1000-gv,1+fv.getD 2 0 / 8%1000]:List Int).getD (fv.getD 2 0%8).toNat 0<=1000:=by have hm:=zDs (ds:=([1+fv.getD 2 0 / 8%1000,1000-gv,500,1000,1,1000-gv-1,1000-gv,1+fv.getD 2 0 / 8%1000]:List Int)) (i:=(fv.getD 2 0%8).toNat) (by show _ < 8;omega);simp only[wHN,wHE,or_false] at hm;omega
 show zQC _ _ [some (.ref fl),some (.int (n:Nat)),some (.ref pl),some (.int g),some (.int u),some (.ref e),some (.int gv),v7,some (.int (1+fv.getD 2 0 / 8%1000)),some (.int (1000-gv)),some (.int (([1+fv.getD 2 0 / 8%1000,1000-gv,500,1000,1,1000-gv-1,1000-gv,1+fv.getD 2 0 / 8%1000]:List Int).getD (fv.getD 2 0%8).toNat 0))] (upd _ ml (.lst (([1+fv.getD 2 0 / 8%1000,1000-gv,500,1000,1,1000-gv-1,1000-gv,1+fv.getD 2 0 / 8%1000]:List Int).map V.int)));generalize ([1+fv.getD 2 0 / 8%1000,1000-gv,500,1000,1,1000-gv-1,1000-gv,1+fv.getD 2 0 / 8%1000]:List Int).getD (fv.getD 2 0%8).toNat 0=pt at pb ⊢;generalize upd H' ml (.lst (([1+fv.getD 2 0 / 8%1000,1000-gv,500,1000,1,1000-gv-1,1000-gv,1+fv.getD 2 0 / 8%1000]:List Int).map V.int))=H4 at sm ee4 ⊢;refine⟨λσ' H'=>∃pt,σ'=[some (.ref fl),some (.int (n:Nat)),some (.ref pl),some (.int g),some (.int u),some (.ref e),some (.int gv),v7,some (.int (1+fv.getD 2 0 / 8%1000)),some (.int (1000-gv)),some (.int pt)]/\H'=H4/\1<=pt/\pt<=1000,?_,?_⟩
 ·exact⟨_,rfl,_,_,rfl,rfl,_,rfl,zCw (λ_=>⟨_,rfl,1+fv.getD 2 0 / 8%1000,rfl,rfl,by omega,by omega⟩) (λc=>⟨pt,rfl,rfl,by have:=wHz (wIl c);omega,pb⟩)⟩
 rintro σ' H'' ⟨pt',rfl,rfl,p1,p2⟩;have Se:=SqL.of (K:=K) ee4;refine⟨_,rfl,_,rfl,_,rfl,_,rfl,e,[a,c],rfl,Se,(by show 0 < 2;decide),λmn hmn lmn=>⟨_,rfl,e,[a,c],rfl,Se,(by show 0 < 2;decide),λmx hmx lmx=>⟨szl,λr hr=>?_⟩⟩⟩;have h1:=lmn a (by simp);have h2:=lmn c (by simp);have h3:=lmx a (by simp);have h4:=lmx c (by simp);simp only[wHN,wHE,or_false] at hmn hmx;exact q r _ (g,u,pt',mn,mx) (sm.free hr) (sm.trans (zC hr _)) zB λh2=>⟨gb,(tb h2).1,(tb h2).2,⟨p1,p2⟩,by show 0<=mn;omega,by show mn<=mx;omega,by show mx<=5000;omega⟩
def zDV (ns:List Str):zL (ns.map Deed.house)=ns:=by
 induction ns with
 | nil=>rfl
 | cons n r ih=>show n::zL (r.map Deed.house)=_;rw[ih]
theorem zGL (ns:List Str):zV (ns.map Deed.house)=[]:=by
 induction ns with
 | nil=>rfl
 | cons n r ih=>exact ih
def zME {ns:List Str} (nd:ns.Nodup) {i:Nat} {n:Str} (h:ns[i]?=some n):n∉ns.take i:=by intro z;obtain⟨j,hj,e⟩:=List.getElem_of_mem z;rw[wHk] at hj;rw[List.getElem_take] at e;obtain⟨hi,e2⟩:=wIi h;have:j=i:=(List.getElem_inj (h₀:=by omega) (h₁:=hi) nd).mp (e.trans e2.symm);omega
def zJ9 {ns:List Str} (nd:ns.Nodup) (ok:∀n∈ns,zIN n) (l:ns.length<=15) {i:Nat} {n:Str} (h:ns[i]?=some n):zNs ((ns.take i).map Deed.house) n=none:=by have hi:=(wIi h).1;unfold zNs;rw[zDV,wG1 (ok n (wHA h)),wGZ (zME nd h),wGZ (by rw[wHk];omega)]
theorem sIx_nat (n d k:Nat):HT.sIx n d (some ((k:Nat):Int))=min k n:=by unfold HT.sIx;simp;intro h;omega
def zLq (xs:List V) {i j:Nat} {a b:Int} (ha:a=(i:Int)) (hb:b=(j:Int)) (h:j<=xs.length) (h2:i<=j):zD1 xs (some a) (some b)=(xs.drop i).take (j-i):=by subst ha hb;unfold zD1;rw[sIx_nat,sIx_nat,Nat.min_eq_left h,Nat.min_eq_left ∅]
inductive sp_built (K:W.Frag) (vs:List V) (H:Hp) (Q:VK) (E:XK):Prop
 | mk (dl:Addr) (dr:List Int) (n many:Nat):vs=[.ref dl,.int (n:Nat),.int (many:Nat)]->(SqL K H dl (dr.map V.int)/\5*many<=dr.length/\n<=15/\many<=50/\
 ∀(pl:Addr) (H':Hp) (ws:List W5),H pl=none->zAf H H'->zAe H' pl (ws.map W5.vs)->zFg n ws->ws.length<=many->Q (.ref pl) H')->sp_built K vs H Q E
def zMs (T:Txt P K mg t):FnOk P w K mg base CX0 43 t.wDv t.wDw ["_law_draws_here","_law_count","_law_many"] (sp_built K):=by
 refine T.wFg.ok zEj ⟨⟩ ();obtain⟨dl,dr,n,many,rfl,hS,ld,aP,m50,q⟩:=h;refine⟨_,(zD (zAE 3 zEj.nd (zAk zE))
  (zD (zAp PassesOwn.never rfl (zAh rfl T.wAe (zI (zAo K (zAk (zN zG (pv 2) zE zJ zA)) (zCa zHt rfl T.wFH PyProof.Rows.boot_int (zI (zCr zMk (pv 1) zG (zAj _)) zE zG3))) zE zF)) (zK (i:=4) zEj.nd rfl (Or.inl rfl)) (zD (zAE 5 zEj.nd (cal (zKC T) hr T.wFQ T.wED T.wFP (zZ (zBK (zDi K) (pv 0) (zBC (zW zGO zG (pv 4))) (zBC (zW zBj (zW zGO zG (pv 4)) zG))) (pv 1) (pv 3) zE zF zA zA)))
  (zH (zA4 (zAc zCA (zAW K (cal (zNm T) hr T.wGm T.wFz T.wGl (zZ (pv 1) (pv 3) (pv 5) zE zA zA zA)) zG) zAF (zAj _)) (zH (zAn (zBv K wHv wHG wHJ zAx (pv 3) (zI (pv 5) zE zA)))) zAd))))
  (zH (zX (pv 3))))),?_⟩
 refine⟨szl,λpl aK=>?_⟩;have s1:=zC aK (.lst []);have ep:upd H pl (.lst []) pl=some (.lst []):=zB;generalize upd H pl (.lst [])=H1 at s1 ep ⊢;refine⟨_,rfl,szl,λl2 eB=>?_⟩;have s2:=s1.trans (zC eB (.lst [.int 0,.int (many:Nat)]));obtain⟨m,hm⟩:∃m:Nat,m=if 1 < n then many else 0:=⟨_,rfl⟩;have mle:m<=many:=by rw[hm];split<;>omega
 have ix:atI [V.int 0,V.int (many:Nat)] (if decide ((n:Int) > 1) then 1 else 0)=some (.int (m:Nat)):=by
  by_cases c:1 < n
  ·rw[hm,wG1 c,wG1 (wHB (show (n:Int) > 1 by omega))];rfl
  rw[hm,wGZ c,wGZ (by rw[wHy (show ¬(n:Int) > 1 by omega)];decide)];rfl
 refine⟨_,rfl,_,_,rfl,rfl,.inr ⟨_,rfl,l2,_,_,_,rfl,rfl,SqL.of zB,ix,?_⟩⟩;refine⟨m,rfl,by omega,by omega,zA1 (n:=m) (λi σ' H'=>∃(ws:List W5) (v4 v5:Option V),σ'=[some (.ref dl),some (.int (n:Nat)),some (.int (many:Nat)),some (.ref pl),v4,v5]/\zAf H H'/\zAe H' pl (ws.map W5.vs)/\zFg n ws/\ws.length<=i)
  ⟨[],none,none,rfl,s2,zAe.nil (zC eB _ _ _ ep),zFg.nil n,wG5 _⟩ ?_ ?_⟩
 ·rintro i σ' H3 hi ⟨ws,v4,v5,rfl,s3,T3,ga,lw⟩;have n2:2<=n:=by
   by_cases c:1 < n
   ·omega
   rw[wGZ c] at hm;omega
  have gL:=zLq (dr.map V.int) (i:=5*i) (j:=5*i+5) (a:=5*(0+(i:Int))) (b:=5*(0+(i:Int))+5) ∅ ∅ (by rw[wGX];omega) ∅;refine⟨_,rfl,_,rfl,_,_,rfl,rfl,.inl ⟨by decide,by decide⟩,_,rfl,_,rfl,_,_,rfl,rfl,.inl ⟨by decide,by decide⟩,_,_,rfl,rfl,_,rfl,dl,_,rfl,s3.seq hS,λc4 hc4=>?_⟩;show zA0 _ _ _ (upd H3 c4 (.lst (zD1 (dr.map V.int) (some (5*(0+(i:Int)))) (some (5*(0+(i:Int))+5))))) _;rw[gL,← List.map_drop,← List.map_take];have s4:=zC hc4 (.lst (((dr.drop (5*i)).take (5*i+5-5*i)).map V.int));have gb:=ga.all;refine⟨_,rfl,_,rfl,c4,pl,_,n,ws,rfl,SqL.of zB,by rw[wHk,wHP];omega,T3.same s4,by omega,λp hp=>(gb.ok p hp).pt.1,λtp H5 w htp s5 etp o=>?_⟩;replace o:=o n2;have hW:=s4.trans s5;refine⟨_,rfl,_,rfl,_,rfl,n,pl,tp,ws,w,rfl,T3.same hW,etp,gb,o,aP,by omega,λr H6 s6 du=>?_⟩;have dU:=hW.trans s6;obtain⟨x,y,z,er,st,hr⟩:∃x y z,H6 r=some (.tup [.str x,y,z])/\(x=Str.ofString ""->GoodB n (ws++[w]))/\True:=by
   cases du with
   | over y z _ e=>exact⟨_,_,_,e,λz=>absurd z (by nofun),trivial⟩
   | shut d l _ _ e _=>exact⟨_,_,_,e,λz=>absurd z (by nofun),trivial⟩
   | none y z aH aO e=>exact⟨_,_,_,e,λ_=>zIG gb o aH aO,trivial⟩
  refine⟨r,_,0,_,rfl,rfl,SqT.of er,rfl,rfl,_,rfl,?_⟩;by_cases c:x=Str.ofString ""
  ·refine zNq (congrArg V.str c) ?_;obtain⟨qs,g1,g2,g3⟩:=T3.same dU;rw[wGX] at g2;refine⟨_,rfl,.inl ⟨rfl,_,SqL.of g1⟩,_,rfl,pl,_,_,rfl,rfl,g1,by rw[wGX];exact zAm ∅,?_⟩;refine⟨ws++[w],_,_,rfl,zY (s3.trans dU) aK _,?_,ga.snoc (st c),by rw[wG7];show _+1<=_;omega⟩;rw[wG9];exact zAe.snoc g1 (by rw[g2,wGX]) g3 (s6 _ _ etp)
  exact zNp (λz=>c (V.str.inj z)) ⟨ws,_,_,rfl,s3.trans dU,T3.same dU,ga,by omega⟩
 rintro σ' H3 ⟨ws,v4,v5,rfl,s3,T3,ga,lw⟩;exact⟨_,rfl,q pl H3 ws aK s3 T3 ga ∅⟩
def pD (p:Pct):Deed:=.pact p.1 p.2.1 p.2.2.1 p.2.2.2.1 p.2.2.2.2
def zMj (ps:List Pct):zV (ps.map pD)=ps:=by
 induction ps with
 | nil=>rfl
 | cons n r ih=>show n::zV (r.map pD)=_;rw[ih]
theorem zMz (ps:List Pct):zL (ps.map pD)=[]:=by
 induction ps with
 | nil=>rfl
 | cons n r ih=>exact ih
def bkP (ns:List Str) (ps:List Pct):List Deed:=ns.map Deed.house++ps.map pD
def zCE (ns:List Str) (ps:List Pct):zL (bkP ns ps)=ns:=by unfold bkP;rw[zEM,zDV,zMz,wHx]
theorem zCD (ns:List Str) (ps:List Pct):zV (bkP ns ps)=ps:=by unfold bkP;rw[zEG,zGL,zMj,List.nil_append]
theorem zIM (ns:List Str) (ps:List Pct) (p:Pct):bkP ns (ps++[p])=bkP ns ps++[pD p]:=by unfold bkP;rw[wG9,wHD];rfl
def zBW (ns:List Str) (ps:List Pct):(bkP ns ps).length=ns.length+ps.length:=by unfold bkP;rw[wG7,wGX,wGX]
theorem zAf.keep {H H1 H2:Hp} {tl:Addr} (s:zAf H H1) (n:H tl=none) (k:zFs tl H1 H2):zAf H H2:=λb u e=>k b u (λz=>by rw[z,n] at e;cases e) (s b u e)
def zCu {ns:List Str} {k:Int} (h0:0<=k) (h1:k < ns.length):atI (ns.map V.str) k=some (.str (ns.getD k.toNat Str.empty)):=by
 have hk:k.toNat < ns.length:=by omega
 exact zBb h0 (by rw[wG6,wG0 hk,wG4,wG0 hk];rfl)
inductive sp_book (K:W.Frag) (C:Addr) (vs:List V) (H:Hp) (Q:VK) (E:XK):Prop
 | mk (nl pl:Addr) (ns:List Str) (ws:List W5):vs=[.ref nl,.ref pl]->(H nl=some (.lst (ns.map V.str))/\zAe H pl (ws.map W5.vs)/\ns.Nodup/\(∀n∈ns,zIN n)/\ns.length<=15/\zFg ns.length ws/\ws.length<=24/\
 ∀(b tl:Addr) (H':Hp),H b=none->H tl=none->zAf H H'->zAD H' C b tl (bkP ns (ws.map (pOf ns)))->Q (.ref b) H')->sp_book K C vs H Q E
def zOu (T:Txt P K mg t):FnOk P w K mg base CX0 46 t.wEc t.wEd ["_law_names_here","_law_pacts"] (sp_book K t.wAd):=by
 refine T.wFR.ok zC1 ⟨⟩ ();obtain⟨nl,pl,ns,ws,rfl,en,TP,jp,aM,aP,ga,lw,q⟩:=h;refine⟨_,(zD (zAE 2 zC1.nd (zMi T.wGO ((zFn T).mono ⋯) hr rfl T.wGN T.wDW .nil zC9))
  (zD (zAp PassesOwn.never rfl (zAb K (pv 0)) (zK (i:=3) zC1.nd rfl (Or.inl rfl)) (zH (zAn (zBP (pv 2) T.wAf T.wEC ((zGe T).mono ⋯) hr T.wEB .nil zKz (zI (pv 3) zE zA)))))
  (zD (zAp PassesOwn.never rfl (zAb K (pv 1)) (zAw K (n:=5) rfl (zQ (zK (i:=4) zC1.nd rfl (Or.inl rfl)) (zQ (zK (i:=5) zC1.nd rfl (Or.inl rfl)) (zQ (zK (i:=6) zC1.nd rfl (Or.inl rfl)) (zQ (zK (i:=7) zC1.nd rfl (Or.inl rfl)) (zQ (zK (i:=8) zC1.nd rfl (Or.inl rfl)) zAv)))))) (zH (zAn (zBP (pv 2) T.wAf T.wCG ((zDU T).mono ⋯) hr T.wCF .nil zKz (zN (zAo K (pv 0) (pv 4)) (zAo K (pv 0) (pv 5)) (zZ (pv 6) (pv 7) (pv 8) zE zA zA zA) zF zF)))))
  (zH (zX (pv 2)))))),?_⟩
 intro b dx nb ndx nex;refine⟨b,dx,rfl,zB,λtl cL=>⟨rfl,?_⟩⟩;obtain⟨B3,s3,jk⟩:=zMy nb ndx nex cL;show zFu _ _ _ _ (upd (upd (upd (upd H dx (.own b)) b (.ins t.wAd dx [])) tl (.lst [])) b (.ins t.wAd dx [("told",.ref tl)]));generalize upd (upd (upd (upd H dx (.own b)) b (.ins t.wAd dx [])) tl (.lst [])) b (.ins t.wAd dx [("told",.ref tl)])=H3 at B3 s3 ⊢;refine⟨_,rfl,nl,rfl,⟨_,SqL.of (s3 _ _ en)⟩,zAy (xs:=ns.map V.str) (λi σ' H'=>∃v3,σ'=[some (.ref nl),some (.ref pl),some (.ref b),v3,none,none,none,none,none]/\zAD H' t.wAd b tl ((ns.take i).map Deed.house)/\zAf H H')
  ⟨none,rfl,B3,s3⟩ (λi σ' H' _ ⟨_,_,_,s⟩=>SqL.of (s _ _ en)) ?_ ?_⟩
 ·rintro i x σ' H4 hx ⟨v3,rfl,B4,s4⟩;rw[wG6] at hx;obtain⟨n,hn,rfl⟩:=wIk hx;obtain⟨dx4,_,hb4,_⟩:=id B4;have wn:=zJ9 jp aM aP hn;refine⟨_,rfl,b,dx4,_,rfl,hb4,rfl,_,rfl,b,tl,_,n,rfl,B4,by rw[wGX,wHk];omega,(aM n (wHA hn)).sane,λH5 _ k5 B5=>?_,λH5 k e5 _=>by rw[wn] at e5;cases e5⟩;refine⟨_,rfl,?_,zAf.keep s4 jk k5⟩;rw[wHC,hn,wG9];exact B5
 rintro σ' H4 ⟨v3,rfl,B4,s4⟩;rw[wGX,wHo] at B4;obtain⟨qs,hp,lq,hq⟩:=TP;rw[wGX] at lq;refine⟨_,rfl,pl,rfl,⟨_,SqL.of (s4 _ _ hp)⟩,zAy (xs:=qs.map V.ref) (λi σ' H'=>∃v4 v5 v6 v7 v8,σ'=[some (.ref nl),some (.ref pl),some (.ref b),v3,v4,v5,v6,v7,v8]/\zAD H' t.wAd b tl (bkP ns ((ws.take i).map (pOf ns)))/\zAf H H')
  ⟨none,none,none,none,none,rfl,by unfold bkP;rw[List.take_zero,List.map_nil,List.map_nil,wHx];exact B4,s4⟩ (λi σ' H' _ ⟨_,_,_,_,_,_,_,s⟩=>SqL.of (s _ _ hp)) ?_ ?_⟩
 ·rintro i x σ' H5 hx ⟨v4,v5,v6,v7,v8,rfl,B5,s5⟩;rw[wG6] at hx;obtain⟨a,ha,rfl⟩:=wIk hx;have aC:i < ws.length:=by rw[← lq];exact (wIi ha).1
  have aY:ws[i]?=some ws[i]:=wG0 aC;have ea:=s5 _ _ (hq i a _ ha (by rw[wG6,aY];rfl));have tk:ws.take (i+1)=ws.take i++[ws[i]]:=by rw[wHC,aY];rfl
  have g1:=ga (i+1) ∅;rw[tk] at g1;have o:=g1.ok ws[i] (wHp _ (List.mem_singleton.mpr rfl));have nw:=g1.new jp;have tn:=tN jp o;have lt:(ws.take i).length<=24:=by rw[wHk];omega
  have cX:=zCE ns ((ws.take i).map (pOf ns));have bS:=zCD ns ((ws.take i).map (pOf ns));have pk:=zCB jp (ws:=[ws[i]]) λp hp=>by rw[wIj hp];exact o
  have inn:=pk.inn (pOf ns ws[i]) (by simp);obtain⟨dx5,_,hb5,_⟩:=id B5;have sw:zJz (zL (bkP ns ((ws.take i).map (pOf ns)))) (zV (bkP ns ((ws.take i).map (pOf ns)))) (pOf ns ws[i]).1 (pOf ns ws[i]).2.1 (ws[i]).2.2.1 (ws[i]).2.2.2.1 (ws[i]).2.2.2.2=none:=by rw[cX,bS,zGB tn nw.2]
  have aO:=g1.noshut jp;rw[← zAI] at aO;refine⟨a,_,rfl,SqT.of ea,rfl,_,_,rfl,_,_,rfl,_,_,rfl,_,_,rfl,_,_,rfl,rfl,?_⟩;have Sn:=SqL.of (K:=K) (s5 _ _ en);refine⟨_,rfl,b,dx5,_,rfl,hb5,rfl,_,rfl,_,rfl,nl,_,_,_,rfl,rfl,Sn,zCu o.g.1 o.g.2,_,rfl,_,rfl,nl,_,_,_,rfl,rfl,Sn,zCu o.u.1 o.u.2,_,rfl,_,rfl,_,rfl,?_⟩;refine⟨b,tl,_,_,_,_,_,_,rfl,B5,by rw[zBW,wGX];omega,by rw[cX];exact aP,by rw[bS,wGX];omega,(aM _ inn.1).sane,(aM _ inn.2).sane,?_,λH6 k e6 _=>?_,λd0 H6 dx e6 fs _ _=>?_,λH6 _ _ c8 _=>?_,λH6 _ _ _ k6 B6=>?_⟩
  ·rw[cX,bS];exact λ_=>nw.1
  ·exact absurd (e6.symm.trans sw) (λz=>nomatch z)
  ·rw[cX,bS] at fs;exact absurd (aO d0 fs.1 fs.2.1) fs.2.2.1
  ·rw[bS,wGX] at c8;omega
  refine⟨_,_,_,_,_,rfl,?_,zAf.keep s5 jk k6⟩;rw[tk,← zAI,zIM];exact B6
 rintro σ' H5 ⟨v4,v5,v6,v7,v8,rfl,B5,s5⟩;rw[wGX,lq,wHo] at B5;exact⟨_,rfl,q b tl H5 nb jk s5 B5⟩
inductive sp_deed_row (K:W.Frag) (vs:List V) (H:Hp) (Q:VK) (E:XK):Prop
 | mk (a:Addr) (d:Deed):vs=[.ref a]->(SqT K H a d.vs/\d.Ok/\∀H',zAf H H'->Q (.str d.row) H')->sp_deed_row K vs H Q E
def zIc (T:Txt P K mg t):FnOk P w K mg base CX0 40 t.wBN t.wBO ["deed"] (sp_deed_row K):=by
 refine T.wDd.ok zHI ⟨⟩ ();obtain⟨a,d,rfl,hS,hok,q⟩:=h;refine⟨_,(zH (zX (zOo F.plainAttrs_str F.slot_str_join F.type_str_join (zIA K) zAF (zI (zAq ["word"] [none] (by kernel_rfl) rfl (zPA (pv 0)) (λ_ _ _ _ _=>(zK (i:=0) ndB rfl (Or.inl rfl))) (λ_ _ _ _ _=>zAs) (λ_ _ _ _ _=>(zCa zMN rfl T.wFK PyProof.Rows.boot_str (zI (pv 0) zE zA)))) zE zA2)))),?_⟩;have vl:=zPd d;have wk:=hok.words;refine⟨rfl,_,rfl,a,rfl,⟨_,hS⟩,λl hl=>?_⟩;have sl:∀o,zAf H (upd H l o):=λo=>zC hl o;refine zMJ (ys:=d.vs) (λi σ' H'=>∃(v:Option V),σ'=[v]/\H'=upd H l (.lst (((d.vs.take i).map wOf).map V.str))) ⟨none,rfl,rfl⟩ ?_ ?_ ?_
 ·rintro i σ' H' hi ⟨v,rfl,rfl⟩;exact (sl _).tup hS
 ·rintro i x σ' H' hi ⟨v,rfl,rfl⟩;have ln:(((d.vs.take i).map wOf).map V.str).length < sizeLine:=by rw[wGX,wGX,wHk];exact zAm ∅
  have et:((d.vs.take (i+1)).map wOf).map V.str=((d.vs.take i).map wOf).map V.str++[V.str (wOf x)]:=by rw[wHC,hi];simp only[Option.toList_some,wG9,wHW,List.map_nil]
  rcases wk x (wHA hi) with ⟨j,rfl,hj⟩ | ⟨z,rfl,hz⟩
  ·exact⟨_,rfl,.inl ⟨j,rfl,zO1 hj,_,zB,ln,_,rfl,by rw[zBx,et];rfl⟩⟩
  exact⟨_,rfl,.inr ⟨z,rfl,_,zB,ln,_,rfl,by rw[zBx,et];rfl⟩⟩
 rintro σ' H' ⟨v,rfl,rfl⟩;rw[wHo];refine⟨_,l,d.words,rfl,rfl,SqL.of zB,?_,q _ (sl _)⟩;have h1:∀z∈d.words,z.length<=1000:=λz hz=>by obtain⟨x,hx,rfl⟩:=List.mem_map.mp hz;exact (wk x hx).len
 have h2:=zIx d.words h1;have h3:d.words.length<=6:=by unfold Deed.words;rw[wGX];exact vl
 have h4:(Str.ofString " ").length=1:=by nofun
 rw[h4];omega
inductive sp_Book_deeds (K:W.Frag) (C:Addr) (vs:List V) (H:Hp) (Q:VK) (E:XK):Prop
 | mk (b tl:Addr) (ds:List Deed):vs=[.ref b]->(zAD H C b tl ds/\ds.length<=900/\(∀d∈ds,d.Ok)/\∀l H',H l=none->zAf H H'->H' l=some (.lst ((ds.map Deed.row).map V.str))->Q (.ref l) H')->sp_Book_deeds K C vs H Q E
def zGf (T:Txt P K mg t):FnOk P w K mg base CX0 41 t.wBb t.wBc ["self"] (sp_Book_deeds K t.wAd):=by
 refine T.wEx.ok zFO ⟨⟩ ();obtain⟨b,tl,ds,rfl,⟨dx,qs,hb,ht,hq,hd⟩,hz,hok,q⟩:=h;refine⟨_,(zH (zX (zAq ["deed"] [none] (by kernel_rfl) rfl (zAb K (zGJ (pv 0) rfl)) (λ_ _ _ _ _=>(zK (i:=0) ndB rfl (Or.inl rfl))) (λ_ _ _ _ _=>zAs) (λ_ _ _ _ _=>(cal (zIc T) hr T.wFy T.wDd T.wFx (zI (pv 0) zE zA)))))),?_⟩;refine⟨_,rfl,b,_,dx,_,_,rfl,hb,T.wAf,T.wAq,rfl,tl,rfl,⟨_,SqL.of ht⟩,λl hl=>?_⟩;refine zAr (ys:=qs.map V.ref) (λi σ' H'=>∃(v:Option V),σ'=[v]/\zAf H H'/\H' l=some (.lst (((ds.take i).map Deed.row).map V.str))) ⟨none,rfl,zC hl _,zB⟩ ?_ ?_ ?_
 ·rintro i σ' H' hi ⟨v,rfl,s',el⟩;exact SqL.of (s' _ _ ht)
 ·rintro i x σ' H' hi ⟨v,rfl,s',el⟩;rw[wG6] at hi;obtain⟨a,ha,rfl⟩:∃a,qs[i]?=some a/\V.ref a=x:=by
   cases e:qs[i]? with
   | none=>rw[e] at hi;cases hi
   | some a=>rw[e] at hi;exact⟨a,rfl,wG8 hi⟩
  have aC:i < ds.length:=by rw[← hq];exact (wIi ha).1
  have fJ:ds[i]?=some ds[i]:=wG0 aC;refine⟨_,rfl,a,ds[i],rfl,SqT.of (s' _ _ (hd i a _ ha fJ)),hok _ (wHs aC),λH2 s2=>?_⟩;refine⟨_,s2 _ _ el,by rw[wGX,wGX,wHk];exact zAm ∅,_,rfl,zY (s'.trans s2) hl _,?_⟩;rw[zB,wHC,fJ];simp only[Option.toList_some,wG9,wHW,List.map_nil]
 rintro σ' H' ⟨v,rfl,s',el⟩;rw[wGX,hq,wHo] at el;exact q l H' hl s' el
inductive sp_gcd (K:W.Frag) (vs:List V) (H:Hp) (Q:VK) (E:XK):Prop
 | mk (a b:Int):vs=[.int a,.int b]->(Q (.int (Nat.gcd a.natAbs b.natAbs:Nat)) H)->sp_gcd K vs H Q E
def zNl (T:Txt P K mg t):FnOk P w K mg base CX0 40 t.wFn t.wFo ["_law_one","_law_two"] (sp_gcd K):=by
 refine T.wFB.ok zFy ⟨⟩ ();obtain⟨a,b,rfl,q⟩:=h;refine⟨_,(zD (zAE 2 zFy.nd (zS zDv rfl T.wDk PyProof.Rows.boot_abs (zI (pv 0) zE zA)))
  (zD (zAE 3 zFy.nd (zS zDv rfl T.wDk PyProof.Rows.boot_abs (zI (pv 1) zE zA)))
  (zD (zFY PassesOwn.never (zAc zDH (pv 3) zG (zAj _)) (zD (zAE 4 zFy.nd (zW zAt (pv 2) (pv 3)))
  (zD (zAE 2 zFy.nd (pv 3))
  (zH (zAE 3 zFy.nd (pv 4))))))
  (zH (zX (pv 2)))))),?_⟩
 refine⟨_,rfl,_,rfl,_,rfl,_,rfl,?_⟩;refine⟨λm σ H1=>∃(n k:Nat) (r:Option V),m=k/\H1=H/\σ=[some (.int a),some (.int b),some (.int (n:Int)),some (.int (k:Int)),r]/\Nat.gcd n k=Nat.gcd a.natAbs b.natAbs,⟨b.natAbs,a.natAbs,b.natAbs,none,rfl,rfl,?_,rfl⟩,?_⟩
 ·rw[zFc,zFc];rfl
 rintro m σ H1 ⟨n,k,r,rfl,rfl,rfl,e⟩;refine⟨_,rfl,rfl,_,rfl,?_⟩;refine zCw (λc=>?_) (λc=>?_)
 ·have k0:m≠0:=λz=>by subst z;revert c;decide
  refine⟨λσ' H'=>H'=H1/\σ'=[some (.int a),some (.int b),some (.int (m:Int)),some (.int ((n%m:Nat):Int)),some (.int ((n%m:Nat):Int))],?_,?_⟩
  ·rintro σ' H' ⟨rfl,rfl⟩;exact⟨n%m,Nat.mod_lt _ (Nat.pos_of_ne_zero k0),m,n%m,_,rfl,rfl,rfl,by rw[← e,Nat.gcd_comm n m,Nat.gcd_rec m n,Nat.gcd_comm (n%m) m]⟩
  refine⟨_,rfl,_,rfl,_,_,rfl,rfl,(by show (0:Int) < _;omega),_,rfl,_,rfl,rfl,?_⟩;rw[Int.natCast_emod];rfl
 have k0:m=0:=by
  by_cases z:m=0
  ·exact z
  exact absurd (by simp[z]) c
 subst k0;rw[Nat.gcd_zero_right] at e;rw[← e] at q;exact⟨_,rfl,q⟩
inductive sp_fraction (K:W.Frag) (vs:List V) (H:Hp) (Q:VK) (E:XK):Prop
 | mk (p:Addr) (x y:Int):vs=[.ref p]->(H p=some (.tup [.int x,.int y])/\0 < y/\Nat.gcd x.natAbs y.natAbs=1/\Q (.bl true) H)->sp_fraction K vs H Q E
def zIb (T:Txt P K mg t):FnOk P w K mg base CX0 41 t.wBP t.wBQ ["_law_found"] (sp_fraction K):=by
 refine T.wDf.ok zHH ⟨⟩ ();obtain⟨p,x,y,rfl,e,hy,g,q⟩:=h;refine⟨_,(zD (zA4 (PW.pt (zEA (zAZ (zAQ (zS (zAC K) rfl T.wAb wHc (zN (pv 0) (zBQ (v:=.ty "tuple") rfl T.wFi PyProof.Rows.boot_tuple rfl) zE zA zA)))) (zCO (zAc zDH (zS (zAi K) rfl T.wAi wHr (zI (pv 0) zE zA)) zG (zAj _))))) (zH (zX zBu)) zAd)
  (zD (zA4 (PW.pt (zEA (zAZ (zAQ (cal (zGa T) hr T.wDH T.wCw T.wDG (zI (zAW K (pv 0) zG) zE zF)))) (zEA (zAZ (zAQ (cal (zGa T) hr T.wDH T.wCw T.wDG (zI (zAW K (pv 0) zG) zE zF)))) (zCO (zAc zGP (zAW K (pv 0) zG) zG (zAj _)))))) (zH (zX zBu)) zAd)
  (zH (zX (zCr zCA (cal (zNl T) hr T.wGq T.wFB T.wGp (zN (zAW K (pv 0) zG) (zAW K (pv 0) zG) zE zF zF)) zG (zAj _)))))),?_⟩
 have ex:=SqT.of (K:=K) e;refine⟨_,rfl,_,_,_,_,rfl,.tup e,rfl,_,rfl,zCf ?_⟩;refine⟨_,rfl,p,_,rfl,.inr ex,rfl,_,rfl,zDK rfl ?_⟩;refine⟨_,rfl,p,_,_,_,rfl,rfl,ex,rfl,.inl ⟨_,rfl,_,rfl,zCf ?_⟩⟩;refine⟨_,rfl,p,_,_,_,rfl,rfl,ex,rfl,.inl ⟨_,rfl,_,rfl,zCf ?_⟩⟩;refine⟨_,rfl,p,_,_,_,rfl,rfl,ex,rfl,_,_,rfl,rfl,_,rfl,zNp ∅ ?_⟩;refine⟨_,rfl,p,_,_,_,rfl,rfl,ex,rfl,_,rfl,p,_,_,_,rfl,rfl,ex,rfl,x,y,rfl,rfl,?_⟩;rw[g];exact q
inductive sp_fractions (K:W.Frag) (vs:List V) (H:Hp) (Q:VK) (E:XK):Prop
 | mk (d:Addr) (q:Nat->Addr) (n:Nat) (X Y:Nat->Int):vs=[.ref d,.int (n:Nat)]->(FrAt H d q n X Y/\(∀i,i < n->0 < Y i/\Nat.gcd (X i).natAbs (Y i).natAbs=1)/\n<=900/\Q (.bl true) H)->sp_fractions K vs H Q E
def zGU (T:Txt P K mg t):FnOk P w K mg base CX0 42 t.wBu t.wBv ["_law_found","_law_count"] (sp_fractions K):=by
 refine T.wCH.ok zDR ⟨⟩ ();obtain⟨d,q,n,X,Y,rfl,fa,fo,n9,k⟩:=h;refine⟨_,(zD (zA4 (PW.pt (zEA (zAZ (zAQ (zS (zAC K) rfl T.wAb wHc (zN (pv 0) (zBQ (v:=.ty "list") rfl T.wCv PyProof.Rows.boot_list rfl) zE zA zA)))) (zCO (zAc zDH (zS (zAi K) rfl T.wAi wHr (zI (pv 0) zE zA)) (pv 1) (zAj _))))) (zH (zX zBu)) zAd)
  (zD (zAp PassesOwn.never rfl (zAb K (pv 0)) (zK (i:=2) zDR.nd rfl (Or.inl rfl)) (zH (zA4 (zAZ (zAQ (cal (zIb T) hr T.wFF T.wDf T.wFE (zI (pv 2) zE zA)))) (zH (zX zBu)) zAd)))
  (zH (zX zBu)))),?_⟩
 refine⟨_,rfl,_,_,_,_,rfl,.lst fa.top,rfl,_,rfl,zCf ?_⟩;refine⟨_,rfl,d,_,rfl,.inl (SqL.of fa.top),_,rfl,rfl,_,rfl,zDK (vi (by rw[zAa])) ?_⟩;refine⟨_,rfl,d,rfl,⟨_,SqL.of fa.top⟩,zAy (K:=K) (a:=d) (xs:=tab n λi=>V.ref (q i)) (λi σ' H'=>∃u,σ'=[some (.ref d),some (.int (n:Nat)),u]/\H'=H) ⟨_,rfl,rfl⟩ (λi σ' H' _ ⟨_,_,e⟩=>by rw[e];exact SqL.of fa.top) ?_ ?_⟩
 ·rintro i x σ' H' hx ⟨u,rfl,rfl⟩;obtain⟨hi,rfl⟩:=zAN hx;refine⟨_,rfl,q i,X i,Y i,rfl,fa.row i hi,(fo i hi).1,(fo i hi).2,_,rfl,zCf ⟨_,rfl,rfl⟩⟩
 rintro σ' H' ⟨u,rfl,rfl⟩;exact k
def sR (f:Nat->Rat):Nat->Rat
 | 0=>0
 | n+1=>sR f n+f n
theorem zCv {f g:Nat->Rat}:∀{n:Nat},(∀i,i < n->f i=g i)->sR f n=sR g n
 | 0,_=>rfl
 | n+1,h=>by show sR f n+f n=sR g n+g n;rw[zCv λi hi=>h i ∅,h n ∅]
theorem zI0 {f g:Nat->Rat} {a b:Rat}:∀{n:Nat},sR (λi=>a*f i+b*g i) n=a*sR f n+b*sR g n
 | 0=>by show (0:Rat)=a*0+b*0;grind
 | n+1=>by
  show sR (λi=>a*f i+b*g i) n+(a*f n+b*g n)=a*(sR f n+f n)+b*(sR g n+g n);rw[zI0]
  grind
theorem zKe {f:Nat->Rat}:∀{n:Nat},(∀i,i < n->f i=0)->sR f n=0
 | 0,_=>rfl
 | n+1,h=>by show sR f n+f n=0;rw[zKe λi hi=>h i ∅,h n ∅];grind
theorem zPy {f:Nat->Rat}:∀{n:Nat},(∀i,i < n->0<=f i)->0<=sR f n
 | 0,_=>Rat.le_refl
 | n+1,h=>by
  have:=zPy (f:=f) (n:=n) λi hi=>h i ∅;have:=h n ∅;show 0<=sR f n+f n
  grind
theorem zGC {f:Nat->Rat} {p:Nat}:∀{n:Nat},p < n->sR f n=sR (λi=>if i=p then 0 else f i) n+f p
 | 0,h=>absurd h (wHd _)
 | n+1,h=>by
  show sR f n+f n=sR (λi=>if i=p then 0 else f i) n+(if n=p then 0 else f n)+f p;by_cases c:n=p
  ·subst c;rw[wG1 rfl,zCv (f:=λi=>if i=n then 0 else f i) (g:=f) λi hi=>wGZ ∅]
   grind
  rw[wGZ c,zGC (p:=p) ∅]
  grind
def wS (ws:Wys) (i:Nat) (c:Nat->Rat):Rat:=sR (λm=>if wt ws m=i then ((wp ws m:Int):Rat)*c (wg ws m) else 0) ws.length
def zJA (ws:Wys) (i:Nat) (a b:Rat) (c d:Nat->Rat):wS ws i (λj=>a*c j+b*d j)=a*wS ws i c+b*wS ws i d:=by
 unfold wS;rw[← zI0];refine zCv λm _=>?_;by_cases e:wt ws m=i
 ·rw[wG1 e,wG1 e,wG1 e];grind
 rw[wGZ e,wGZ e,wGZ e];grind
def zPb {n:Nat} {ws:Wys} (wo:WyOk n ws) {i:Nat} {c d:Nat->Rat} (h:∀j,j < n->c j=d j):wS ws i c=wS ws i d:=by unfold wS;refine zCv λm hm=>?_;show (if wt ws m=i then _*c (wg ws m) else 0)=(if wt ws m=i then _*d (wg ws m) else 0);rw[h _ (wo.g m hm)]
def RwI (n:Nat) (ws:Wys) (k:Nat) (c g:Nat->Rat):Prop:=∀i,i < n->1000*(c i+g i)=1000*(if i=k then 1 else 0)+wS ws i c
def RwW (n:Nat) (z:Nat->Rat) (k:Nat) (g:Nat->Rat):Prop:=(∀j,j < n->0<=g j)/\sR (λj=>g j*z j) n < z k
def RwI.scale {n:Nat} {ws:Wys} {o:Nat} {c g:Nat->Rat} (h:RwI n ws o c g) {s:Rat} (hs:s*(1-g o)=1):RwI n ws o (λi=>s*c i) (λi=>if i=o then 0 else s*g i):=λi hi=>by
 have e:=h i hi;have w:=zJA ws i s 0 c c;have w2:wS ws i (λj=>s*c j+0*c j)=wS ws i (λj=>s*c j):=by congr 1;funext j;grind
 rw[w2] at w;rw[w];show 1000*(s*c i+(if i=o then 0 else s*g i))=_;by_cases d:i=o
 ·subst d;rw[wG1 rfl] at e ⊢;rw[wG1 rfl]
  grind
 rw[wGZ d] at e ⊢;rw[wGZ d]
 grind
def RwI.add {n:Nat} {ws:Wys} {k o:Nat} {c g co go:Nat->Rat} (h:RwI n ws k c g) (ho:RwI n ws o co go) (h0:go o=0):RwI n ws k (λi=>c i+g o*co i) (λi=>(if i=o then 0 else g i)+g o*go i):=λi hi=>by
 have e:=h i hi;have e2:=ho i hi;have w:=zJA ws i 1 (g o) c co;have w2:wS ws i (λj=>1*c j+g o*co j)=wS ws i (λj=>c j+g o*co j):=by congr 1;funext j;grind
 rw[w2] at w;rw[w];show 1000*(c i+g o*co i+((if i=o then 0 else g i)+g o*go i))=_;by_cases d:i=o
 ·subst d;rw[wG1 rfl] at e2 ⊢;rw[h0] at e2 ⊢
  grind
 rw[wGZ d] at e2 ⊢
 grind
def RwW.one {n:Nat} {z:Nat->Rat} {o:Nat} {g:Nat->Rat} (h:RwW n z o g) (hz:∀j,j < n->0 < z j) (ho:o < n):g o < 1/\sR (λj=>if j=o then 0 else g j*z j) n < z o*(1-g o):=by
 obtain⟨h0,h1⟩:=h;rw[zGC ho] at h1;have p:=zPy (f:=λj=>if j=o then 0 else g j*z j) (n:=n) λi hi=>by
  show 0<=if i=o then 0 else g i*z i
  split
  ·exact Rat.le_refl
  exact Rat.mul_nonneg (h0 i hi) (Rat.le_of_lt (hz i hi))
 have z0:=hz o ho;refine⟨?_,by grind⟩;refine wHH λc=>?_;have c':1<=g o:=Rat.not_lt.mp c;have:1*z o<=g o*z o:=Rat.mul_le_mul_of_nonneg_right c' (Rat.le_of_lt z0)
 grind
def RwW.scale {n:Nat} {z:Nat->Rat} {o:Nat} {g:Nat->Rat} (h:RwW n z o g) (hz:∀j,j < n->0 < z j) (ho:o < n) {s:Rat} (hs:s*(1-g o)=1):RwW n z o (λi=>if i=o then 0 else s*g i):=by
 obtain⟨g1,h2⟩:=h.one hz ho;have s0:0 < s:=by
  refine wHH λc=>?_;have c':s<=0:=Rat.not_lt.mp c;have:s*(1-g o)<=0*(1-g o):=Rat.mul_le_mul_of_nonneg_right c' (by grind)
  grind
 refine⟨λj hj=>?_,?_⟩
 ·show 0<=if j=o then 0 else s*g j
  split
  ·exact Rat.le_refl
  exact Rat.mul_nonneg (Rat.le_of_lt s0) (h.1 j hj)
 have e:sR (λj=>(if j=o then 0 else s*g j)*z j) n=s*sR (λj=>if j=o then 0 else g j*z j) n+0*sR (λj=>if j=o then 0 else g j*z j) n:=by
  rw[← zI0];refine zCv λj _=>?_;by_cases c:j=o
  ·rw[wG1 c,wG1 c];grind
  rw[wGZ c,wGZ c];grind
 rw[e];have:=Rat.mul_lt_mul_of_pos_right h2 s0;have e2:z o*(1-g o)*s=z o:=by rw[Rat.mul_assoc,Rat.mul_comm (1-g o) s,hs];grind
 rw[e2] at this;generalize sR (λj=>if j=o then 0 else g j*z j) n=S at this ⊢
 grind
def RwW.add {n:Nat} {z:Nat->Rat} {k o:Nat} {g go:Nat->Rat} (h:RwW n z k g) (h2:RwW n z o go) (ho:o < n):RwW n z k (λi=>(if i=o then 0 else g i)+g o*go i):=by
 refine⟨λj hj=>?_,?_⟩
 ·have a:=Rat.mul_nonneg (h.1 o ho) (h2.1 j hj);show 0<=(if j=o then 0 else g j)+g o*go j
  split
  ·grind
  have:=h.1 j hj;grind
 have e:sR (λj=>((if j=o then 0 else g j)+g o*go j)*z j) n=1*sR (λj=>if j=o then 0 else g j*z j) n+g o*sR (λj=>go j*z j) n:=by
  rw[← zI0];refine zCv λj _=>?_;by_cases c:j=o
  ·rw[wG1 c,wG1 c];grind
  rw[wGZ c,wGZ c];grind
 rw[e];have a:=h.2;rw[zGC ho] at a;have b:=Rat.mul_le_mul_of_nonneg_left (Rat.le_of_lt h2.2) (h.1 o ho)
 grind
def qv (x y:Int):Rat:=(x:Rat) / (y:Rat)
def zE9 {b:Int} (h:0 < b):(0:Rat) < (b:Rat):=Rat.intCast_pos.mpr h
def zC7 {b:Int} (h:0 < b):(b:Rat)≠0:=λz=>by have:=zE9 h;rw[z] at this;exact Rat.lt_irrefl this
def zI1 {t b x y:Int} (l:Low t b x y) (hb:0 < b):qv x y=qv t b:=by
 have e:=l.eq;have h1:(x:Rat)*b=t*y:=by rw[← wHU,← wHU,e]
 have h2:=zC7 hb;have h3:=zC7 l.pos;unfold qv
 grind
def zBA (y:Int):qv 0 y=0:=by unfold qv;rw[Rat.intCast_zero];grind
def zNg {x y:Int} (hy:0 < y) (h:qv x y=0):x=0:=by
 have h3:=zC7 hy;unfold qv at h;have:(x:Rat)=0:=by grind
 exact Rat.intCast_eq_zero_iff.mp this
def zP4 {x y:Int} (hx:0<=x) (hy:0 < y):0<=qv x y:=by unfold qv;rw[Rat.div_def];exact Rat.mul_nonneg (Rat.intCast_nonneg.mpr hx) (Rat.le_of_lt (Rat.inv_pos.mpr (zE9 hy)))
def zKn {x y:Int} (h:0<=qv x y) (hy:0 < y):0<=x:=by
 have e:(x:Rat)=qv x y*(y:Rat):=by
  have:=zC7 hy;unfold qv
  grind
 have:0<=(x:Rat):=by rw[e];exact Rat.mul_nonneg h (Rat.le_of_lt (zE9 hy))
 exact Rat.intCast_nonneg.mp this
def zNi {x y z u:Int} (hy:0 < y) (hu:0 < u):qv (x*u+z*y) (y*u)=qv x y+qv z u:=by
 have h1:=zC7 hy;have h2:=zC7 hu;unfold qv;rw[Rat.intCast_add,wHU,wHU,wHU]
 grind
def zNh {x y z u:Int} (hy:0 < y) (hu:0 < u):qv (x*z) (y*u)=qv x y*qv z u:=by
 have h1:=zC7 hy;have h2:=zC7 hu;unfold qv;rw[wHU,wHU]
 grind
def zOh {x y:Int} (hy:0 < y) (h:qv x y < 1):0 < y-x/\qv y (y-x)*(1-qv x y)=1:=by
 have h1:=zC7 hy;have p:0 < y-x:=by
  have e:(x:Rat)=qv x y*(y:Rat):=by unfold qv;grind
  have:=Rat.mul_lt_mul_of_pos_right h (zE9 hy);have h2:(x:Rat) < (y:Rat):=by rw[e];grind
  have:=Rat.intCast_lt_intCast.mp h2;omega
 refine⟨p,?_⟩;have h2:=zC7 p;rw[Rat.intCast_sub] at h2;unfold qv;rw[Rat.intCast_sub]
 grind
structure MxAt (H:Hp) (l:Addr) (rw:Nat->Addr) (q:Nat->Nat->Addr) (n:Nat) (x y:Nat->Nat->Int):Prop where
 top:H l=some (.lst (tab n λk=>V.ref (rw k)))
 row:∀k,k < n->FrAt H (rw k) (q k) n (x k) (y k)
 inj:∀k j,k < n->j < n->rw k=rw j->k=j
def MxAt.same {H H':Hp} {l:Addr} {rw:Nat->Addr} {q:Nat->Nat->Addr} {n:Nat} {x y:Nat->Nat->Int} (h:MxAt H l rw q n x y) (s:zAf H H'):MxAt H' l rw q n x y:=⟨s _ _ h.top,λk hk=>(h.row k hk).mono s,h.inj⟩
def zJH {n:Nat} {f g:Nat->Addr} (h:some (HO.lst (tab n λk=>V.ref (f k)))=some (HO.lst (tab n λk=>V.ref (g k)))) {k:Nat} (hk:k < n):f k=g k:=by have e:(tab n λk=>V.ref (f k))=tab n λk=>V.ref (g k):=HO.lst.inj (wG8 h);have e2:=congrArg (λl=>l[k]?) e;simp only[zD4 hk] at e2;exact V.ref.inj (wG8 e2)
def zGD {H:Hp} {a b:Addr} {n:Nat} {rw q:Nat->Addr} {x y:Nat->Int} (ht:H a=some (.lst (tab n λk=>V.ref (rw k)))) (h0:∃xs,H (rw 0)=some (.lst xs)) (hr:FrAt H b q n x y) (n1:1<=n):a≠b:=λz=>by subst z;have e:=zJH (ht.symm.trans hr.top) (k:=0) ∅;obtain⟨xs,h0⟩:=h0;rw[e,hr.row 0 ∅] at h0;cases h0
def zB8 {H:Hp} {r a:Addr} {q:Nat->Addr} {n:Nat} {x y:Nat->Int} (h:FrAt H r q n x y) (ha:∃xs,H a=some (.lst xs)) (ne:r≠a) {o:HO}:FrAt (upd H a o) r q n x y:=by obtain⟨xs,ha⟩:=ha;exact⟨by rw[zO ne];exact h.top,λi hi=>by rw[zO (zBG (h.row i hi) ha (by intro z;cases z))];exact h.row i hi⟩
structure TwoA (H0 H:Hp) (lg lc:Addr) (rg:Nat->Addr) (qg:Nat->Nat->Addr) (rc:Nat->Addr) (qc:Nat->Nat->Addr) (n:Nat) (gx gy cx cy:Nat->Nat->Int):Prop where
 s:zAf H0 H
 g0:H0 lg=none
 c0:H0 lc=none
 G:MxAt H lg rg qg n gx gy
 C:MxAt H lc rc qc n cx cy
 D:∀k j,k < n->j < n->rg k≠rc j
 f:∀k,k < n->H0 (rg k)=none/\H0 (rc k)=none
def zJ0 (H0 H:Hp) (lg lc:Addr) (n:Nat) (gx gy cx cy:Nat->Nat->Int):Prop:=∃rg qg rc qc,TwoA H0 H lg lc rg qg rc qc n gx gy cx cy
def TwoA.same {H0 H H':Hp} {lg lc:Addr} {rg rc:Nat->Addr} {qg qc:Nat->Nat->Addr} {n:Nat} {gx gy cx cy:Nat->Nat->Int} (h:TwoA H0 H lg lc rg qg rc qc n gx gy cx cy) (s:zAf H H'):TwoA H0 H' lg lc rg qg rc qc n gx gy cx cy:=⟨h.s.trans s,h.g0,h.c0,h.G.same s,h.C.same s,h.D,h.f⟩
def TwoA.swap {H0 H:Hp} {lg lc:Addr} {rg rc:Nat->Addr} {qg qc:Nat->Nat->Addr} {n:Nat} {gx gy cx cy:Nat->Nat->Int} (h:TwoA H0 H lg lc rg qg rc qc n gx gy cx cy):TwoA H0 H lc lg rc qc rg qg n cx cy gx gy:=⟨h.s,h.c0,h.g0,h.C,h.G,λk j hk hj z=>h.D j k hj hk z.symm,λk hk=>⟨(h.f k hk).2,(h.f k hk).1⟩⟩
def zJ0.swap {H0 H:Hp} {lg lc:Addr} {n:Nat} {gx gy cx cy:Nat->Nat->Int} (h:zJ0 H0 H lg lc n gx gy cx cy):zJ0 H0 H lc lg n cx cy gx gy:=by obtain⟨rg,qg,rc,qc,h⟩:=h;exact⟨rc,qc,rg,qg,h.swap⟩
section
variable {H0 H:Hp} {lg lc:Addr} {rg rc:Nat->Addr} {qg qc:Nat->Nat->Addr} {n:Nat} {gx gy cx cy:Nat->Nat->Int}
def TwoA.set (A:TwoA H0 H lg lc rg qg rc qc n gx gy cx cy) {a t:Nat} (ha:a < n) (ht:t < n) {p:Addr} {u v:Int} (hp:H p=some (.tup [.int u,.int v])) :
  zJ0 H0 (upd H (rg a) (.lst ((tab n λj=>V.ref (qg a j)).set t (V.ref p)))) lg lc n (λk j=>if k=a/\j=t then u else gx k j) (λk j=>if k=a/\j=t then v else gy k j) cx cy:=by
 obtain⟨s0,g0,c0,G,C,D,f0⟩:=A;have ea:=(G.row a ha).top;have xa:∃xs,H (rg a)=some (.lst xs):=⟨_,ea⟩;have n1:1<=n:=by omega
 have l1:lg≠rg a:=zGD G.top ⟨_,(G.row 0 ∅).top⟩ (G.row a ha) n1;have l2:lc≠rg a:=zGD C.top ⟨_,(C.row 0 ∅).top⟩ (G.row a ha) n1;refine⟨rg,λk j=>if k=a/\j=t then p else qg k j,rc,qc,zY s0 (f0 a ha).1 _,g0,c0,⟨by rw[zO l1];exact G.top,λk hk=>?_,G.inj⟩,⟨by rw[zO l2];exact C.top,λk hk=>zB8 (C.row k hk) xa (D a k ha hk).symm,C.inj⟩,D,f0⟩;by_cases e:k=a
 ·subst e;refine⟨?_,λi hi=>?_⟩
  ·rw[zB,zD3];refine congrArg (λl=>some (HO.lst l)) (zAz λj _=>?_);by_cases c:j=t
   ·rw[wG1 c,wG1 ⟨rfl,c⟩]
   rw[wGZ c,wGZ λz=>c z.2]
  by_cases c:i=t
  ·rw[wG1 ⟨rfl,c⟩,wG1 ⟨rfl,c⟩,wG1 ⟨rfl,c⟩,zO (zBG hp ea (by intro z;cases z))];exact hp
  rw[wGZ λz=>c z.2,wGZ λz=>c z.2,wGZ λz=>c z.2];have:=(G.row k ha).row i hi;rw[zO (zBG this ea (by intro z;cases z))];exact this
 have:=zB8 (G.row k hk) (o:=.lst ((tab n λj=>V.ref (qg a j)).set t (V.ref p))) xa λz=>e (G.inj k a hk ha z);refine⟨?_,λi hi=>?_⟩
 ·rw[this.top];exact congrArg (λl=>some (HO.lst l)) (zAz λj _=>by rw[wGZ λz=>e z.1])
 rw[wGZ λz=>e z.1,wGZ λz=>e z.1,wGZ λz=>e z.1];exact this.row i hi
def TwoA.rep (A:TwoA H0 H lg lc rg qg rc qc n gx gy cx cy) {o:Nat} (ho:o < n) {r:Addr} {q:Nat->Addr} {x y:Nat->Int} (F:FrAt H r q n x y) (hr:H0 r=none) (n1:∀k,k < n->r≠rg k) (n2:∀k,k < n->r≠rc k) :
  zJ0 H0 (upd H lg (.lst ((tab n λk=>V.ref (rg k)).set o (V.ref r)))) lg lc n (λk=>if k=o then x else gx k) (λk=>if k=o then y else gy k) cx cy:=by
 obtain⟨s0,g0,c0,G,C,D,f0⟩:=A;have xl:∃xs,H lg=some (.lst xs):=⟨_,G.top⟩;have p0:1<=n:=by omega
 have x0:∃xs,H (rg 0)=some (.lst xs):=⟨_,(G.row 0 ∅).top⟩;have lr:∀k,k < n->rg k≠lg:=λk hk=>(zGD G.top x0 (G.row k hk) p0).symm;have lc':∀k,k < n->rc k≠lg:=λk hk=>(zGD G.top x0 (C.row k hk) p0).symm;have rl:r≠lg:=(zGD G.top x0 F p0).symm;have ll:lc≠lg:=λz=>by have e:=C.top;rw[z] at e;exact D 0 0 ∅ ∅ (zJH (G.top.symm.trans e) (k:=0) ∅)
 refine⟨λk=>if k=o then r else rg k,λk=>if k=o then q else qg k,rc,qc,zY s0 g0 _,g0,c0,⟨?_,λk hk=>?_,λk j hk hj=>?_⟩,⟨by rw[zO ll];exact C.top,λk hk=>zB8 (C.row k hk) xl (lc' k hk),C.inj⟩,λk j hk hj=>?_,λk hk=>⟨?_,(f0 k hk).2⟩⟩
 ·rw[zB,zD3];refine congrArg (λl=>some (HO.lst l)) (zAz λj _=>?_);by_cases c:j=o
  ·rw[wG1 c,wG1 c]
  rw[wGZ c,wGZ c]
 ·by_cases c:k=o
  ·simp only[wG1 c];exact zB8 F xl rl
  simp only[wGZ c];exact zB8 (G.row k hk) xl (lr k hk)
 ·by_cases c:k=o
  ·by_cases d:j=o
   ·intro _;omega
   rw[wG1 c,wGZ d];exact λz=>absurd z (n1 j hj)
  by_cases d:j=o
  ·rw[wGZ c,wG1 d];exact λz=>absurd z.symm (n1 k hk)
  rw[wGZ c,wGZ d];exact G.inj k j hk hj
 ·show (if k=o then r else rg k)≠rc j;by_cases c:k=o
  ·rw[wG1 c];exact n2 j hj
  rw[wGZ c];exact D k j hk hj
 show H0 (if k=o then r else rg k)=none;by_cases c:k=o
 ·rw[wG1 c];exact hr
 rw[wGZ c];exact (f0 k hk).1
end
inductive sp_made (K:W.Frag) (vs:List V) (H:Hp) (Q:VK) (E:XK):Prop
 | mk (t b:Int):vs=[.int t,.int b]->(0 < b/\∀(p:Addr) (x y:Int),H p=none->Low t b x y->Q (.ref p) (upd H p (.tup [.int x,.int y])))->sp_made K vs H Q E
def zEJ (T:Txt P K mg t):FnOk P w K mg base CX0 41 t.wEi t.wEj ["_law_top","_law_bottom"] (sp_made K):=by
 refine T.wBA.ok zJU ⟨⟩ ();obtain⟨a,b,rfl,hb,q⟩:=h;refine⟨_,(zD (zAE 2 zJU.nd (cal (zNl T) hr T.wGq T.wFB T.wGp (zN (pv 0) (pv 1) zE zA zA)))
  (zH (zX (zAR (zN (zW (zDp hr ⋯ T.tree ⟨_,_,rfl,rfl,rfl,rfl,rfl⟩) (pv 0) (pv 2)) (zW (zDp hr ⋯ T.tree ⟨_,_,rfl,rfl,rfl,rfl,rfl⟩) (pv 1) (pv 2)) zE zT zT))))),?_⟩
 have g0:0 < gI a b:=zDY ∅;exact⟨_,rfl,_,rfl,a,b,rfl,_,rfl,_,rfl,_,_,rfl,rfl,(by show gI a b≠0;omega),_,rfl,_,rfl,_,_,rfl,rfl,(by show gI a b≠0;omega),zA8,λp hp=>q p _ _ hp (zKN hb)⟩
inductive sp_sum (K:W.Frag) (vs:List V) (H:Hp) (Q:VK) (E:XK):Prop
 | mk (p r:Addr) (x y z u:Int) (j k:Nat):vs=[.ref p,.ref r]->(H p=some (.tup [.int x,.int y])/\H r=some (.tup [.int z,.int u])/\0 < y/\0 < u/\Bt j x/\Bt j y/\Bt k z/\Bt k u/\j+k<=134217728/\
 ∀(m:Addr) (a b:Int),H m=none->Low (x*u+z*y) (y*u) a b->Q (.ref m) (upd H m (.tup [.int a,.int b])))->sp_sum K vs H Q E
def zK9 (T:Txt P K mg t):FnOk P w K mg base CX0 42 t.wFp t.wFq ["_law_one","_law_two"] (sp_sum K):=by refine T.wD4.ok zPt ⟨⟩ ();obtain⟨p,r,x,y,z,u,j,k,rfl,ex,ez,y0,u0,bx,cK,bz,bu,hb,q⟩:=h;refine⟨_,(zH (zX (cal (zEJ T) hr T.wCo T.wBA T.wCn (zN (zW zBj (zW zAV (zAW K (pv 0) zG) (zAW K (pv 1) zG)) (zW zAV (zAW K (pv 1) zG) (zAW K (pv 0) zG))) (zW zAV (zAW K (pv 0) zG) (zAW K (pv 1) zG)) zE zT zT)))),?_⟩;have Sx:=SqT.of (K:=K) ex;have Sz:=SqT.of (K:=K) ez;exact⟨_,rfl,p,_,_,_,rfl,rfl,Sx,rfl,_,rfl,r,_,_,_,rfl,rfl,Sz,rfl,_,_,rfl,rfl,zA6 bx bu hb,_,rfl,r,_,_,_,rfl,rfl,Sz,rfl,_,rfl,p,_,_,_,rfl,rfl,Sx,rfl,_,_,rfl,rfl,zA6 bz cK ∅,_,_,rfl,rfl,_,rfl,p,_,_,_,rfl,rfl,Sx,rfl,_,rfl,r,_,_,_,rfl,rfl,Sz,rfl,_,_,rfl,rfl,zA6 cK bu hb,_,_,rfl,wH3 y0 u0,q⟩
inductive sp_more (K:W.Frag) (vs:List V) (H:Hp) (Q:VK) (E:XK):Prop
 | mk (p s r:Addr) (x y e f z u:Int) (j k l:Nat):vs=[.ref p,.ref s,.ref r]->(H p=some (.tup [.int x,.int y])/\H s=some (.tup [.int e,.int f])/\H r=some (.tup [.int z,.int u])/\0 < y/\0 < f/\0 < u/\Bt j x/\Bt j y/\Bt k e/\Bt k f/\Bt l z/\Bt l u/\j+(k+l)<=134217728/\
 ∀(m:Addr) (a b:Int) (H':Hp),zAf H H'->H m=none->H' m=some (.tup [.int a,.int b])->Low (x*(f*u)+e*z*y) (y*(f*u)) a b->Q (.ref m) H')->sp_more K vs H Q E
def zKE (T:Txt P K mg t):FnOk P w K mg base CX0 43 t.wEk t.wEl ["_law_one","_law_by","_law_two"] (sp_more K):=by refine T.wEK.ok zNV ⟨⟩ ();obtain⟨p,s,r,x,y,e,f,z,u,j,k,l,rfl,ex,ee,ez,y0,f0,u0,bx,cK,be,bf,bz,bu,hb,q⟩:=h;refine⟨_,(zH (zX (cal (zK9 T) hr T.wFD T.wD4 T.wFC (zN (pv 0) (zAR (zN (zW zAV (zAW K (pv 1) zG) (zAW K (pv 2) zG)) (zW zAV (zAW K (pv 1) zG) (zAW K (pv 2) zG)) zE zT zT)) zE zA zAX)))),?_⟩;have Se:=SqT.of (K:=K) ee;have Sz:=SqT.of (K:=K) ez;refine⟨_,rfl,_,rfl,s,_,_,_,rfl,rfl,Se,rfl,_,rfl,r,_,_,_,rfl,rfl,Sz,rfl,_,_,rfl,rfl,zA6 be bz ∅,_,rfl,s,_,_,_,rfl,rfl,Se,rfl,_,rfl,r,_,_,_,rfl,rfl,Sz,rfl,_,_,rfl,rfl,zA6 bf bu ∅,zA8,λt1 h1=>?_⟩;have s1:=zC h1 (.tup [.int (e*z),.int (f*u)]);exact⟨p,t1,x,y,e*z,f*u,j,k+l,rfl,s1 _ _ ex,zB,y0,wH3 f0 u0,bx,cK,be.mul bz,bf.mul bu,hb,λm a b hm lw=>q m a b _ (s1.trans (zC hm _)) (s1.free hm) zB lw⟩
structure StM (n:Nat) (ws:Wys) (z:Nat->Rat) (gx gy cx cy:Nat->Nat->Int):Prop where
 ri:∀k,k < n->RwI n ws k (λj=>qv (cx k j) (cy k j)) (λj=>qv (gx k j) (gy k j))
 rw_:∀k,k < n->RwW n z k (λj=>qv (gx k j) (gy k j))
 gp:∀k j,k < n->j < n->0 < gy k j
 cp:∀k j,k < n->j < n->0 < cy k j
structure Bd4 (n:Nat) (B:Nat) (k:Nat) (gx gy cx cy:Nat->Nat->Int):Prop where
 a:∀j,j < n->Bt B (gx k j)
 b:∀j,j < n->Bt B (gy k j)
 c:∀j,j < n->Bt B (cx k j)
 d:∀j,j < n->Bt B (cy k j)
def Bd4.mono {n B B' k:Nat} {gx gy cx cy:Nat->Nat->Int} (h:Bd4 n B k gx gy cx cy) (e:B<=B'):Bd4 n B' k gx gy cx cy:=⟨λj hj=>(h.a j hj).mono e,λj hj=>(h.b j hj).mono e,λj hj=>(h.c j hj).mono e,λj hj=>(h.d j hj).mono e⟩
def bb:Nat->Nat
 | 0=>160
 | o+1=>4*bb o+2
def zQm {o:Nat} (h:o<=8):bb o<=12000000:=by
 have:∀o:_root_.Fin 9,bb o.1<=12000000:=by nofun
 exact this ⟨o,by omega⟩
theorem zQn:∀o,160<=bb o
 | 0=>wG5 _
 | o+1=>by have:=zQn o;show 160<=4*bb o+2;omega
def zNd {x y f d u v:Int} {s:Rat} (l:Low (x*f) (y*d) u v) (hy:0 < y) (hd:0 < d) (hs:qv f d=s):qv u v=s*qv x y:=by rw[zI1 l (wH3 hy hd),zNh hy hd,hs,Rat.mul_comm]
theorem zPU {x y e f z u a b:Int} (l:Low (x*(f*u)+e*z*y) (y*(f*u)) a b) (hy:0 < y) (hf:0 < f) (hu:0 < u):qv a b=qv x y+qv e f*qv z u:=by rw[zI1 l (wH3 hy (wH3 hf hu)),zNi hy (wH3 hf hu),zNh hf hu]
theorem zFC {t b x y:Int} {B:Nat} (l:Low t b x y) (h1:Bt B t) (h2:Bt B b):Bt B x/\Bt B y:=⟨wHF l.tb h1,wHF l.bb h2⟩
theorem zHC (f:Nat->Int):∀n,sR (λi=>((f i:Int):Rat)) n=((Sg f n:Int):Rat)
 | 0=>rfl
 | n+1=>by show sR _ n+_=_;rw[zHC f n,← Rat.intCast_add];rfl
def RwI.ext {n:Nat} {ws:Wys} (wo:WyOk n ws) {k:Nat} {c g c' g':Nat->Rat} (h:RwI n ws k c g) (h1:∀j,j < n->c' j=c j) (h2:∀j,j < n->g' j=g j):RwI n ws k c' g':=λi hi=>by rw[h1 i hi,h2 i hi,zPb wo h1];exact h i hi
def RwW.ext {n:Nat} {z:Nat->Rat} {k:Nat} {g g':Nat->Rat} (h:RwW n z k g) (h2:∀j,j < n->g' j=g j):RwW n z k g':=⟨λj hj=>by rw[h2 j hj];exact h.1 j hj,by rw[zCv (g:=λj=>g j*z j) λj hj=>by rw[h2 j hj]];exact h.2⟩
def zEw {t u:TS} {D:Ends} {σ:St} {H:Hp} (h:∀R:St->Hp->Prop,(∀σ H,u D σ H->R σ H)->t { D with nx:=R } σ H):zFu t u D σ H:=h _ λ_ _ x=>x
inductive sp_struck (K:W.Frag) (vs:List V) (H:Hp) (Q:VK) (E:XK):Prop
 | mk (n:Nat) (r:Addr) (rs:List V) (ws:Wys):vs=[.int (n:Nat),.ref r]->(WyAt K H r rs ws/\WyOk n ws/\zL8 n ws/\1<=n/\n<=8/\ws.length<=14/\
 ∀(l:Addr) (H':Hp) (rw:Nat->Addr) (q:Nat->Nat->Addr) (cx cy:Nat->Nat->Int),H l=none->zAf H H'->MxAt H' l rw q n cx cy->(∀k j,k < n->j < n->0 < cy k j/\Bt 12000000 (cx k j)/\Bt 12000000 (cy k j))->(∀k,k < n->RwI n ws k (λj=>qv (cx k j) (cy k j)) (λ_=>0))->Q (.ref l) H')->sp_struck K vs H Q E
def zKA (T:Txt P K mg t):FnOk P w K mg base CX0 44 t.wCS t.wCT ["_law_count","_law_ways"] (sp_struck K):=by
 refine T.wEL.ok zAH ⟨⟩ ();obtain⟨n,r,rs,ws,rfl,wa,wo,op,n1,n8,lw,q⟩:=h;refine⟨_,(zD (zBa (i:=2) zAH.nd rfl (Or.inr rfl) (zAq ["_law_k","_law_count"] [none,some 0] (by kernel_rfl) rfl (zAh rfl T.wAe (zI (pv 0) zE zA)) (λ_ _ _ _ _=>(zK (i:=0) ndB rfl (Or.inl rfl))) (λ_ _ _ _ _=>zAs) (λ_ _ _ _ _=>(zW zGM (zAk (zI (zAR (zN zG zG zE zJ zJ)) zE zAX)) (pv 1)))))
  (zD (zBa (i:=3) zAH.nd rfl (Or.inr rfl) (zAq ["_law_k","_law_count"] [none,some 0] (by kernel_rfl) rfl (zAh rfl T.wAe (zI (pv 0) zE zA)) (λ_ _ _ _ _=>(zK (i:=0) ndB rfl (Or.inl rfl))) (λ_ _ _ _ _=>zAs) (λ_ _ _ _ _=>(zW zGM (zAk (zI (zAR (zN zG zG zE zJ zJ)) zE zAX)) (pv 1)))))
  (zD (zAp PassesOwn.never rfl (zAb K (pv 1)) (zAw K (n:=3) rfl (zQ (zK (i:=4) zAH.nd rfl (Or.inl rfl)) (zQ (zK (i:=5) zAH.nd rfl (Or.inl rfl)) (zQ (zK (i:=6) zAH.nd rfl (Or.inl rfl)) zAv)))) (zH (zBB (cal (zK9 T) hr T.wFD T.wD4 T.wFC (zN (zAo K (zAo K (pv 2) (pv 4)) (pv 5)) (cal (zEJ T) hr T.wCo T.wBA T.wCn (zN (pv 6) zG zE zA zJ)) zE zF zR)) (zBZ (zAo K (pv 2) (pv 4)) (pv 5) zAG))))
  (zD (zAp PassesOwn.never rfl (zAh rfl T.wAe (zI (pv 0) zE zA)) (zK (i:=7) zAH.nd rfl (Or.inr rfl)) (zH (zBB (zAR (zN zG zG zE zJ zJ)) (zBZ (zAo K (pv 3) (pv 7)) (pv 7) zAG))))
  (zD (zAp PassesOwn.never rfl (zAh rfl T.wAe (zI (pv 0) zE zA)) (zK (i:=8) zAH.nd rfl (Or.inr rfl)) (zD (zBB (zAo K (zAo K (pv 2) (pv 8)) (pv 8)) (zAw K (n:=2) rfl (zQ (zK (i:=9) zAH.nd rfl (Or.inl rfl)) (zQ (zK (i:=10) zAH.nd rfl (Or.inr rfl)) zAv))))
  (zD (zBa (i:=11) zAH.nd rfl (Or.inr rfl) (zW zDT (pv 10) (pv 9)))
  (zD (zBB (zAR (zN zG zG zE zJ zJ)) (zBZ (zAo K (pv 2) (pv 8)) (pv 8) zAG))
  (zD (zBB (zAq ["_law_top","_law_bottom","_law_round_low","_law_low"] [none,none,some 10,some 11] (by kernel_rfl) rfl (zAb K (zAo K (pv 2) (pv 8))) (λ_ _ _ _ _=>(zAw K (n:=2) rfl (zQ (zK (i:=0) ndB rfl (Or.inl rfl)) (zQ (zK (i:=1) ndB rfl (Or.inl rfl)) zAv)))) (λ_ _ _ _ _=>zAs) (λ_ _ _ _ _=>(cal (zEJ T) hr T.wCo T.wBA T.wCn (zN (zW zAV (pv 0) (pv 2)) (zW zAV (pv 1) (pv 3)) zE zT zT)))) (zBZ (pv 2) (pv 8) zAG))
  (zD (zBB (zAq ["_law_top","_law_bottom","_law_round_low","_law_low"] [none,none,some 10,some 11] (by kernel_rfl) rfl (zAb K (zAo K (pv 3) (pv 8))) (λ_ _ _ _ _=>(zAw K (n:=2) rfl (zQ (zK (i:=0) ndB rfl (Or.inl rfl)) (zQ (zK (i:=1) ndB rfl (Or.inl rfl)) zAv)))) (λ_ _ _ _ _=>zAs) (λ_ _ _ _ _=>(cal (zEJ T) hr T.wCo T.wBA T.wCn (zN (zW zAV (pv 0) (pv 2)) (zW zAV (pv 1) (pv 3)) zE zT zT)))) (zBZ (pv 3) (pv 8) zAG))
  (zH (zAp PassesOwn.never rfl (zAh rfl T.wAe (zI (pv 0) zE zA)) (zK (i:=7) zAH.nd rfl (Or.inr rfl)) (zD (zBa (i:=12) zAH.nd rfl (Or.inr rfl) (zAo K (zAo K (pv 2) (pv 7)) (pv 8)))
  (zH (zA4 (zAc zDH (zAW K (pv 12) zG) zG (zAj _)) (zD (zBB (zAR (zN zG zG zE zJ zJ)) (zBZ (zAo K (pv 2) (pv 7)) (pv 8) zAG))
  (zD (zBB (zAq ["_law_j","_law_by","_law_goes","_law_k","_law_out"] [none,some 12,some 2,some 7,some 8] (by kernel_rfl) rfl (zAh rfl T.wAe (zI (pv 0) zE zA)) (λ_ _ _ _ _=>(zK (i:=0) ndB rfl (Or.inl rfl))) (λ_ _ _ _ _=>zAs) (λ_ _ _ _ _=>(cal (zKE T) hr T.wFY T.wEK T.wFX (zZ (zAo K (zAo K (pv 2) (pv 3)) (pv 0)) (pv 1) (zAo K (zAo K (pv 2) (pv 4)) (pv 0)) zE zF zA zF)))) (zBZ (pv 2) (pv 7) zAG))
  (zH (zBB (zAq ["_law_j","_law_by","_law_came","_law_k","_law_out"] [none,some 12,some 3,some 7,some 8] (by kernel_rfl) rfl (zAh rfl T.wAe (zI (pv 0) zE zA)) (λ_ _ _ _ _=>(zK (i:=0) ndB rfl (Or.inl rfl))) (λ_ _ _ _ _=>zAs) (λ_ _ _ _ _=>(cal (zKE T) hr T.wFY T.wEK T.wFX (zZ (zAo K (zAo K (pv 2) (pv 3)) (pv 0)) (pv 1) (zAo K (zAo K (pv 2) (pv 4)) (pv 0)) zE zF zA zF)))) (zBZ (pv 3) (pv 7) zAG))))) zAd)))))))))))
  (zH (zX (pv 3)))))))),?_⟩
 refine zEw λR hR=>?_;refine⟨_,rfl,(n:Nat),rfl,by omega,by omega,λc hc=>?_⟩;refine zAT (n:=((n:Nat):Int).toNat) (λi σ' H'=>∃(v:Option V) (rw:Nat->Addr) (q:Nat->Nat->Addr),σ'=[v,some (.int (n:Nat))]/\zAf H H'/\H' c=some (.lst (tab i λk=>V.ref (rw k)))/\(∀k,k < i->FrAt H' (rw k) (q k) n (λ_=>0) (λ_=>1)/\H (rw k)=none/\rw k≠c)/\∀k j,k < i->j < i->rw k=rw j->k=j)
  ⟨none,λ_=>c,λ_ _=>c,rfl,zC hc _,zB,λk hk=>absurd hk (wHd _),λk j hk=>absurd hk (wHd _)⟩ ?_ ?_
 ·rintro i σ' H' hi ⟨v,bM,q',rfl,s1,ec,hk,hinj⟩;refine⟨zA8,λt1 nN=>⟨szl,λl1 h1=>⟨_,rfl,l1,_,_,rfl,rfl,zB,by omega,by omega,?_,λd hd=>?_⟩⟩⟩
  ·show 1*_<=sizeLine;exact small ∅
  have u1:=zC nN (.tup [.int 0,.int 1]);have u2:=u1.trans (zC h1 (.lst [.ref t1]));have u3:=u2.trans (zC hd (.lst (List.replicate (n:Int).toNat [V.ref t1]).flatten));have et:upd (upd (upd H' t1 (.tup [.int 0,.int 1])) l1 (.lst [.ref t1])) d (.lst (List.replicate (n:Int).toNat [V.ref t1]).flatten) t1=some (.tup [.int 0,.int 1]):=((zC h1 _).trans (zC hd _)) _ _ zB;have ed:upd (upd (upd H' t1 (.tup [.int 0,.int 1])) l1 (.lst [.ref t1])) d (.lst (List.replicate (n:Int).toNat [V.ref t1]).flatten) d=some (.lst (tab n λ_=>V.ref t1)):=by rw[zB,zOS,wHn,zEs]
  have nd:=u2.free hd;have cd:c≠d:=zP (u2 _ _ ec) hd;generalize upd (upd (upd H' t1 (.tup [.int 0,.int 1])) l1 (.lst [.ref t1])) d (.lst (List.replicate (n:Int).toNat [V.ref t1]).flatten)=H3 at u3 et ed ⊢;have gX:=u3 _ _ ec;refine⟨_,gX,by rw[zAa];exact zAB ∅,_,λk=>if k=i then d else bM k,λk=>if k=i then (λ_=>t1) else q' k,rfl,zY (s1.trans u3) hc _,?_,λk aZ=>?_,λk j aZ hj2=>?_⟩
  ·rw[zB,← zA5];refine congrArg (λl=>some (HO.lst l)) ?_
   congr 1
   ·exact zAz λk hk=>by show V.ref (bM k)=V.ref (if k=i then d else bM k);rw[wGZ ∅]
   show [V.ref d]=[V.ref (if i=i then d else bM i)];rw[wG1 rfl]
  ·by_cases e:k=i
   ·subst e;simp only[↓reduceIte];refine⟨zB8 ⟨ed,λ_ _=>et⟩ ⟨_,gX⟩ cd.symm,s1.free nd,cd.symm⟩
   simp only[wGZ e];obtain⟨a1,a2,a3⟩:=hk k ∅;exact⟨zB8 (a1.mono u3) ⟨_,gX⟩ a3,a2,a3⟩
  have nr:∀k,k < i->bM k≠d:=λk oz z=>by have:=(hk k oz).1.top;rw[z,nd] at this;cases this
  by_cases e:k=i
  ·by_cases f:j=i
   ·intro _;omega
   simp only[wG1 e,wGZ f];exact λz=>absurd z.symm (nr j ∅)
  by_cases f:j=i
  ·simp only[wGZ e,wG1 f];exact λz=>absurd z (nr k ∅)
  simp only[wGZ e,wGZ f];exact hinj k j ∅ ∅
 rintro σ' H1 ⟨v,rg,qg,rfl,s1,eg,hg,ig⟩;refine hR _ _ ?_;rw[wHn] at eg hg ig;have fg:=s1;refine zEw λR hR=>?_;refine⟨_,rfl,(n:Nat),rfl,by omega,by omega,λe bW=>?_⟩;refine zAT (n:=((n:Nat):Int).toNat) (λi σ' H'=>∃(v:Option V) (rw:Nat->Addr) (q:Nat->Nat->Addr),σ'=[v,some (.int (n:Nat))]/\zAf H1 H'/\H'  e=some (.lst (tab i λk=>V.ref (rw k)))/\(∀k,k < i->FrAt H' (rw k) (q k) n (λ_=>0) (λ_=>1)/\H1 (rw k)=none/\rw k≠e)/\∀k j,k < i->j < i->rw k=rw j->k=j)
  ⟨none,λ_=>e,λ_ _=>e,rfl,zC bW _,zB,λk hk=>absurd hk (wHd _),λk j hk=>absurd hk (wHd _)⟩ ?_ ?_
 ·rintro i σ' H' hi ⟨v,bM,q',rfl,s1,ec,hk,hinj⟩;refine⟨zA8,λt1 nN=>⟨szl,λl1 h1=>⟨_,rfl,l1,_,_,rfl,rfl,zB,by omega,by omega,?_,λd hd=>?_⟩⟩⟩
  ·show 1*_<=sizeLine;exact small ∅
  have u1:=zC nN (.tup [.int 0,.int 1]);have u2:=u1.trans (zC h1 (.lst [.ref t1]));have u3:=u2.trans (zC hd (.lst (List.replicate (n:Int).toNat [V.ref t1]).flatten));have et:upd (upd (upd H' t1 (.tup [.int 0,.int 1])) l1 (.lst [.ref t1])) d (.lst (List.replicate (n:Int).toNat [V.ref t1]).flatten) t1=some (.tup [.int 0,.int 1]):=((zC h1 _).trans (zC hd _)) _ _ zB;have ed:upd (upd (upd H' t1 (.tup [.int 0,.int 1])) l1 (.lst [.ref t1])) d (.lst (List.replicate (n:Int).toNat [V.ref t1]).flatten) d=some (.lst (tab n λ_=>V.ref t1)):=by rw[zB,zOS,wHn,zEs]
  have nd:=u2.free hd;have cd:e≠d:=zP (u2 _ _ ec) hd;generalize upd (upd (upd H' t1 (.tup [.int 0,.int 1])) l1 (.lst [.ref t1])) d (.lst (List.replicate (n:Int).toNat [V.ref t1]).flatten)=H3 at u3 et ed ⊢;have gX:=u3 _ _ ec;refine⟨_,gX,by rw[zAa];exact zAB ∅,_,λk=>if k=i then d else bM k,λk=>if k=i then (λ_=>t1) else q' k,rfl,zY (s1.trans u3) bW _,?_,λk aZ=>?_,λk j aZ hj2=>?_⟩
  ·rw[zB,← zA5];refine congrArg (λl=>some (HO.lst l)) ?_
   congr 1
   ·exact zAz λk hk=>by show V.ref (bM k)=V.ref (if k=i then d else bM k);rw[wGZ ∅]
   show [V.ref d]=[V.ref (if i=i then d else bM i)];rw[wG1 rfl]
  ·by_cases e:k=i
   ·subst e;simp only[↓reduceIte];refine⟨zB8 ⟨ed,λ_ _=>et⟩ ⟨_,gX⟩ cd.symm,s1.free nd,cd.symm⟩
   simp only[wGZ e];obtain⟨a1,a2,a3⟩:=hk k ∅;exact⟨zB8 (a1.mono u3) ⟨_,gX⟩ a3,a2,a3⟩
  have nr:∀k,k < i->bM k≠d:=λk oz z=>by have:=(hk k oz).1.top;rw[z,nd] at this;cases this
  by_cases e:k=i
  ·by_cases f:j=i
   ·intro _;omega
   simp only[wG1 e,wGZ f];exact λz=>absurd z.symm (nr j ∅)
  by_cases f:j=i
  ·simp only[wGZ e,wG1 f];exact λz=>absurd z (nr k ∅)
  simp only[wGZ e,wGZ f];exact hinj k j ∅ ∅
 rintro σ' H2 ⟨v,rc,qc,rfl,s2,ec,hk,ic⟩;refine hR _ _ ?_;rw[wHn] at ec hk ic;have A2:zJ0 H H2 c e n (λ_ _=>0) (λ_ _=>1) (λ_ _=>0) (λ_ _=>1):=⟨rg,qg,rc,qc,s1.trans s2,hc,s1.free bW,⟨s2 _ _ eg,λk hk=>(hg k hk).1.mono s2,ig⟩,⟨ec,λk bE=>(hk k bE).1,ic⟩,λk j bE hj z=>(by have:=(hg k bE).1.top;rw[z,(hk j hj).2.1] at this;cases this),λk bE=>⟨(hg k bE).2.1,s1.free (hk k bE).2.1⟩⟩;clear s1 s2 eg hg ig ec hk ic rg qg rc qc fg hc bW;obtain⟨y,y0,ys⟩:=zL7 (s0:=0) wo op;obtain⟨z,hz⟩:∃z:Nat->Rat,z=λj=>((y j:Int):Rat):=⟨_,rfl⟩;have z0:∀j,j < n->0 < z j:=λj hj=>by rw[hz];exact zE9 (y0 j hj)
 have zw:∀k,k < n->sR (λm=>if wg ws m=k then ((wp ws m:Int):Rat)*z (wt ws m) else 0) ws.length < 1000*z k:=λk hk=>by
  have h:=ys k hk;rw[zN6 wo hk] at h;have e1:sR (λm=>if wg ws m=k then ((wp ws m:Int):Rat)*z (wt ws m) else 0) ws.length=((Sg (λm=>if wg ws m=k then wp ws m*y (wt ws m) else 0) ws.length:Int):Rat):=by
   rw[← zHC];refine zCv λm _=>?_;by_cases c:wg ws m=k
   ·rw[wG1 c,wG1 c,hz,wHU]
   rw[wGZ c,wGZ c];rfl
  rw[e1,hz];have h2:((Sg (λm=>if wg ws m=k then wp ws m*y (wt ws m) else 0) ws.length:Int):Rat) < ((1000*y k:Int):Rat):=Rat.intCast_lt_intCast.mpr ∅;rw[wHU] at h2;exact h2
 clear hz ys y0;refine zEw λR hR=>?_;refine⟨_,rfl,r,rfl,⟨_,(let ⟨_,_,_,_,A⟩:=A2;A.s.seq wa.sq)⟩,zAy (K:=K) (a:=r) (xs:=rs) (λi σ' H'=>∃(v4 v5 v6:Option V) (gx gy:Nat->Nat->Int),σ'=[some (.int (n:Nat)),some (.ref r),some (.ref c),some (.ref e),v4,v5,v6,none,none,none,none,none,none]/\zJ0 H H' c e n gx gy (λ_ _=>0) (λ_ _=>1)/\(∀k j,k < n->j < n->0 < gy k j/\0<=gx k j/\Bt (1+11*i) (gx k j)/\Bt (1+11*i) (gy k j)/\1000*qv (gx k j) (gy k j)=sR (λm=>if wg ws m=k/\wt ws m=j then ((wp ws m:Int):Rat) else 0) i)/\∀k,k < n->1000*sR (λj=>qv (gx k j) (gy k j)*z j) n=sR (λm=>if wg ws m=k then ((wp ws m:Int):Rat)*z (wt ws m) else 0) i)
  ⟨none,none,none,_,_,rfl,A2,λk j _ _=>⟨by decide,by decide,by show 0 < 2 ^ 1;decide,by show 1 < 2 ^ 1;decide,by rw[zBA];show 1000*(0:Rat)=0;grind⟩,λk _=>by rw[zKe λj _=>by rw[zBA];grind];show 1000*(0:Rat)=0;grind⟩ (λj σ' H' _ ⟨_,_,_,_,_,_,⟨_,_,_,_,A⟩,_⟩=>A.s.seq wa.sq) ?_ ?_⟩
 ·rintro i x σ' H' hx ⟨v4,v5,v6,gx,gy,rfl,⟨rg,qg,rc,qc,A⟩,hg,hw⟩;have hj:i < ws.length:=by rw[← wa.len];exact (wIi hx).1
  obtain⟨q',e1,e2⟩:=wa.at_ i hj;have ex:x=.ref q':=by rw[e1] at hx;exact (wG8 hx).symm
  subst ex;have ht:=wo.t i hj;have eC:=wo.g i hj;have hp:=wo.p i hj;refine⟨q',_,rfl,SqT.of (A.s _ _ e2),rfl,_,_,rfl,_,_,rfl,_,_,rfl,rfl,?_⟩;refine⟨_,rfl,_,rfl,c,_,_,_,rfl,rfl,SqL.of A.G.top,zAl eC,_,rfl,_,_,_,_,rfl,rfl,SqL.of (A.G.row _ eC).top,zAl ht,_,rfl,_,1000,rfl,by decide,λp1 a1 b1 dI dY=>?_⟩;have u1:=zC dI (.tup [.int a1,.int b1]);obtain⟨g0,gn,gb1,oQ,geq⟩:=hg _ _ eC ht;have ba:Bt 10 a1/\Bt 10 b1:=zFC dY (show (wp ws i).natAbs < 1024 by omega) (show (1000:Int).natAbs < 1024 by decide);refine⟨_,p1,_,_,a1,b1,1+11*i,10,rfl,u1 _ _ ((A.G.row _ eC).row _ ht),zB,g0,dY.pos,gb1,oQ,ba.1,ba.2,by omega,λp2 a2 b2 aV hZ=>?_⟩;have A':=A.same (u1.trans (zC aV (.tup [.int a2,.int b2])));have fN:upd (upd H' p1 (.tup [.int a1,.int b1])) p2 (.tup [.int a2,.int b2]) p2=some (.tup [.int a2,.int b2]):=zB;refine⟨_,rfl,_,rfl,c,_,_,_,rfl,rfl,SqL.of A'.G.top,zAl eC,_,rfl,_,_,_,_,rfl,rfl,(A'.G.row _ eC).top,zBt ht,?_⟩;have b0:=wH3 g0 dY.pos;have bt2:=zFC (B:=1+11*(i+1)) hZ (Bt.mono (Bt.add (gb1.mul ba.2) ((ba.1.mul oQ).mono (j:=10+(1+11*i)) (k:=1+11*i+10) ∅)) ∅) ((oQ.mul ba.2).mono ∅);have v2:1000*qv a2 b2=1000*qv (gx (wg ws i) (wt ws i)) (gy (wg ws i) (wt ws i))+((wp ws i:Int):Rat):=by
   rw[zI1 hZ b0,zNi g0 dY.pos,zI1 dY ⋯];unfold qv;have:((1000:Int):Rat)=1000:=rfl;rw[this]
   grind
  refine⟨_,_,_,_,_,rfl,A'.set eC ht fN,λk j hk hj=>?_,λk hk=>?_⟩
  ·obtain⟨h0,hn,cW,iM,heq⟩:=hg k j hk hj;show _/\_/\_/\_/\_=sR _ i+_;by_cases d:k=wg ws i/\j=wt ws i
   ·obtain⟨rfl,rfl⟩:=d;simp only[and_self,if_true];refine⟨hZ.pos,?_,bt2.1,bt2.2,by rw[v2,← geq]⟩;refine zKn ?_ hZ.pos;have:=zP4 gn g0;have w0:(0:Rat)<=((wp ws i:Int):Rat):=Rat.intCast_nonneg.mpr ∅
    grind
   simp only[wGZ d];refine⟨h0,hn,cW.mono ∅,iM.mono ∅,?_⟩;rw[heq,wGZ λz=>d ⟨z.1.symm,z.2.symm⟩]
   grind
  show _=sR _ i+(if wg ws i=k then ((wp ws i:Int):Rat)*z (wt ws i) else 0);rw[← hw k hk];by_cases d:wg ws i=k
  ·subst d;rw[wG1 rfl,zGC ht,zGC (f:=λj=>qv (gx (wg ws i) j) (gy (wg ws i) j)*z j) ht];simp only[and_self,if_true];rw[zCv (f:=λj=>if j=wt ws i then 0 else qv (if True/\j=wt ws i then a2 else gx (wg ws i) j) (if True/\j=wt ws i then b2 else gy (wg ws i) j)*z j) (g:=λj=>if j=wt ws i then 0 else qv (gx (wg ws i) j) (gy (wg ws i) j)*z j) λj _=>by
    by_cases f:j=wt ws i
    ·rw[wG1 f,wG1 f]
    rw[wGZ f,wGZ f,wGZ λz=>f z.2,wGZ λz=>f z.2]]
   grind
  rw[wGZ d,zCv (g:=λj=>qv (gx k j) (gy k j)*z j) λj _=>by rw[wGZ λz=>d z.1.symm,wGZ λz=>d z.1.symm]]
  grind
 rintro σ' H3 ⟨v4,v5,v6,gx,gy,rfl,A3,hg,hw⟩;refine hR _ _ ?_;rw[wa.len] at hg hw;clear A2;refine zEw λR hR=>?_;refine⟨_,rfl,(n:Nat),rfl,by omega,by omega,zA1 (n:=((n:Nat):Int).toNat) (λi σ' H'=>∃(v7:Option V),σ'=[some (.int (n:Nat)),some (.ref r),some (.ref c),some (.ref e),v4,v5,v6,v7,none,none,none,none,none]/\zJ0 H H' c e n gx gy (λk j=>if k=j/\k < i then 1 else 0) (λ_ _=>1))
  ⟨none,rfl,by simpa using A3⟩ ?_ ?_⟩
 ·rintro i σ' H' hi ⟨v7,rfl,⟨rg,qg,rc,qc,A⟩⟩;have aC:i < n:=by omega
  have iz:(0+(i:Int))=(i:Int):=by omega
  refine⟨zA8,λp hp=>?_⟩;have A':=A.same (zC hp (.tup [.int 1,.int 1]));have ep:upd H' p (.tup [.int 1,.int 1]) p=some (.tup [.int 1,.int 1]):=zB;refine⟨_,rfl,_,rfl,e,_,_,_,rfl,rfl,SqL.of A'.C.top,by rw[iz];exact zAl aC,_,rfl,_,_,_,i,rfl,rfl,(A'.C.row _ aC).top,by rw[iz];exact zBt aC,?_⟩;refine⟨_,rfl,?_⟩;have S:=(A'.swap.set aC aC ep).swap;have e1:(λk j=>if k=i/\j=i then (1:Int) else if k=j/\k < i then 1 else 0)=λk j=>if k=j/\k < i+1 then (1:Int) else 0:=by
   funext k j
   by_cases a:k=i/\j=i
   ·rw[wG1 a,wG1 ⟨by omega,by omega⟩]
   rw[wGZ a];by_cases b:k=j/\k < i
   ·rw[wG1 b,wG1 ⟨b.1,by omega⟩]
   rw[wGZ b,wGZ λz=>by
    by_cases y:k < i
    ·exact b ⟨z.1,y⟩
    exact a ⟨by omega,by omega⟩]
  have e2:(λk j=>if k=i/\j=i then (1:Int) else 1)=λ_ _=>1:=by
   funext k j
   split<;>rfl
  rw[e1,e2] at S;exact S
 rintro σ' H4 ⟨v7,rfl,A4⟩;refine hR _ _ ?_;rw[wHn] at A4;have one:∀k j:Nat,k < n->qv (if k=j/\k < n then 1 else 0) 1=if j=k then 1 else 0:=λk j hk=>by
  by_cases c:k=j
  ·rw[wG1 ⟨c,hk⟩,wG1 c.symm];unfold qv;rw[Rat.intCast_one];grind
  rw[wGZ λz=>c z.1,wGZ λz=>c z.symm,zBA]
 have M4:StM n ws z gx gy (λk j=>if k=j/\k < n then 1 else 0) (λ_ _=>1):=by
  refine⟨λk hk i hi=>?_,λk hk=>⟨λj hj=>zP4 (hg k j hk hj).2.1 (hg k j hk hj).1,?_⟩,λk j hk hj=>(hg k j hk hj).1,λ_ _ _ _=>by decide⟩
  ·show 1000*(qv (if k=i/\k < n then 1 else 0) 1+qv (gx k i) (gy k i))=_;have h:=(hg k i hk hi).2.2.2.2;rw[one k i hk];have e:wS ws i (λj=>qv (if k=j/\k < n then 1 else 0) 1)=sR (λm=>if wg ws m=k/\wt ws m=i then ((wp ws m:Int):Rat) else 0) ws.length:=by
    unfold wS;refine zCv λm _=>?_;show (if wt ws m=i then ((wp ws m:Int):Rat)*qv (if k=wg ws m/\k < n then 1 else 0) 1 else 0)=_;rw[one k _ hk];by_cases a:wt ws m=i
    ·by_cases b:wg ws m=k
     ·rw[wG1 a,wG1 b,wG1 ⟨b,a⟩];grind
     rw[wG1 a,wGZ b,wGZ λz=>b z.1];grind
    rw[wGZ a,wGZ λz=>a z.2]
   rw[e,← h]
   grind
  have h1:=hw k hk;have h2:=zw k hk
  grind
 have B4:∀k,k < n->Bd4 n (bb 0) k gx gy (λk j=>if k=j/\k < n then 1 else 0) (λ_ _=>1):=λk hk=>by
  have b1:Bt 160 1:=by show 1 < 2 ^ 160;decide
  have b0:Bt 160 0:=by show 0 < 2 ^ 160;decide
  refine⟨λj hj=>(hg k j hk hj).2.2.1.mono (by show _<=160;omega),λj hj=>(hg k j hk hj).2.2.2.1.mono (by show _<=160;omega),λj hj=>?_,λ_ _=>b1⟩;show Bt 160 (if k=j/\k < n then 1 else 0)
  split
  ·exact b1
  exact b0
 clear hg hw zw A3 one;refine zEw λR hR=>?_;refine⟨_,rfl,(n:Nat),rfl,by omega,by omega,zA1 (n:=((n:Nat):Int).toNat) (λo σ' H'=>∃(v7 v8 v9 fP cS bO:Option V) (gx gy cx cy:Nat->Nat->Int),σ'=[some (.int (n:Nat)),some (.ref r),some (.ref c),some (.ref e),v4,v5,v6,v7,v8,v9,fP,cS,bO]/\zJ0 H H' c e n gx gy cx cy/\StM n ws z gx gy cx cy/\(∀k j,k < n->j < n->j < o->gx k j=0)/\∀k,k < n->Bd4 n (bb o) k gx gy cx cy)
  ⟨v7,none,none,none,none,none,_,_,_,_,rfl,A4,M4,λ_ _ _ _ z=>absurd z (wHd _),B4⟩ ?_ ?_⟩
 ·clear A4 M4 B4 gx gy;rintro o σ' H5 cN ⟨v7,v8,v9,fP,cS,bO,gx,gy,cx,cy,rfl,⟨rg,qg,rc,qc,A⟩,M,zc,Bd⟩;have ho:o < n:=by omega
  have iz:(0+(o:Int))=(o:Int):=by omega
  rw[iz];have bL:4*bb o+2<=12000000:=zQm (o:=o+1) ∅;have bG:=zQn o;have bo1:bb (o+1)=4*bb o+2:=rfl;rw[bo1];generalize bb o=B at Bd bL bG;have cV:=λ{f:Nat->V}=>zAl (n:=n) (f:=f) ho;have aC:=λ{f:Nat->V}=>zBt (n:=n) (f:=f) ho;obtain⟨g1,g2⟩:=(M.rw_ o ho).one z0 ho;have gp:=M.gp o o ho ho;obtain⟨d0,ds⟩:=zOh gp g1;have bx:=(Bd o ho).a o ho;have cK:=(Bd o ho).b o ho;have bd:Bt (B+1) (gy o o-gx o o):=cK.sub bx;refine⟨_,rfl,_,rfl,c,_,_,_,rfl,rfl,SqL.of A.G.top,cV,_,rfl,_,_,_,_,rfl,rfl,SqL.of (A.G.row o ho).top,cV,_,_,rfl,SqT.of ((A.G.row o ho).row o ho),rfl,_,_,rfl,_,_,rfl,rfl,?_⟩;refine⟨_,rfl,_,rfl,_,_,rfl,rfl,?_⟩;refine⟨zA8,λp hp=>?_⟩;have A':=A.same (zC hp (.tup [.int 0,.int 1]));have ep:upd H5 p (.tup [.int 0,.int 1]) p=some (.tup [.int 0,.int 1]):=zB;refine⟨_,rfl,_,rfl,c,_,_,_,rfl,rfl,SqL.of A'.G.top,cV,_,rfl,_,_,_,o,rfl,rfl,(A'.G.row o ho).top,aC,?_⟩;obtain⟨ft,jf,ni,qc1,A1⟩:=A'.set ho ho ep;clear A' ep A;show zFu _ _ _ _ (upd (upd H5 p (.tup [.int 0,.int 1])) (rg o) (.lst ((tab n λj=>V.ref (qg o j)).set o (V.ref p))));generalize upd (upd H5 p (.tup [.int 0,.int 1])) (rg o) (.lst ((tab n λj=>V.ref (qg o j)).set o (V.ref p)))=H6 at A1 ⊢;generalize hs:qv (gy o o) (gy o o-gx o o)=s at ds;obtain⟨ux,iD⟩:∃ux:Nat->Int,ux=λj=>if o=o/\j=o then 0 else gx o j:=⟨_,rfl⟩;obtain⟨uy,iC⟩:∃uy:Nat->Int,uy=λj=>if o=o/\j=o then 1 else gy o j:=⟨_,rfl⟩;have ub:∀i,i < n->Bt B (ux i)/\Bt B (uy i)/\0 < uy i/\qv (ux i) (uy i)=if i=o then 0 else qv (gx o i) (gy o i):=λi hi=>by
   rw[iD,iC];show Bt B (if o=o/\i=o then 0 else gx o i)/\Bt B (if o=o/\i=o then 1 else gy o i)/\0 < (if o=o/\i=o then 1 else gy o i)/\qv (if o=o/\i=o then 0 else gx o i) (if o=o/\i=o then 1 else gy o i)=_;by_cases d:i=o
   ·rw[wG1 ⟨rfl,d⟩,wG1 ⟨rfl,d⟩,wG1 d,zBA];exact⟨Nat.pos_of_ne_zero (by have:=Nat.two_pow_pos B;omega),Nat.one_lt_two_pow ∅,by decide,rfl⟩
   rw[wGZ λz=>d z.2,wGZ λz=>d z.2,wGZ d];exact⟨(Bd o ho).a i hi,(Bd o ho).b i hi,M.gp o i ho hi,rfl⟩
  refine⟨_,rfl,_,rfl,c,_,_,_,rfl,rfl,SqL.of A1.G.top,cV,ft o,rfl,⟨_,SqL.of (A1.G.row o ho).top⟩,λl1 aN=>?_⟩;refine zAr (K:=K) (ys:=tab n λj=>V.ref (jf o j)) (λi σ' H'=>∃(w1 w2:Option V) (qf:Nat->Addr) (U W:Nat->Int),σ'=[w1,w2,some (.int (gy o o)),some (.int (gy o o-gx o o))]/\zAf H6 H'/\H' l1=some (.lst (tab i λk=>V.ref (qf k)))/\∀j,j < i->H' (qf j)=some (.tup [.int (U j),.int (W j)])/\Low (ux j*gy o o) (uy j*(gy o o-gx o o)) (U j) (W j))
   ⟨none,none,λ_=>l1,λ_=>0,λ_=>0,rfl,zC aN _,zB,λk hk=>absurd hk (wHd _)⟩ (λj σ2 H2 _ ⟨_,_,_,_,_,_,s3,_⟩=>SqL.of (s3 _ _ (A1.G.row o ho).top)) ?_ ?_
  ·rintro i x σ' H' hx ⟨w1,w2,qf,U,W,rfl,s3,ec,hk⟩;obtain⟨hi,rfl⟩:=zAN hx;have er:H' (jf o i)=some (.tup [.int (ux i),.int (uy i)]):=by rw[iD,iC];exact s3 _ _ ((A1.G.row o ho).row i hi)
   have b1:=ub i hi;refine⟨_,_,rfl,SqT.of er,rfl,_,_,rfl,_,_,rfl,rfl,?_⟩;refine⟨_,rfl,_,rfl,_,_,rfl,rfl,zA6 b1.1 cK ∅,_,rfl,_,rfl,_,_,rfl,rfl,zA6 b1.2.1 bd ∅,_,_,rfl,wH3 b1.2.2.1 d0,λp2 a2 b2 aV lw=>?_⟩;have aS:l1≠p2:=zP ec aV;refine⟨_,by rw[zO aS];exact ec,by rw[zAa];exact zAB ∅,_,_,λk=>if k=i then p2 else qf k,λk=>if k=i then a2 else U k,λk=>if k=i then b2 else W k,rfl,zY (s3.trans (zC aV _)) aN _,?_,λj hj=>?_⟩
   ·rw[zB,← zA5];refine congrArg (λl=>some (HO.lst l)) ?_
    congr 1
    ·exact zAz λk hk=>by show V.ref (qf k)=V.ref (if k=i then p2 else qf k);rw[wGZ ∅]
    show [V.ref p2]=[V.ref (if i=i then p2 else qf i)];rw[wG1 rfl]
   by_cases d:j=i
   ·subst d;simp only[↓reduceIte];exact⟨by rw[zO aS.symm];exact zB,lw⟩
   simp only[wGZ d];obtain⟨a1,a3⟩:=hk j ∅;refine⟨?_,a3⟩;rw[zO (zBG a1 ec (by intro z;cases z))];exact zC aV _ _ _ a1
  rintro σ' H7 ⟨w1,w2,qf,U,W,rfl,s7,ef,hf⟩;rw[zAa] at ef hf;have A2:=A1.same s7;have cC:∀k,k < n->l1≠ft k/\l1≠ni k:=λk hk=>⟨(zP (A1.G.row k hk).top aN).symm,(zP (A1.C.row k hk).top aN).symm⟩;refine⟨_,rfl,_,rfl,c,_,_,o,rfl,rfl,A2.G.top,aC,?_⟩;obtain⟨nh,qg3,je,qc3,A3⟩:=A2.rep ho (r:=l1) (q:=qf) (x:=U) (y:=W) ⟨ef,λi hi=>(hf i hi).1⟩ (A1.s.free aN) (λk hk=>(cC k hk).1) λk hk=>(cC k hk).2;show zFu _ _ _ _ (upd H7 c (.lst ((tab n λk=>V.ref (ft k)).set o (V.ref l1))));generalize upd H7 c (.lst ((tab n λk=>V.ref (ft k)).set o (V.ref l1)))=H8 at A3 ⊢;have eT:=λj hj=>(hf j hj).2;clear A2 cC ef hf s7 A1 aN w1 w2;refine⟨_,rfl,_,rfl,e,_,_,_,rfl,rfl,SqL.of A3.C.top,cV,je o,rfl,⟨_,SqL.of (A3.C.row o ho).top⟩,λl1 aN=>?_⟩;refine zAr (K:=K) (ys:=tab n λj=>V.ref (qc3 o j)) (λi σ' H'=>∃(w1 w2:Option V) (qf:Nat->Addr) (X Y:Nat->Int),σ'=[w1,w2,some (.int (gy o o)),some (.int (gy o o-gx o o))]/\zAf H8 H'/\H' l1=some (.lst (tab i λk=>V.ref (qf k)))/\∀j,j < i->H' (qf j)=some (.tup [.int (X j),.int (Y j)])/\Low (cx o j*gy o o) (cy o j*(gy o o-gx o o)) (X j) (Y j))
   ⟨none,none,λ_=>l1,λ_=>0,λ_=>0,rfl,zC aN _,zB,λk hk=>absurd hk (wHd _)⟩ (λj σ2 H2 _ ⟨_,_,_,_,_,_,s3,_⟩=>SqL.of (s3 _ _ (A3.C.row o ho).top)) ?_ ?_
  ·rintro i x σ' H' hx ⟨w1,w2,qf,X,Y,rfl,s3,ec,hk⟩;obtain⟨hi,rfl⟩:=zAN hx;have er:=s3 _ _ ((A3.C.row o ho).row i hi);refine⟨_,_,rfl,SqT.of er,rfl,_,_,rfl,_,_,rfl,rfl,?_⟩;refine⟨_,rfl,_,rfl,_,_,rfl,rfl,zA6 ((Bd o ho).c i hi) cK ∅,_,rfl,_,rfl,_,_,rfl,rfl,zA6 ((Bd o ho).d i hi) bd ∅,_,_,rfl,wH3 (M.cp o i ho hi) d0,λp2 a2 b2 aV lw=>?_⟩;have aS:l1≠p2:=zP ec aV;refine⟨_,by rw[zO aS];exact ec,by rw[zAa];exact zAB ∅,_,_,λk=>if k=i then p2 else qf k,λk=>if k=i then a2 else X k,λk=>if k=i then b2 else Y k,rfl,zY (s3.trans (zC aV _)) aN _,?_,λj hj=>?_⟩
   ·rw[zB,← zA5];refine congrArg (λl=>some (HO.lst l)) ?_
    congr 1
    ·exact zAz λk hk=>by show V.ref (qf k)=V.ref (if k=i then p2 else qf k);rw[wGZ ∅]
    show [V.ref p2]=[V.ref (if i=i then p2 else qf i)];rw[wG1 rfl]
   by_cases d:j=i
   ·subst d;simp only[↓reduceIte];exact⟨by rw[zO aS.symm];exact zB,lw⟩
   simp only[wGZ d];obtain⟨a1,a3⟩:=hk j ∅;refine⟨?_,a3⟩;rw[zO (zBG a1 ec (by intro z;cases z))];exact zC aV _ _ _ a1
  rintro σ' H9 ⟨w1,w2,qf2,X,Y,rfl,s9,ef,hf⟩;rw[zAa] at ef hf;have A4:=A3.same s9;have cC:∀k,k < n->l1≠nh k/\l1≠je k:=λk hk=>⟨(zP (A3.G.row k hk).top aN).symm,(zP (A3.C.row k hk).top aN).symm⟩;refine⟨_,rfl,_,rfl,e,_,_,o,rfl,rfl,A4.C.top,aC,?_⟩;have A5:=(A4.swap.rep ho (r:=l1) (q:=qf2) (x:=X) (y:=Y) ⟨ef,λi hi=>(hf i hi).1⟩ (A3.s.free aN) (λk hk=>(cC k hk).2) λk hk=>(cC k hk).1).swap;have fH:=λj hj=>(hf j hj).2;clear A4 cC ef hf s9 A3 aN w1 w2 qf qf2;have sU:∀j,j < n->qv (U j) (W j)=if j=o then 0 else s*qv (gx o j) (gy o j):=λj hj=>by
   have b:=ub j hj;rw[zNd (eT j hj) b.2.2.1 d0 hs,b.2.2.2]
   split
   ·grind
   rfl
  have sX:∀j,j < n->qv (X j) (Y j)=s*qv (cx o j) (cy o j):=λj hj=>zNd (fH j hj) (M.cp o j ho hj) d0 hs;have bU:∀j,j < n->Bt (2*B+1) (U j)/\Bt (2*B+1) (W j):=λj hj=>zFC (eT j hj) (((ub j hj).1.mul cK).mono ∅) (((ub j hj).2.1.mul bd).mono ∅);have bX:∀j,j < n->Bt (2*B+1) (X j)/\Bt (2*B+1) (Y j):=λj hj=>zFC (fH j hj) ((((Bd o ho).c j hj).mul cK).mono ∅) ((((Bd o ho).d j hj).mul bd).mono ∅);have pU:∀j,j < n->0 < W j/\0 < Y j:=λj hj=>⟨(eT j hj).pos,(fH j hj).pos⟩;have zU:∀j,j < n->j < o∨j=o->U j=0:=λj hj h=>zNg (pU j hj).1 (by
   rw[sU j hj];by_cases d:j=o
   ·rw[wG1 d]
   rw[wGZ d,zc o j ho hj ∅,zBA];grind)
  have eg:(λk=>if k=o then U else (λk j=>if k=o/\j=o then 0 else gx k j) k)=λk=>if k=o then U else gx k:=by
   funext k
   by_cases d:k=o
   ·rw[wG1 d,wG1 d]
   rw[wGZ d,wGZ d]
   funext j
   exact wGZ λz=>d z.1
  have lx:(λk=>if k=o then W else (λk j=>if k=o/\j=o then 1 else gy k j) k)=λk=>if k=o then W else gy k:=by
   funext k
   by_cases d:k=o
   ·rw[wG1 d,wG1 d]
   rw[wGZ d,wGZ d]
   funext j
   exact wGZ λz=>d z.1
  rw[eg,lx] at A5;have M5:StM n ws z (λk=>if k=o then U else gx k) (λk=>if k=o then W else gy k) (λk=>if k=o then X else cx k) (λk=>if k=o then Y else cy k):=by
   refine⟨λk hk=>?_,λk hk=>?_,λk j hk hj=>?_,λk j hk hj=>?_⟩
   ·by_cases d:k=o
    ·subst d;simp only[wG1];exact ((M.ri k hk).scale (s:=s) (by rw[← hs];exact hs ▸ ds)).ext wo sX sU
    simp only[wGZ d];exact M.ri k hk
   ·by_cases d:k=o
    ·subst d;simp only[wG1];exact ((M.rw_ k hk).scale z0 hk (s:=s) ds).ext sU
    simp only[wGZ d];exact M.rw_ k hk
   ·by_cases d:k=o
    ·simp only[wG1 d];exact (pU j hj).1
    simp only[wGZ d];exact M.gp k j hk hj
   by_cases d:k=o
   ·simp only[wG1 d];exact (pU j hj).2
   simp only[wGZ d];exact M.cp k j hk hj
  have B5:∀k,k < n->k≠o->Bd4 n B k (λk=>if k=o then U else gx k) (λk=>if k=o then W else gy k) (λk=>if k=o then X else cx k) (λk=>if k=o then Y else cy k):=λk hk d=>by have h:=Bd k hk;exact⟨λj hj=>by simp only[wGZ d];exact h.a j hj,λj hj=>by simp only[wGZ d];exact h.b j hj,λj hj=>by simp only[wGZ d];exact h.c j hj,λj hj=>by simp only[wGZ d];exact h.d j hj⟩
  have hG:Bd4 n (2*B+1) o (λk=>if k=o then U else gx k) (λk=>if k=o then W else gy k) (λk=>if k=o then X else cx k) (λk=>if k=o then Y else cy k):=⟨λj hj=>by simp only[wG1];exact (bU j hj).1,λj hj=>by simp only[wG1];exact (bU j hj).2,λj hj=>by simp only[wG1];exact (bX j hj).1,λj hj=>by simp only[wG1];exact (bX j hj).2⟩;have Z5:∀k j,k < n->j < n->j < o->(λk=>if k=o then U else gx k) k j=0:=λk j hk hj h=>by
   by_cases d:k=o
   ·simp only[wG1 d];exact zU j hj (.inl h)
   simp only[wGZ d];exact zc k j hk hj h
  have pW:(λk=>if k=o then U else gx k) o o=0:=by simp only[wG1];exact zU o ho (.inr rfl)
  clear sU sX bU bX pU zU eg lx eT fH ub iD iC ux uy Bd M zc g1 g2 ds hs;generalize (λk=>if k=o then U else gx k)=hx at A5 M5 B5 hG Z5 pW;generalize (λk=>if k=o then W else gy k)=hy at A5 M5 B5 hG;generalize (λk=>if k=o then X else cx k)=dx at A5 M5 B5 hG;generalize (λk=>if k=o then Y else cy k)=dy at A5 M5 B5 hG;generalize upd H9 e (.lst ((tab n λk=>V.ref (je k)).set o (V.ref l1)))=fj at A5 ⊢;refine⟨_,rfl,(n:Nat),rfl,by omega,by omega,zA1 (n:=((n:Nat):Int).toNat) (λi σ' H'=>∃(v7 bO:Option V) (hx hy dx dy:Nat->Nat->Int),σ'=[some (.int (n:Nat)),some (.ref r),some (.ref c),some (.ref e),v4,v5,v6,v7,some (.int (o:Int)),some (.int (gx o o)),some (.int (gy o o)),some (.int (gy o o-gx o o)),bO]/\zJ0 H H' c e n hx hy dx dy/\StM n ws z hx hy dx dy/\(∀k j,k < n->j < n->j < o->hx k j=0)/\(∀k,k < n->k < i∨k=o->hx k o=0)/\(∀k,k < n->Bd4 n (4*B+2) k hx hy dx dy)/\(∀k,k < n->i<=k->k≠o->Bd4 n B k hx hy dx dy)/\Bd4 n (2*B+1) o hx hy dx dy)
   ⟨v7,bO,hx,hy,dx,dy,rfl,A5,M5,Z5,λk _ h=>by rcases h with h | h;omega;rw[h];exact pW,λk hk=>by
    by_cases d:k=o
    ·rw[d];exact hG.mono ∅
    exact (B5 k hk d).mono ∅,λk hk _ d=>B5 k hk d,hG⟩ ?_ ?_⟩
  ·clear A5 M5 B5 hG Z5 pW hx hy dx dy;rintro k σ' H11 bE ⟨v7,bO,hx,hy,dx,dy,rfl,⟨rg,qg,rc,qc,A⟩,M,zc,zo,Bd,Bk,Bo⟩;have hk:k < n:=by omega
   have kz:(0+(k:Int))=(k:Int):=by omega
   rw[kz];have aZ:=λ{f:Nat->V}=>zAl (n:=n) (f:=f) hk;have hki:=λ{f:Nat->V}=>zBt (n:=n) (f:=f) hk;refine⟨_,rfl,_,rfl,c,_,_,_,rfl,rfl,SqL.of A.G.top,aZ,_,rfl,_,_,_,_,rfl,rfl,SqL.of (A.G.row k hk).top,cV,?_⟩;have eb:=(A.G.row k hk).row o ho;refine⟨_,rfl,_,_,0,_,rfl,rfl,SqT.of eb,rfl,rfl,_,rfl,?_⟩;by_cases c0:hx k o=0
   ·refine zDK (congrArg V.int c0) ⟨_,_,hx,hy,dx,dy,rfl,⟨rg,qg,rc,qc,A⟩,M,zc,λk' bH h=>?_,Bd,λk' bH h d=>Bk k' bH ∅ d,Bo⟩;by_cases d:k'=k
    ·rw[d];exact c0
    exact zo k' bH ∅
   refine zO7 (λh=>c0 (V.int.inj h)) ?_;have ko:k≠o:=λh=>c0 (zo k hk (.inr h));have cF:=Bk k hk (wG5 _) ko;have zoo:=zo o ho (.inr rfl);refine⟨zA8,λp hp=>?_⟩;have A':=A.same (zC hp (.tup [.int 0,.int 1]));have ep:upd H11 p (.tup [.int 0,.int 1]) p=some (.tup [.int 0,.int 1]):=zB;refine⟨_,rfl,_,rfl,c,_,_,_,rfl,rfl,SqL.of A'.G.top,aZ,_,rfl,_,_,_,o,rfl,rfl,(A'.G.row k hk).top,aC,?_⟩;obtain⟨ft,jf,ni,qc1,A1⟩:=A'.set hk ho ep;have l7:upd (upd H11 p (.tup [.int 0,.int 1])) (rg k) (.lst ((tab n λj=>V.ref (qg k j)).set o (V.ref p))) (qg k o)=some (.tup [.int (hx k o),.int (hy k o)]):=by have e3:=(zC hp (.tup [.int 0,.int 1])) _ _ eb;rw[zO (zBG e3 (A'.G.row k hk).top (by intro z;cases z))];exact e3
   clear A' ep A;show zFu _ _ _ _ (upd (upd H11 p (.tup [.int 0,.int 1])) (rg k) (.lst ((tab n λj=>V.ref (qg k j)).set o (V.ref p))));generalize upd (upd H11 p (.tup [.int 0,.int 1])) (rg k) (.lst ((tab n λj=>V.ref (qg k j)).set o (V.ref p)))=H12 at A1 l7 ⊢;obtain⟨ux,iD⟩:∃ux:Nat->Int,ux=λj=>if k=k/\j=o then 0 else hx k j:=⟨_,rfl⟩;obtain⟨uy,iC⟩:∃uy:Nat->Int,uy=λj=>if k=k/\j=o then 1 else hy k j:=⟨_,rfl⟩;have ub:∀i,i < n->Bt B (ux i)/\Bt B (uy i)/\0 < uy i/\qv (ux i) (uy i)=if i=o then 0 else qv (hx k i) (hy k i):=λi hi=>by
    rw[iD,iC];show Bt B (if k=k/\i=o then 0 else hx k i)/\Bt B (if k=k/\i=o then 1 else hy k i)/\0 < (if k=k/\i=o then 1 else hy k i)/\qv (if k=k/\i=o then 0 else hx k i) (if k=k/\i=o then 1 else hy k i)=_;by_cases d:i=o
    ·rw[wG1 ⟨rfl,d⟩,wG1 ⟨rfl,d⟩,wG1 d,zBA];exact⟨Nat.pos_of_ne_zero (by have:=Nat.two_pow_pos B;omega),Nat.one_lt_two_pow ∅,by decide,rfl⟩
    rw[wGZ λz=>d z.2,wGZ λz=>d z.2,wGZ d];exact⟨cF.a i hi,cF.b i hi,M.gp k i hk hi,rfl⟩
   have bnd:B+(B+(2*B+1))<=134217728:=by omega
   refine⟨_,rfl,(n:Nat),rfl,by omega,by omega,λl1 aN=>?_⟩;refine zAT (n:=((n:Nat):Int).toNat) (λi σ' H'=>∃(w1:Option V) (qf:Nat->Addr) (U W:Nat->Int),σ'=[w1,some (.ref (qg k o)),some (.ref c),some (.int (k:Int)),some (.int (o:Int))]/\zAf H12 H'/\H' l1=some (.lst (tab i λk=>V.ref (qf k)))/\∀j,j < i->H' (qf j)=some (.tup [.int (U j),.int (W j)])/\Low (ux j*(hy k o*hy o j)+hx k o*hx o j*uy j) (uy j*(hy k o*hy o j)) (U j) (W j))
    ⟨none,λ_=>l1,λ_=>0,λ_=>0,rfl,zC aN _,zB,λk hk=>absurd hk (wHd _)⟩ ?_ ?_
   ·rintro i σ' H' bA ⟨w1,qf,U,W,rfl,s3,ec,hkk⟩;have hi:i < n:=by omega
    have ju:(0+(i:Int))=(i:Int):=by omega
    rw[ju];have A3:=A1.same s3;have er:H' (jf k i)=some (.tup [.int (ux i),.int (uy i)]):=by rw[iD,iC];exact (A3.G.row k hk).row i hi
    have er2:H' (jf o i)=some (.tup [.int (hx o i),.int (hy o i)]):=by
     have h:=(A3.G.row o ho).row i hi
     rwa [wGZ λz=>ko z.1.symm,wGZ λz=>ko z.1.symm] at h
    have b1:=ub i hi;refine⟨_,rfl,_,rfl,c,_,_,_,rfl,rfl,SqL.of A3.G.top,aZ,_,rfl,_,_,_,_,rfl,rfl,SqL.of (A3.G.row k hk).top,zAl hi,_,rfl,_,rfl,_,rfl,c,_,_,_,rfl,rfl,SqL.of A3.G.top,cV,_,rfl,_,_,_,_,rfl,rfl,SqL.of (A3.G.row o ho).top,zAl hi,?_⟩;refine⟨_,_,_,_,_,_,_,_,_,B,B,2*B+1,rfl,er,s3 _ _ l7,er2,b1.2.2.1,M.gp k o hk ho,M.gp o i ho hi,b1.1,b1.2.1,cF.a o ho,cF.b o ho,Bo.a i hi,Bo.b i hi,bnd,λp2 a2 b2 H' s4 aV ff lw=>?_⟩;have aS:l1≠p2:=zP ec aV;have gW:=s4 _ _ ec;refine⟨_,gW,by rw[zAa];exact zAB ∅,_,λk=>if k=i then p2 else qf k,λk=>if k=i then a2 else U k,λk=>if k=i then b2 else W k,rfl,zY (s3.trans s4) aN _,?_,λj hj=>?_⟩
    ·rw[zB,← zA5];refine congrArg (λl=>some (HO.lst l)) ?_
     congr 1
     ·exact zAz λk hk=>by show V.ref (qf k)=V.ref (if k=i then p2 else qf k);rw[wGZ ∅]
     show [V.ref p2]=[V.ref (if i=i then p2 else qf i)];rw[wG1 rfl]
    by_cases d:j=i
    ·subst d;simp only[↓reduceIte];exact⟨by rw[zO aS.symm];exact ff,lw⟩
    simp only[wGZ d];obtain⟨a1,a3⟩:=hkk j ∅;refine⟨?_,a3⟩;rw[zO (zBG (s4 _ _ a1) gW (by intro z;cases z))];exact s4 _ _ a1
   rintro σ' gZ ⟨w1,qf,U,W,rfl,s7,ef,hf⟩;rw[wHn] at ef hf;have A2:=A1.same s7;have cC:∀k,k < n->l1≠ft k/\l1≠ni k:=λk hk=>⟨(zP (A1.G.row k hk).top aN).symm,(zP (A1.C.row k hk).top aN).symm⟩;refine⟨_,rfl,_,rfl,c,_,_,k,rfl,rfl,A2.G.top,hki,?_⟩;obtain⟨nh,qg3,je,qc3,A3⟩:=A2.rep hk (r:=l1) (q:=qf) (x:=U) (y:=W) ⟨ef,λi hi=>(hf i hi).1⟩ (A1.s.free aN) (λk hk=>(cC k hk).1) λk hk=>(cC k hk).2;have pO:upd gZ c (.lst ((tab n λk=>V.ref (ft k)).set k (V.ref l1))) (qg k o)=some (.tup [.int (hx k o),.int (hy k o)]):=by have e3:=s7 _ _ l7;rw[zO (zBG e3 A2.G.top (by intro z;cases z))];exact e3
   have eT:=λj hj=>(hf j hj).2;clear A2 cC ef hf s7 A1 aN w1 l7 qf;generalize upd gZ c (.lst ((tab n λk=>V.ref (ft k)).set k (V.ref l1)))=H14 at A3 pO ⊢;refine⟨_,rfl,(n:Nat),rfl,by omega,by omega,λl1 aN=>?_⟩;refine zAT (n:=((n:Nat):Int).toNat) (λi σ' H'=>∃(w1:Option V) (qf:Nat->Addr) (X Y:Nat->Int),σ'=[w1,some (.ref (qg k o)),some (.ref e),some (.int (k:Int)),some (.int (o:Int))]/\zAf H14 H'/\H' l1=some (.lst (tab i λk=>V.ref (qf k)))/\∀j,j < i->H' (qf j)=some (.tup [.int (X j),.int (Y j)])/\Low (dx k j*(hy k o*dy o j)+hx k o*dx o j*dy k j) (dy k j*(hy k o*dy o j)) (X j) (Y j))
    ⟨none,λ_=>l1,λ_=>0,λ_=>0,rfl,zC aN _,zB,λk hk=>absurd hk (wHd _)⟩ ?_ ?_
   ·rintro i σ' H' bA ⟨w1,qf,X,Y,rfl,s3,ec,hkk⟩;have hi:i < n:=by omega
    have ju:(0+(i:Int))=(i:Int):=by omega
    rw[ju];have A4:=A3.same s3;refine⟨_,rfl,_,rfl,e,_,_,_,rfl,rfl,SqL.of A4.C.top,aZ,_,rfl,_,_,_,_,rfl,rfl,SqL.of (A4.C.row k hk).top,zAl hi,_,rfl,_,rfl,_,rfl,e,_,_,_,rfl,rfl,SqL.of A4.C.top,cV,_,rfl,_,_,_,_,rfl,rfl,SqL.of (A4.C.row o ho).top,zAl hi,?_⟩;refine⟨_,_,_,_,_,_,_,_,_,B,B,2*B+1,rfl,(A4.C.row k hk).row i hi,s3 _ _ pO,(A4.C.row o ho).row i hi,M.cp k i hk hi,M.gp k o hk ho,M.cp o i ho hi,cF.c i hi,cF.d i hi,cF.a o ho,cF.b o ho,Bo.c i hi,Bo.d i hi,bnd,λp2 a2 b2 H' s4 aV ff lw=>?_⟩;have aS:l1≠p2:=zP ec aV;have gW:=s4 _ _ ec;refine⟨_,gW,by rw[zAa];exact zAB ∅,_,λk=>if k=i then p2 else qf k,λk=>if k=i then a2 else X k,λk=>if k=i then b2 else Y k,rfl,zY (s3.trans s4) aN _,?_,λj hj=>?_⟩
    ·rw[zB,← zA5];refine congrArg (λl=>some (HO.lst l)) ?_
     congr 1
     ·exact zAz λk hk=>by show V.ref (qf k)=V.ref (if k=i then p2 else qf k);rw[wGZ ∅]
     show [V.ref p2]=[V.ref (if i=i then p2 else qf i)];rw[wG1 rfl]
    by_cases d:j=i
    ·subst d;simp only[↓reduceIte];exact⟨by rw[zO aS.symm];exact ff,lw⟩
    simp only[wGZ d];obtain⟨a1,a3⟩:=hkk j ∅;refine⟨?_,a3⟩;rw[zO (zBG (s4 _ _ a1) gW (by intro z;cases z))];exact s4 _ _ a1
   rintro σ' H15 ⟨w1,qf2,X,Y,rfl,s9,ef,hf⟩;rw[wHn] at ef hf;have A4:=A3.same s9;have cC:∀k,k < n->l1≠nh k/\l1≠je k:=λk hk=>⟨(zP (A3.G.row k hk).top aN).symm,(zP (A3.C.row k hk).top aN).symm⟩;refine⟨_,rfl,_,rfl,e,_,_,k,rfl,rfl,A4.C.top,hki,?_⟩;have A5:=(A4.swap.rep hk (r:=l1) (q:=qf2) (x:=X) (y:=Y) ⟨ef,λi hi=>(hf i hi).1⟩ (A3.s.free aN) (λk hk=>(cC k hk).2) λk hk=>(cC k hk).1);have A5:zJ0 _ _ _ _ _ _ _ _ _:=zJ0.swap A5;have fH:=λj hj=>(hf j hj).2;clear A4 cC ef hf s9 A3 aN w1 pO qf2;have eg:(λk'=>if k'=k then U else (λk' j=>if k'=k/\j=o then 0 else hx k' j) k')=λk'=>if k'=k then U else hx k':=by
    funext k'
    by_cases d:k'=k
    ·rw[wG1 d,wG1 d]
    rw[wGZ d,wGZ d]
    funext j
    exact wGZ λz=>d z.1
   have lx:(λk'=>if k'=k then W else (λk' j=>if k'=k/\j=o then 1 else hy k' j) k')=λk'=>if k'=k then W else hy k':=by
    funext k'
    by_cases d:k'=k
    ·rw[wG1 d,wG1 d]
    rw[wGZ d,wGZ d]
    funext j
    exact wGZ λz=>d z.1
   rw[eg,lx] at A5;have sU:∀j,j < n->qv (U j) (W j)=(if j=o then 0 else qv (hx k j) (hy k j))+qv (hx k o) (hy k o)*qv (hx o j) (hy o j):=λj hj=>by have b:=ub j hj;rw[zPU (eT j hj) b.2.2.1 (M.gp k o hk ho) (M.gp o j ho hj),b.2.2.2]
   have sX:∀j,j < n->qv (X j) (Y j)=qv (dx k j) (dy k j)+qv (hx k o) (hy k o)*qv (dx o j) (dy o j):=λj hj=>zPU (fH j hj) (M.cp k j hk hj) (M.gp k o hk ho) (M.cp o j ho hj);have zU:∀j,j < n->j < o∨j=o->U j=0:=λj hj h=>zNg (eT j hj).pos (by
    rw[sU j hj];by_cases d:j=o
    ·rw[wG1 d,d,zoo,zBA];grind
    rw[wGZ d,zc k j hk hj ∅,zc o j ho hj ∅,zBA,zBA];grind)
   have bU:∀j,j < n->Bt (4*B+2) (U j)/\Bt (4*B+2) (W j):=λj hj=>by have b:=ub j hj;have f:=(cF.b o ho).mul (Bo.b j hj);exact zFC (eT j hj) ((Bt.add (k:=4*B+1) ((b.1.mul f).mono ∅) ((((cF.a o ho).mul (Bo.a j hj)).mul b.2.1).mono ∅)).mono ∅) ((b.2.1.mul f).mono ∅)
   have bX:∀j,j < n->Bt (4*B+2) (X j)/\Bt (4*B+2) (Y j):=λj hj=>by have f:=(cF.b o ho).mul (Bo.d j hj);exact zFC (fH j hj) ((Bt.add (k:=4*B+1) (((cF.c j hj).mul f).mono ∅) ((((cF.a o ho).mul (Bo.c j hj)).mul (cF.d j hj)).mono ∅)).mono ∅) (((cF.d j hj).mul f).mono ∅)
   have hoo:(λj=>qv (hx o j) (hy o j)) o=0:=by show qv (hx o o) (hy o o)=0;rw[zoo,zBA]
   have dE:∀k' B',k'≠k->Bd4 n B' k' hx hy dx dy->Bd4 n B' k' (λk'=>if k'=k then U else hx k') (λk'=>if k'=k then W else hy k') (λk'=>if k'=k then X else dx k') (λk'=>if k'=k then Y else dy k'):=λk' B' d h=>⟨λj hj=>by simp only[wGZ d];exact h.a j hj,λj hj=>by simp only[wGZ d];exact h.b j hj,λj hj=>by simp only[wGZ d];exact h.c j hj,λj hj=>by simp only[wGZ d];exact h.d j hj⟩;refine⟨_,_,_,_,_,_,rfl,A5,⟨λk' bH=>?_,λk' bH=>?_,λk' j bH hj=>?_,λk' j bH hj=>?_⟩,λk' j bH hj h=>?_,λk' bH h=>?_,λk' bH=>?_,λk' bH h d=>dE k' B ∅ (Bk k' bH ∅ d),dE o _ (Ne.symm ko) Bo⟩
   ·by_cases d:k'=k
    ·subst d;simp only[wG1];exact ((M.ri k' hk).add (M.ri o ho) hoo).ext wo sX sU
    simp only[wGZ d];exact M.ri k' bH
   ·by_cases d:k'=k
    ·subst d;simp only[wG1];exact ((M.rw_ k' hk).add (M.rw_ o ho) ho).ext sU
    simp only[wGZ d];exact M.rw_ k' bH
   ·by_cases d:k'=k
    ·simp only[wG1 d];exact (eT j hj).pos
    simp only[wGZ d];exact M.gp k' j bH hj
   ·by_cases d:k'=k
    ·simp only[wG1 d];exact (fH j hj).pos
    simp only[wGZ d];exact M.cp k' j bH hj
   ·by_cases d:k'=k
    ·simp only[wG1 d];exact zU j hj (.inl h)
    simp only[wGZ d];exact zc k' j bH hj h
   ·by_cases d:k'=k
    ·simp only[wG1 d];exact zU o ho (.inr rfl)
    simp only[wGZ d];exact zo k' bH ∅
   by_cases d:k'=k
   ·subst d;exact⟨λj hj=>by simp only[wG1];exact (bU j hj).1,λj hj=>by simp only[wG1];exact (bU j hj).2,λj hj=>by simp only[wG1];exact (bX j hj).1,λj hj=>by simp only[wG1];exact (bX j hj).2⟩
   exact dE k' _ d (Bd k' bH)
  rintro σ' H11 ⟨v7,bO,hx,hy,dx,dy,rfl,A,M,zc,zo,Bd,_,_⟩;rw[wHn] at zo;refine⟨_,_,_,_,_,_,hx,hy,dx,dy,rfl,A,M,λk j hk hj h=>?_,Bd⟩;by_cases d:j=o
  ·rw[d];exact zo k hk (.inl hk)
  exact zc k j hk hj ∅
 rintro σ' H5 ⟨v7,v8,v9,fP,cS,bO,gx,gy,cx,cy,rfl,⟨rg,qg,rc,qc,A⟩,M,zc,Bd⟩;rw[wHn] at zc Bd;have bL:=zQm n8;refine hR _ _ ?_;refine⟨_,rfl,q e H5 rc qc cx cy A.c0 A.s A.C (λk j hk hj=>⟨M.cp k j hk hj,((Bd k hk).c j hj).mono bL,((Bd k hk).d j hj).mono bL⟩) λk hk=>(M.ri k hk).ext wo (λ_ _=>rfl) λj hj=>?_⟩;rw[zc k j hk hj hj,zBA]
theorem zIC {n:Nat} {ws:Wys} (wo:WyOk n ws) (i:Nat):Bt 10 (keeps ws i):=by have h1:=zEm wo i ws.length (wG5 _);have h2:=wo.o i;show (keeps ws i).natAbs < 1024;unfold keeps;omega
structure TbAt (H:Hp) (l:Addr) (rw:Nat->Addr) (q:Nat->Nat->Addr) (n m:Nat) (u v:Nat->Nat->Int):Prop where
 top:H l=some (.lst (tab m λk=>V.ref (rw k)))
 row:∀k,k < m->FrAt H (rw k) (q k) n (u k) (v k)
def TbAt.same {H H':Hp} {l:Addr} {rw:Nat->Addr} {q:Nat->Nat->Addr} {n m:Nat} {x y:Nat->Nat->Int} (h:TbAt H l rw q n m x y) (s:zAf H H'):TbAt H' l rw q n m x y:=⟨s _ _ h.top,λk hk=>(h.row k hk).mono s⟩
structure TbOk (n m:Nat) (ws:Wys) (cx cy u v:Nat->Nat->Int):Prop where
 lw:∀k j,k < m->j < n->Low (keeps ws j*cx k j) (1000*cy k j) (u k j) (v k j)
 bt:∀k j,k < m->j < n->Bt 12000010 (u k j)/\Bt 12000010 (v k j)
inductive sp_table (K:W.Frag) (vs:List V) (H:Hp) (Q:VK) (E:XK):Prop
 | mk (n:Nat) (r:Addr) (rs:List V) (ws:Wys):vs=[.int (n:Nat),.ref r]->(WyAt K H r rs ws/\WyOk n ws/\zL8 n ws/\1<=n/\n<=8/\ws.length<=14/\
 ∀(l:Addr) (H':Hp) (rw:Nat->Addr) (q:Nat->Nat->Addr) (cx cy u v:Nat->Nat->Int),H l=none->zAf H H'->TbAt H' l rw q n n u v->(∀k j,k < n->j < n->0 < cy k j)->(∀k,k < n->RwI n ws k (λj=>qv (cx k j) (cy k j)) (λ_=>0))->TbOk n n ws cx cy u v->Q (.ref l) H')->sp_table K vs H Q E
def zGb (T:Txt P K mg t):FnOk P w K mg base CX0 45 t.wDB t.wDC ["_law_count","_law_ways"] (sp_table K):=by
 refine T.wCx.ok zDj ⟨⟩ ();obtain⟨n,r,rs,ws,rfl,wa,wo,op,n1,n8,lw,q⟩:=h;refine⟨_,(zD (zAE 2 zDj.nd (cal (zKA T) hr T.wGf T.wEL T.wGe (zN (pv 0) (pv 1) zE zA zA)))
  (zD (zBa (i:=3) zDj.nd rfl (Or.inr rfl) (cal (zHZ T) hr T.wEH T.wDe T.wEG (zN (pv 0) (pv 1) zE zA zA)))
  (zD (zAE 4 zDj.nd (zAk zE))
  (zD (zAp PassesOwn.never rfl (zAb K (pv 2)) (zK (i:=5) zDj.nd rfl (Or.inr rfl)) (zH (zAn (zBv K wHv wHG wHJ zAx (pv 4) (zI (zAq ["_law_k","_law_keeps","_law_row"] [none,some 3,some 5] (by kernel_rfl) rfl (zAh rfl T.wAe (zI (pv 0) zE zA)) (λ_ _ _ _ _=>(zK (i:=0) ndB rfl (Or.inl rfl))) (λ_ _ _ _ _=>zAs) (λ_ _ _ _ _=>(cal (zEJ T) hr T.wCo T.wBA T.wCn (zN (zW zAV (zAo K (pv 1) (pv 0)) (zAW K (zAo K (pv 2) (pv 0)) zG)) (zW zAV zG (zAW K (zAo K (pv 2) (pv 0)) zG)) zE zT zT)))) zE zA2)))))
  (zH (zX (pv 4))))))),?_⟩
 refine⟨_,rfl,_,rfl,n,r,rs,ws,rfl,wa,wo,op,n1,n8,lw,λcl H1 jd q0 cx cy oE s1 mx cb ri=>?_⟩;have iR:=wa.mono s1;refine⟨_,rfl,_,rfl,n,r,rs,ws,rfl,iR,wo.g,by omega,λkp H2 kW s2 ek=>?_⟩;have n4:=mx.same s2;replace s2:=s1.trans s2;refine⟨szl,λml fE=>?_⟩;have jE:=s2.free fE;have s3:=zC fE (.lst []);have ny:=n4.same s3;have ek3:=s3 _ _ ek;have em:upd H2 ml (.lst []) ml=some (.lst []):=zB;replace s3:=s2.trans s3;generalize upd H2 ml (.lst [])=H3 at s3 ny ek3 em ⊢;refine⟨_,rfl,cl,rfl,⟨_,SqL.of ny.top⟩,zAy (K:=K) (a:=cl) (xs:=tab n λk=>V.ref (jd k)) (λi σ' H'=>∃(v5:Option V) (rw:Nat->Addr) (qq:Nat->Nat->Addr) (u v:Nat->Nat->Int),σ'=[some (.int (n:Nat)),some (.ref r),some (.ref cl),some (.ref kp),some (.ref ml),v5]/\zAf H H'/\MxAt H' cl jd q0 n cx cy/\H' kp=some (.lst (tab n λh=>V.int (keeps ws h)))/\TbAt H' ml rw qq n i u v/\TbOk n i ws cx cy u v)
  ⟨none,λ_=>ml,λ_ _=>ml,λ_ _=>0,λ_ _=>0,rfl,s3,ny,ek3,⟨em,λk hk=>absurd hk (wHd _)⟩,⟨λk j hk=>absurd hk (wHd _),λk j hk=>absurd hk (wHd _)⟩⟩ (λi σ' H' _ ⟨_,_,_,_,_,_,_,m,_⟩=>SqL.of m.top) ?_ ?_⟩
 ·rintro i x σ' H4 hx ⟨v5,rw,qq,u,v,rfl,s4,mx4,ek4,tb,tk⟩;obtain⟨hi,rfl⟩:=zAN hx;refine⟨_,rfl,.inl ⟨rfl,_,SqL.of tb.top⟩,?_⟩;refine⟨_,rfl,(n:Nat),rfl,by omega,by omega,λdu kY=>?_⟩;refine zAT (n:=((n:Nat):Int).toNat) (λj σ' H'=>∃(w1:Option V) (qf:Nat->Addr) (a b:Nat->Int),σ'=[w1,some (.ref kp),some (.ref (jd i))]/\zAf H4 H'/\H' du=some (.lst (tab j λk=>V.ref (qf k)))/\∀k,k < j->H' (qf k)=some (.tup [.int (a k),.int (b k)])/\Low (keeps ws k*cx i k) (1000*cy i k) (a k) (b k))
   ⟨none,λ_=>du,λ_=>0,λ_=>0,rfl,zC kY _,zB,λk hk=>absurd hk (wHd _)⟩ ?_ ?_
  ·rintro j σ' H' iH ⟨w1,qf,a,b,rfl,s5,ec,hkk⟩;have hj:j < n:=by omega
   have ju:(0+(j:Int))=(j:Int):=by omega
   rw[ju];have m5:=mx4.same s5;have er:=SqT.of (K:=K) ((m5.row i hi).row j hj);have Sr:=SqL.of (K:=K) (m5.row i hi).top;obtain⟨c0,c1,c2⟩:=cb i j hi hj;refine⟨_,rfl,_,rfl,kp,_,_,_,rfl,rfl,SqL.of (s5 _ _ ek4),zAl hj,_,rfl,_,rfl,jd i,_,_,_,rfl,rfl,Sr,zAl hj,_,_,0,_,rfl,rfl,er,rfl,_,_,rfl,rfl,zA6 (zIC wo j) c1 ⋯,?_⟩;refine⟨_,rfl,_,rfl,jd i,_,_,_,rfl,rfl,Sr,zAl hj,_,_,1,_,rfl,rfl,er,rfl,_,_,rfl,rfl,zA6 (j:=10) (show (1000:Int).natAbs < 1024 by decide) c2 ⋯,?_⟩;refine⟨_,_,rfl,by omega,λp2 a2 b2 aV hZ=>?_⟩;have aS:du≠p2:=zP ec aV;refine⟨_,by rw[zO aS];exact ec,by rw[zAa];exact zAB ∅,_,λk=>if k=j then p2 else qf k,λk=>if k=j then a2 else a k,λk=>if k=j then b2 else b k,rfl,zY (s5.trans (zC aV _)) kY _,?_,λk hk=>?_⟩
   ·rw[zB,← zA5];refine congrArg (λl=>some (HO.lst l)) ?_
    congr 1
    ·exact zAz λk hk=>by show V.ref (qf k)=V.ref (if k=j then p2 else qf k);rw[wGZ ∅]
    show [V.ref p2]=[V.ref (if j=j then p2 else qf j)];rw[wG1 rfl]
   by_cases dd:k=j
   ·subst dd;simp only[↓reduceIte];exact⟨by rw[zO aS.symm];exact zB,hZ⟩
   simp only[wGZ dd];obtain⟨a1,a3⟩:=hkk k ∅;refine⟨?_,a3⟩;rw[zO (zBG a1 ec (by intro z;cases z))];exact zC aV _ _ _ a1
  rintro σ' H5 ⟨w1,qd,a,b,rfl,s5,ef,hf⟩;rw[wHn] at ef hf;have fR:=tb.same s5;have nmd:du≠ml:=λz=>by rw[z,tb.top] at kY;cases kY
  refine⟨ml,_,_,rfl,rfl,fR.top,by rw[zAa];exact zAB ∅,?_⟩;have oj:H ml=none:=jE;have su:=zY (s4.trans s5) oj (.lst ((tab i λk=>V.ref (rw k))++[V.ref du]));have up:∀{c:Addr} {o:HO},c≠ml->H5 c=some o->upd H5 ml (.lst ((tab i λk=>V.ref (rw k))++[V.ref du])) c=some o:=λh e=>by rw[zO h];exact e
  have tn:∀{c:Addr} {ys:List V},H5 c=some (.tup ys)->c≠ml:=λe z=>by rw[z,fR.top] at e;cases e
  have oS:∀{c:Addr} {q:Nat->Addr} {x y:Nat->Int},c≠ml->FrAt H5 c q n x y->FrAt (upd H5 ml (.lst ((tab i λk=>V.ref (rw k))++[V.ref du]))) c q n x y:=λh f=>⟨up h f.top,λk hk=>up (tn (f.row k hk)) (f.row k hk)⟩;have m5:=mx4.same s5;have gA:∀{c:Addr} {o:HO},H2 c=some o->c≠ml:=λe z=>by rw[z,fE] at e;cases e
  refine⟨_,λk=>if k=i then du else rw k,λk=>if k=i then qd else qq k,λk=>if k=i then a else u k,λk=>if k=i then b else v k,rfl,su,⟨up (gA n4.top) m5.top,λk hk=>oS (gA (n4.row k hk).top) (m5.row k hk),m5.inj⟩,up (gA ek) (s5 _ _ ek4),⟨?_,λk hk=>?_⟩,⟨λk j hk hj=>?_,λk j hk hj=>?_⟩⟩
  ·rw[zB,← zA5];refine congrArg (λl=>some (HO.lst l)) ?_
   congr 1
   ·exact zAz λk hk=>by show V.ref (rw k)=V.ref (if k=i then du else rw k);rw[wGZ ∅]
   show [V.ref du]=[V.ref (if i=i then du else rw i)];rw[wG1 rfl]
  ·by_cases dd:k=i
   ·subst dd;simp only[↓reduceIte];exact oS nmd ⟨ef,λj hj=>(hf j hj).1⟩
   simp only[wGZ dd];have bE:k < i:=by omega
   refine oS (λz=>?_) (fR.row k bE);have h1:=(fR.row k bE).top;rw[z,fR.top] at h1;have e:=zAa (n:=i) (f:=λk=>V.ref (rw k));have e2:tab i (λk=>V.ref (rw k))=tab n λj=>V.ref (qq k j):=HO.lst.inj (wG8 h1);have e3:=congrArg List.length e2;rw[zAa,zAa] at e3;omega
  ·by_cases dd:k=i
   ·subst dd;simp only[↓reduceIte];exact (hf j hj).2
   simp only[wGZ dd];exact tk.lw k j ∅ hj
  by_cases dd:k=i
  ·subst dd;simp only[↓reduceIte];obtain⟨c0,c1,c2⟩:=cb k j hi hj;have l2:=(hf j hj).2;exact⟨wHF l2.tb ((zIC wo j).mul c1 |>.mono ⋯),wHF l2.bb (Bt.mono (Bt.mul (j:=10) (show (1000:Int).natAbs < 1024 by decide) c2) ⋯)⟩
  simp only[wGZ dd];exact tk.bt k j ∅ hj
 rintro σ' H4 ⟨v5,rw,qq,u,v,rfl,s4,mx4,ek4,tb,tk⟩;rw[zAa] at tb tk;exact⟨_,rfl,q ml H4 rw qq cx cy u v jE s4 tb (λk j hk hj=>(cb k j hk hj).1) ri tk⟩
inductive sp_less_l (K:W.Frag) (vs:List V) (H:Hp) (Q:VK) (E:XK):Prop
 | mk (a b:Addr) (qa qb:Nat->Addr) (n:Nat) (U W U' W':Nat->Int):vs=[.ref a,.ref b]->(FrAt H a qa n U W/\FrAt H b qb n U' W'/\n<=15/\(∀i,i < n->0 < W i/\Bt 12000010 (U i)/\Bt 12000010 (W i))/\(∀i,i < n->0 < W' i/\Bt 12000010 (U' i)/\Bt 12000010 (W' i))/\
 ∀(l:Addr) (q:Nat->Addr) (A B:Nat->Int) (H':Hp),H l=none->zAf H H'->FrAt H' l q n A B->(∀i,i < n->Low (U i*W' i + -(U' i)*W i) (W i*W' i) (A i) (B i))->Q (.ref l) H')->sp_less_l K vs H Q E
def zKF (T:Txt P K mg t):FnOk P w K mg base CX0 43 t.wCW t.wCX ["_law_with_it","_law_without"] (sp_less_l K):=by
 refine T.wEP.ok zEz ⟨⟩ ();obtain⟨a,b,qa,qb,n,U,W,U',W',rfl,fa,fb,aP,b1,b2,q⟩:=h;refine⟨_,(zD (zAE 2 zEz.nd (zAk zE))
  (zD (zAp PassesOwn.never rfl (zAh rfl T.wAe (zI (zS (zAi K) rfl T.wAi wHr (zI (pv 1) zE zA)) zE zR)) (zK (i:=3) zEz.nd rfl (Or.inl rfl)) (zH (zAn (zBv K wHv wHG wHJ zAx (pv 2) (zI (cal (zK9 T) hr T.wFD T.wD4 T.wFC (zN (zAo K (pv 0) (pv 3)) (zAR (zN (zPF zMX (zAW K (zAo K (pv 1) (pv 3)) zG)) (zAW K (zAo K (pv 1) (pv 3)) zG) zE zG2 zF)) zE zF zAX)) zE zR)))))
  (zH (zX (pv 2))))),?_⟩
 refine⟨szl,λl hl=>?_⟩;have s0:=zC hl (.lst []);refine⟨_,rfl,b,_,rfl,.inl (SqL.of (s0 _ _ fb.top)),_,rfl,by omega,by rw[zAa];omega,zA1 (n:=(((tab n λi=>V.ref (qb i)).length:Nat):Int).toNat) (λi σ' H'=>∃(v:Option V) (qf:Nat->Addr) (A B:Nat->Int),σ'=[some (.ref a),some (.ref b),some (.ref l),v]/\zAf H H'/\H' l=some (.lst (tab i λk=>V.ref (qf k)))/\∀k,k < i->H' (qf k)=some (.tup [.int (A k),.int (B k)])/\Low (U k*W' k + -(U' k)*W k) (W k*W' k) (A k) (B k))
  ⟨none,λ_=>l,λ_=>0,λ_=>0,rfl,s0,zB,λk hk=>absurd hk (wHd _)⟩ ?_ ?_⟩
 ·rintro i σ' H1 bA ⟨v,qf,A,B,rfl,s1,el,hk⟩;rw[zAa] at bA;have hi:i < n:=by omega
  have iz:(0+(i:Int))=(i:Int):=by omega
  have fa1:=fa.mono s1;have fb1:=fb.mono s1;have Sa:=SqL.of (K:=K) fa1.top;have Sb:=SqL.of (K:=K) fb1.top;have fO:atI (tab n λk=>V.ref (qa k)) (0+(i:Int))=some (V.ref (qa i)):=by rw[iz];exact zAl hi
  have at2:atI (tab n λk=>V.ref (qb k)) (0+(i:Int))=some (V.ref (qb i)):=by rw[iz];exact zAl hi
  have eb:=SqT.of (K:=K) (fb1.row i hi);refine⟨_,rfl,.inl ⟨rfl,_,SqL.of el⟩,?_⟩;refine⟨_,rfl,_,rfl,a,_,_,_,rfl,rfl,Sa,fO,_,rfl,_,rfl,b,_,_,_,rfl,rfl,Sb,at2,qb i,_,0,_,rfl,rfl,eb,rfl,_,rfl,_,rfl,_,rfl,b,_,_,_,rfl,rfl,Sb,at2,qb i,_,1,_,rfl,rfl,eb,rfl,zA8,λp hp=>?_⟩;have sp:=zC hp (.tup [.int (-(U' i)),.int (W' i)]);obtain⟨p1,x1,y1⟩:=b1 i hi;obtain⟨p2,x2,y2⟩:=b2 i hi;have bn:Bt 12000010 (-(U' i)):=by unfold Bt at x2 ⊢;rw[Int.natAbs_neg];exact x2
  refine⟨qa i,p,U i,W i,-(U' i),W' i,12000010,12000010,rfl,sp _ _ (fa1.row i hi),zB,p1,p2,x1,y1,bn,y2,by decide,λm a' b' hm lw=>?_⟩;have sm:=sp.trans (zC hm (.tup [.int a',.int b']));have jY:=sm _ _ el;have ne:l≠m:=λz=>by rw[← z] at hm;rw[sp _ _ el] at hm;cases hm
  refine⟨l,_,_,rfl,rfl,jY,by rw[zAa];exact zAB ∅,?_⟩;refine⟨_,λk=>if k=i then m else qf k,λk=>if k=i then a' else A k,λk=>if k=i then b' else B k,rfl,zY (s1.trans sm) hl _,?_,λk aZ=>?_⟩
  ·rw[zB,← zA5];refine congrArg (λl=>some (HO.lst l)) ?_
   congr 1
   ·exact zAz λk hk=>by show V.ref (qf k)=V.ref (if k=i then m else qf k);rw[wGZ ∅]
   show [V.ref m]=[V.ref (if i=i then m else qf i)];rw[wG1 rfl]
  by_cases dd:k=i
  ·subst dd;simp only[↓reduceIte];exact⟨by rw[zO ne.symm];exact zB,lw⟩
  simp only[wGZ dd];obtain⟨a1,a3⟩:=hk k ∅;refine⟨?_,a3⟩;rw[zO (zBG a1 el (by intro z;cases z))];exact sm _ _ a1
 rintro σ' H1 ⟨v,qf,A,B,rfl,s1,el,hk⟩;rw[zAa,wHn] at el hk;exact⟨_,rfl,q l qf A B H1 hl s1 ⟨el,λi hi=>(hk i hi).1⟩ λi hi=>(hk i hi).2⟩
inductive sp_same (K:W.Frag) (vs:List V) (H:Hp) (Q:VK) (E:XK):Prop
 | mk (d b:Addr) (q qb:Nat->Addr) (n:Nat) (U W:Nat->Int):vs=[.ref d,.ref b]->(FrAt H d q n U W/\(∀i,i < n->0 < W i/\Nat.gcd (U i).natAbs (W i).natAbs=1)/\FrAt H b qb n U W/\n<=15/\Q (.bl true) H)->sp_same K vs H Q E
def zHY (T:Txt P K mg t):FnOk P w K mg base CX0 43 t.wEm t.wEn ["_law_found","_law_due_here"] (sp_same K):=by
 refine T.wDg.ok zJT ⟨⟩ ();obtain⟨d,b,q,qb,n,U,W,rfl,fa,fo,fb,aP,k⟩:=h;refine⟨_,(zD (zA4 (zAZ (zAQ (cal (zGU T) hr T.wE7 T.wCH T.wE6 (zN (pv 0) (zS (zAi K) rfl T.wAi wHr (zI (pv 1) zE zA)) zE zA zR)))) (zH (zX zBu)) zAd)
  (zD (zAp PassesOwn.never rfl (zAh rfl T.wAe (zI (zS (zAi K) rfl T.wAi wHr (zI (pv 1) zE zA)) zE zR)) (zK (i:=2) zJT.nd rfl (Or.inl rfl)) (zH (zA4 (zAc (zPK hr.units) (zAo K (pv 0) (pv 2)) (zAo K (pv 1) (pv 2)) (zAj _)) (zH (zX zBu)) zAd)))
  (zH (zX zBu)))),?_⟩
 refine⟨_,rfl,_,rfl,b,_,rfl,.inl (SqL.of fb.top),d,q,n,U,W,by rw[zAa];rfl,fa,fo,by omega,_,rfl,zCf ?_⟩;refine⟨_,rfl,b,_,rfl,.inl (SqL.of fb.top),_,rfl,by omega,by rw[zAa];omega,zA1 (n:=(((tab n λi=>V.ref (qb i)).length:Nat):Int).toNat) (λi σ' H'=>∃v,σ'=[some (.ref d),some (.ref b),v]/\H'=H) ⟨_,rfl,rfl⟩ ?_ ?_⟩
 ·rintro i σ' H' hi ⟨v,rfl,rfl⟩;rw[zAa] at hi;have aC:i < n:=by omega
  have iz:(0+(i:Int))=(i:Int):=by omega
  have fO:atI (tab n λk=>V.ref (q k)) (0+(i:Int))=some (V.ref (q i)):=by rw[iz];exact zAl aC
  have at2:atI (tab n λk=>V.ref (qb k)) (0+(i:Int))=some (V.ref (qb i)):=by rw[iz];exact zAl aC
  exact⟨_,rfl,_,rfl,d,_,_,_,rfl,rfl,SqL.of fa.top,fO,_,rfl,_,rfl,b,_,_,_,rfl,rfl,SqL.of fb.top,at2,q i,qb i,U i,W i,rfl,rfl,SqT.of (fa.row i aC),SqT.of (fb.row i aC),_,rfl,zCf ⟨_,rfl,rfl⟩⟩
 rintro σ' H' ⟨v,rfl,rfl⟩;exact k
def zPa {ws:Wys} {i:Nat} {c:Nat->Rat} {x:Nat->Int} {P:Int} {n:Nat} (wo:WyOk n ws) (h:∀j,j < n->c j*(P:Rat)=((x j:Int):Rat)):wS ws i c*(P:Rat)=((Sg (λk=>if wt ws k=i then wp ws k*x (wg ws k) else 0) ws.length:Int):Rat):=by
 have e:wS ws i c*(P:Rat)=(P:Rat)*wS ws i c+0*wS ws i c:=by grind
 rw[e,← zJA,← zHC];unfold wS;refine zCv λm hm=>?_;by_cases d:wt ws m=i
 ·rw[wG1 d,wG1 d,wHU,← h _ (wo.g m hm)]
  grind
 rw[wGZ d,wGZ d];rfl
def zLv {n:Nat} {ws:Wys} {s0:Nat} {U W cx cy u v:Nat->Int} (wo:WyOk n ws) (sh:zMT n ws s0 U W) (cp:∀i,i < n->0 < cy i) (ri:RwI n ws s0 (λj=>qv (cx j) (cy j)) (λ_=>0)) (lw:∀i,i < n->Low (keeps ws i*cx i) (1000*cy i) (u i) (v i)):∀i,i < n->u i=U i/\v i=W i:=by
 obtain⟨X,Y,fo,fou,key,lj⟩:=sh;obtain⟨P,p0,hP⟩:=zL3 n cp;have hR:∀i,∃R,i < n->cy i*R=P:=λi=>by
  by_cases c:i < n
  ·obtain⟨R,e⟩:=hP i c;exact⟨R,λ_=>e.symm⟩
  exact⟨0,λz=>absurd z c⟩
 obtain⟨R,hR⟩:=Classical.axiomOfChoice hR;have hc:∀j,j < n->qv (cx j) (cy j)*(P:Rat)=((cx j*R j:Int):Rat):=λj hj=>by
  have h1:=zC7 (cp j hj);rw[← hR j hj,wHU,wHU];unfold qv
  grind
 have so:Sol n (M0 n ws s0) (λj=>cx j*R j) P:=by
  refine (zQu wo).mpr λi hi=>?_;have e:=ri i hi;have w:=zPa (i:=i) (P:=P) (x:=λj=>cx j*R j) wo hc;have g:=hc i hi;refine Rat.intCast_inj.mp ?_;rw[Rat.intCast_add,← w,wHU,← g,wHU];by_cases d:i=s0
  ·rw[wG1 d] at e ⊢;have:((1000:Int):Rat)=1000:=rfl;rw[this]
   grind
  rw[wGZ d] at e ⊢;have:((1000:Int):Rat)=1000:=rfl;rw[this,Rat.intCast_zero]
  grind
 have sm:=(key _ _).mpr so;intro i hi;have e3:cx i*Y i=X i*cy i:=by
  have r0:0 < R i:=zNc (cp i hi) (by rw[hR i hi];exact p0);have e':cx i*R i*Y i=X i*P:=sm i hi;refine zCz r0 ?_;rw[← hR i hi] at e'
  grind
 have l:=lw i hi;have e1:=l.eq;have e2:=lj i hi;refine zKO l.pos (fou.pos i hi) l.one (fou.one i hi) ?_;refine zCz (c:=1000*Y i) (by have:=fo.pos i hi;omega) ?_;refine zCz (c:=cy i) (cp i hi) ?_
 grind
def nmV (ns:List Str) (L:List Int):List V:=L.map λj=>V.str (ns.getD j.toNat Str.empty)
def zON (T:Txt P K mg t) {H:Hp} {Q:VK} {E:XK} {b tl rw:Addr} {ns:List Str} {ws:List W5} {w:W5} {s0:Nat} {d:Int} (hB:zAD H t.wAd b tl (bkP ns (ws.map (pOf ns)))) (nd:ns.Nodup) (aM:∀x∈ns,zIN x) (aP:ns.length<=15) (g:GoodB ns.length ws) (lw:ws.length<=20) (o:OkN ns.length w) (hs:s0 < ns.length) (dd:0<=d/\d<=5000)
  (er:H rw=some (.lst (.str "change"::.str (ns.getD s0 Str.empty)::.int d::(pOf ns w).vs)))
  (qO:OvD ws w->∀a H',zAf H H'->H' a=some (.lst [.str "refused",.str (zB1 6)])->Q (.ref a) H')
  (qS:¬OvD ws w->∀d0 a m H',ShD ns.length ws w d0->zAf H H'->H' a=some (.lst [.str "refused",.str "shut in",.int d0,.ref m])->H' m=some (.lst (nmV ns (zDe ns.length ws w d0)))->Q (.ref a) H')
  (qN:¬OvD ws w->(∀d,w.2.2.2.1<=d->d<=w.2.2.2.2->zDe ns.length ws w d=[])->∀(a l:Addr) (A B U W U' W':Nat->Int) (qa:Nat->Addr) (H':Hp),H l=none->zAf H H'->H' a=some (.lst [.str "answer",.ref l])->FrAt H' l qa ns.length A B->zMT ns.length (wyL (ws++[w]) d) s0 U W->zMT ns.length (wyL ws d) s0 U' W'->(∀i,i < ns.length->Low (U i*W' i-U' i*W i) (W i*W' i) (A i) (B i))->Q (.ref a) H'):zMZ K t (sp_call K t) [.ref b,.ref rw] H Q E:=by
 have en:=zCE ns (ws.map (pOf ns));have ep:=zCD ns (ws.map (pOf ns));have tn:=tN nd o;have hm:ns.getD s0 Str.empty∈ns:=by rw[wG4,wG0 hs];exact wHs _
 have ix:=zDX nd hs;have pk:=zCB nd (ws:=[w]) λp hp=>by rw[wIj hp];exact o
 have inn:=pk.inn (pOf ns w) (by simp);have ov:=zPJ nd g o;have cw:∀{k},zOM ns (ws.map (pOf ns)) (ns.getD s0 Str.empty) d (pOf ns w).1 (pOf ns w).2.1 w.2.2.1 w.2.2.2.1 w.2.2.2.2=k->(k=some 6/\OvD ws w)∨(k=none/\¬OvD ws w):=λ{k} h=>by
  unfold zOM at h;rw[wG1 hm,tn] at h;replace h:=(wG1 dd).symm.trans h;by_cases c:OvD ws w
  ·left
   exact⟨((wG1 (ov.mpr c)).symm.trans h).symm,c⟩
  right
  exact⟨((wGZ λz=>c (ov.mp z)).symm.trans h).symm,c⟩
 refine⟨rfl,λH0 Q' E' fX hq he hs'=>⟨b,tl,rw,_,_,_,_,_,_,_,_,rfl,hB.same fX,fX _ _ er,b,tl,_,_,_,_,_,_,_,_,rfl,hB.same fX,by rw[zBW,wGX];omega,by rw[en];omega,by rw[ep,wGX];omega,(aM _ hm).sane,(aM _ inn.1).sane,(aM _ inn.2).sane,by rw[en,ep];exact zCB nd g.ok,?_⟩⟩;rw[en,ep];refine⟨λ_=>zMx nd g o,λH' k e1 s1=>?_,λd0 H' dx e1 fs s1 hD=>?_,λH' e1 aO c8 s1=>?_,λe1 aO c8=>?_⟩
 ·rcases cw e1 with ⟨z,c⟩ | ⟨z,_⟩
  ·cases z;have W:ExW K t t.wAc 6:=⟨T.wF3,T.wB4,T.wBW,T.wCy,T.wBT,T.wBy,T.wCs,T.wBU,T.wBV,T.wCz,T.wC2,T.wDL,T.wBD,T.wCA⟩;exact he _ _ _ ⟨_,6,rfl,W,T.wC1,by decide,zD0.no,λa H2 s2 ha ea=>qO c a H2 (fX.trans (s1.trans s2)) ea⟩
  cases z
 ·have aH:=((cw e1).resolve_left λz=>by cases z.1).2;obtain⟨m,m0,m1,m2⟩:=hD;have ew:zG6 ns (ws.map (pOf ns)++[pOf ns w]) d0=nmV ns (zDe ns.length ws w d0):=by have e:=zIy nd (zBR g.ok o) d0;unfold zG6 nmV;rw[e]
  refine hs' dx m d0 H' m1 λl H2 s2 nl el=>qS aH d0 l m H2 (zOE nd g o fs) ((fX.trans s1).trans s2) el (s2 _ _ ?_);rw[m2];exact congrArg (λl=>some (HO.lst l)) ew
 ·rw[wGX] at c8;omega
 have aH:=((cw e1).resolve_left λz=>by cases z.1).2;have jm:=zMw nd g o aO;have g2:=zIG g o aH jm;have w2:=g2.wy nd d;rw[← zAI] at w2;refine⟨g.wy nd d,w2,λl' A B U W U' W' qa H' hl s1 fa fq hV lo=>?_⟩;have e2:=zAM nd g2.ok d;rw[← zAI] at e2;rw[ix] at fq hV;replace fq:zMT ns.length (zBm ns (ws.map (pOf ns)++[pOf ns w]) d) s0 U W:=fq;rw[e2] at fq;rw[zAM nd g.ok d] at hV;refine hq _ _ λa ha=>?_;have s2:=zC ha (.lst [.str "answer",.ref l']);exact qN aH jm a l' A B U W U' W' qa _ (fX.free hl) ((fX.trans s1).trans s2) zB (fa.mono s2) fq hV lo
def zM5 {t b t' b' x y x' y':Int} (h:Low t b x y) (h':Low t' b' x' y') (e:t=t') (e2:b=b') (b0:0 < b):x'=x/\y'=y:=by
 subst e e2;refine zKO h'.pos h.pos h'.one h.one ?_;have e1:=h.eq;have e3:=h'.eq;refine zCz (c:=b) b0 ?_
 grind
def zGr {n:Nat} {ws:Wys} {s0:Nat} {U W:Nat->Int} {cx cy u v:Nat->Nat->Int} (wo:WyOk n ws) (hs:s0 < n) (sh:zMT n ws s0 U W) (cp:∀k j,k < n->j < n->0 < cy k j) (ri:∀k,k < n->RwI n ws k (λj=>qv (cx k j) (cy k j)) (λ_=>0)) (tk:TbOk n n ws cx cy u v):∀i,i < n->u s0 i=U i/\v s0 i=W i:=
 zLv wo sh (λi hi=>cp s0 i hs hi) (ri s0 hs) λi hi=>tk.lw s0 i hs hi
inductive sp_day_right (K:W.Frag) (t:Adr) (vs:List V) (H:Hp) (Q:VK) (E:XK):Prop
 | mk (b tl nl pl nw:Addr) (ns:List Str) (ws:List W5) (w:W5) (d:Int):vs=[.ref b,.ref nl,.ref pl,.ref nw,.int d]->(zAD H t.wAd b tl (bkP ns (ws.map (pOf ns)))/\H nl=some (.lst (ns.map V.str))/\zAe H pl (ws.map W5.vs)/\H nw=some (.tup w.vs)/\ns.Nodup/\(∀x∈ns,zIN x)/\1<=ns.length/\ns.length<=8/\GoodB ns.length ws/\OkN ns.length w/\¬OvD ws w/\(∀d,w.2.2.2.1<=d->d<=w.2.2.2.2->zDe ns.length ws w d=[])/\ws.length<=8/\(0<=d/\d<=5000)/\∀H',zAf H H'->Q (.bl true) H')->sp_day_right K t vs H Q E
def zGV (T:Txt P K mg t):FnOk P w K mg base CX0 49 t.wBw t.wBx ["_law_book_here","_law_names_here","_law_pacts","_law_new","_law_day"] (sp_day_right K t):=by
 refine T.wCI.ok zAA ⟨⟩ ();obtain⟨b,tl,nl,pl,nw,ns,ws,w,d,rfl,hB,en,TP,fh,nd,aM,n1,n8,g,o,aH,aO,lw,dd,q⟩:=h;refine⟨_,(zD (zAE 5 zAA.nd (zS (zAi K) rfl T.wAi wHr (zI (pv 1) zE zA)))
  (zD (zAE 6 zAA.nd (cal (zGb T) hr T.wDJ T.wCx T.wDI (zN (pv 5) (cal (zKD T) hr T.wEF T.wDF T.wEE (zN (pv 2) (pv 4) zE zA zA)) zE zA zR)))
  (zD (zAE 7 zAA.nd (cal (zGb T) hr T.wDJ T.wCx T.wDI (zN (pv 5) (cal (zKD T) hr T.wEF T.wDF T.wEE (zN (zW zBL (pv 2) (zAk (zI (pv 3) zE zA))) (pv 4) zE zT zA)) zE zA zR)))
  (zD (zAE 8 zAA.nd (zAk (zN (zAo K (pv 1) (zAW K (pv 3) zG)) (zAo K (pv 1) (zAW K (pv 3) zG)) (zZ (zAW K (pv 3) zG) (zAW K (pv 3) zG) (zAW K (pv 3) zG) zE zF zF zF) zF zF)))
  (zD (zAp PassesOwn.never rfl (zAh rfl T.wAe (zI (pv 5) zE zA)) (zK (i:=9) zAA.nd rfl (Or.inl rfl)) (zD (zAE 10 zAA.nd (cal (zKF T) hr T.wGj T.wEP T.wGi (zN (zAo K (pv 7) (pv 9)) (zAo K (pv 6) (pv 9)) zE zF zF)))
  (zD (zAp PassesOwn.never rfl (zAh rfl T.wAe (zI zG zE zJ)) (zK (i:=11) zAA.nd rfl (Or.inl rfl)) (zD (zAE 12 zAA.nd (cal (zNn T) hr T.wGo T.wFA T.wGn (zN (pv 0) (zW zBL (zAk (zI zAF (zN (zAo K (pv 1) (pv 9)) (pv 4) zE zF zA) zJ)) (pv 8)) zE zA zT)))
  (zD (zA4 (PW.pt (zEA (zAc zDH (zAo K (pv 12) zG) zAF (zAj _)) (zCO (zAZ (zAQ (cal (zHY T) hr T.wEN T.wDg T.wEM (zN (zAo K (pv 12) zG) (pv 10) zE zF zA))))))) (zH (zX zBu)) zAd)
  (zH (zAn (zPI wHv F.slot_list_clear F.type_list_clear zM1 (zAo K (pv 12) zG)))))))
  (zH (zA4 (zAZ (zAQ (cal (zHY T) hr T.wEN T.wDg T.wEM (zN (zBP (pv 0) T.wAf T.wA4 ((zBS T).mono ⋯) hr T.wA3 .nil zKz (zN (zAo K (pv 1) (pv 9)) (pv 4) zE zF zA)) (zAo K (pv 6) (pv 9)) zE zR zF)))) (zH (zX zBu)) zAd)))))
  (zH (zX zBu))))))),?_⟩
 have g2:=zIG g o aH aO;have nn:∀p∈ws,0<=p.1/\0<=p.2.1:=λp hp=>⟨(g.ok p hp).g.1,(g.ok p hp).u.1⟩;have nv:∀p∈ws++[w],0<=p.1/\0<=p.2.1:=λp hp=>⟨(g2.ok p hp).g.1,(g2.ok p hp).u.1⟩;have wo:=(g.wy nd d).1;have op:=(g.wy nd d).2;rw[zAM nd g.ok] at wo op;have dS:=(g2.wy nd d).1;have fz:=(g2.wy nd d).2;rw[zAM nd g2.ok] at dS fz;have l2:(ws++[w]).length=ws.length+1:=by rw[wG7];rfl
 refine⟨_,rfl,nl,_,rfl,.inl (SqL.of en),?_⟩;show zJr 5 (V.int ((ns.map V.str).length:Nat)) _ _ _;rw[wGX];refine⟨_,rfl,_,rfl,_,rfl,pl,ws,d,rfl,TP,by omega,nn,λr H1 hr s1 T1=>?_⟩;obtain⟨rs,wa⟩:=zEp (K:=K) T1;refine⟨ns.length,r,rs,_,rfl,wa,wo,op,n1,n8,by have:=zFH ws d;omega,λol H2 hX q1 cx1 cy1 u1 v1 nU s2 tb1 lA ri1 hJ=>?_⟩;replace s2:=s1.trans s2;have TP2:=TP.same s2;obtain⟨qs,hp,lq,hq⟩:=id TP2;rw[wGX] at lq;refine⟨_,rfl,_,rfl,_,rfl,szl,λc hc=>?_⟩;have sc:=zC hc (.lst [V.ref nw]);refine⟨pl,c,_,_,rfl,rfl,sc _ _ hp,zB,by rw[wGX];exact small (by show _+1<=_;omega),λp2 aV=>?_⟩;have cT:=sc.trans (zC aV (.lst (qs.map V.ref++[V.ref nw])));have TN:zAe (upd (upd H2 c (.lst [V.ref nw])) p2 (.lst (qs.map V.ref++[V.ref nw]))) p2 ((ws++[w]).map W5.vs):=zDh (cT _ _ hp) lq (λi a ys e1 e2=>cT _ _ (hq i a ys e1 e2)) (cT _ _ (s2 _ _ fh)) zB;have s3:=s2.trans cT;have tb3:=tb1.same cT;show zA0 _ _ _ (upd (upd H2 c (.lst [V.ref nw])) p2 (.lst (qs.map V.ref++[V.ref nw]))) _;generalize upd (upd H2 c (.lst [V.ref nw])) p2 (.lst (qs.map V.ref++[V.ref nw]))=H3 at TN s3 tb3 ⊢;refine⟨_,rfl,p2,ws++[w],d,rfl,TN,by omega,nv,λr2 H4 hr2 s4 T4=>?_⟩;obtain⟨mY,mM⟩:=zEp (K:=K) T4;refine⟨ns.length,r2,mY,_,rfl,mM,dS,fz,n1,n8,by have:=zFH (ws++[w]) d;omega,λml H5 eL q2 cx2 cy2 u2 v2 fE s5 mS kh ng fQ=>?_⟩;have fR:=(tb3.same s4).same s5;replace s5:=(s3.trans s4).trans s5;have Sn:=SqL.of (K:=K) (s5 _ _ en);have Sw:=SqT.of (K:=K) (s5 _ _ fh);refine⟨_,rfl,_,rfl,nw,_,0,_,rfl,rfl,Sw,rfl,nl,_,_,_,rfl,rfl,Sn,zCu o.g.1 o.g.2,_,rfl,_,rfl,nw,_,1,_,rfl,rfl,Sw,rfl,nl,_,_,_,rfl,rfl,Sn,zCu o.u.1 o.u.2,_,rfl,nw,_,2,_,rfl,rfl,Sw,rfl,_,rfl,nw,_,3,_,rfl,rfl,Sw,rfl,_,rfl,nw,_,4,_,rfl,rfl,Sw,rfl,szl,λtail cL=>?_⟩;have s6:=zC cL (.lst (pOf ns w).vs);have et:upd H5 tail (.lst (pOf ns w).vs) tail=some (.lst (pOf ns w).vs):=zB;have tb6:=fR.same s6;have iV:=mS.same s6;replace s6:=s5.trans s6;show zFu _ _ _ _ (upd H5 tail (.lst (pOf ns w).vs));generalize upd H5 tail (.lst (pOf ns w).vs)=H6 at s6 et tb6 iV ⊢;refine⟨_,rfl,(ns.length:Nat),rfl,by omega,by omega,zA1 (n:=((ns.length:Nat):Int).toNat) (λi σ' H'=>∃v9 fP cS bO,σ'=[some (.ref b),some (.ref nl),some (.ref pl),some (.ref nw),some (.int d),some (.int (ns.length:Nat)),some (.ref ol),some (.ref ml),some (.ref tail),v9,fP,cS,bO]/\zAf H6 H') ⟨none,none,none,none,rfl,zAf.refl _⟩ ?_ ?_⟩
 ·rintro s0 σ' H7 hs0' ⟨v9,fP,cS,bO,rfl,s7⟩;have bD:s0 < ns.length:=by omega
  have iz:(0+(s0:Int))=(s0:Int):=by omega
  rw[iz];have eQ:ns.getD s0 Str.empty∈ns:=by rw[wG4,wG0 bD];exact wHs _
  have ix:=zDX nd bD;have as0:atI (ns.map V.str) (s0:Int)=some (.str (ns.getD s0 Str.empty)):=zCu ∅ ∅;have mQ:=tb6.same s7;have tm7:=iV.same s7;refine⟨_,rfl,_,rfl,ml,_,_,_,rfl,rfl,SqL.of tm7.top,zAl bD,_,rfl,_,rfl,ol,_,_,_,rfl,rfl,SqL.of mQ.top,zAl bD,?_⟩;refine⟨eL s0,hX s0,q2 s0,q1 s0,ns.length,u2 s0,v2 s0,u1 s0,v1 s0,rfl,tm7.row s0 bD,mQ.row s0 bD,by omega,λi hi=>⟨(fQ.lw s0 i bD hi).pos,fQ.bt s0 i bD hi⟩,λi hi=>⟨(hJ.lw s0 i bD hi).pos,hJ.bt s0 i bD hi⟩,λdl qd A' B' H8 gJ s8 fd ld=>?_⟩;have s68:=s7.trans s8;have to8:=mQ.same s8;refine⟨2,rfl,by decide,by decide,zA1 (n:=2) (λj σ' H'=>∃cS bO,σ'=[some (.ref b),some (.ref nl),some (.ref pl),some (.ref nw),some (.int d),some (.int (ns.length:Nat)),some (.ref ol),some (.ref ml),some (.ref tail),some (.int (s0:Int)),some (.ref dl),cS,bO]/\zAf H8 H') ⟨cS,bO,rfl,zAf.refl _⟩ ?_ ?_⟩
  ·rintro j σ' H9 _ ⟨cS,bO,rfl,s9⟩;have fW:=s68.trans s9;have Sn9:=SqL.of (K:=K) ((s6.trans fW) _ _ en);refine⟨_,rfl,_,rfl,_,rfl,nl,_,_,_,rfl,rfl,Sn9,as0,_,rfl,szl,λc1 hc1=>?_⟩;have t1:=zC hc1 (.lst [V.str "change",V.str (ns.getD s0 Str.empty),V.int d]);refine⟨_,rfl,c1,tail,_,_,rfl,rfl,zB,t1 _ _ (fW _ _ et),szl,λrow dG=>?_⟩;have t2:=t1.trans (zC dG (.lst ([V.str "change",V.str (ns.getD s0 Str.empty),V.int d]++(pOf ns w).vs)));have tB:=(s6.trans fW).trans t2;dsimp only [zJJ];refine zON T (hB.same tB) nd aM ∅ g ∅ o bD dd (by rw[zB];rfl) (λz=>absurd z aH) (λ_ d0 a m H' z=>?_) (λ_ _ a l A B U W U' W' qa fj hl cI ea fa fq hV lo=>?_)
   ·obtain⟨z1,z2,z3,_⟩:=z;exact absurd (aO d0 z1 z2) z3
   have e1:=zGr dS bD fq kh ng fQ;have e2:=zGr wo bD hV lA ri1 hJ;obtain⟨X2,Y2,fo2,oV,key2,eqs2⟩:=id fq;obtain⟨X1,Y1,fo1,cE,jq,jV⟩:=id hV;have eqA:∀i,i < ns.length->A' i=A i/\B' i=B i:=λi hi=>by have h1:=lo i hi;have h2:=ld i hi;rw[(e1 i hi).1,(e1 i hi).2,(e2 i hi).1,(e2 i hi).2] at h2;exact zM5 h1 h2 (by grind) rfl (wH3 (oV.pos i hi) (cE.pos i hi))
   have fV:=(s9.trans t2).trans cI;have jT:FrAt fj dl qd ns.length A B:=⟨fV _ _ fd.top,λi hi=>by rw[← (eqA i hi).1,← (eqA i hi).2];exact fV _ _ (fd.row i hi)⟩;have Sa:=SqL.of (K:=K) ea;refine⟨_,rfl,a,_,0,_,rfl,rfl,Sa,rfl,rfl,_,rfl,zDK rfl ?_⟩;refine⟨_,rfl,a,_,1,_,rfl,rfl,Sa,rfl,_,rfl,l,dl,qa,qd,ns.length,A,B,rfl,fa,λi hi=>⟨(lo i hi).pos,(lo i hi).one⟩,jT,by omega,_,rfl,zCf ?_⟩;refine⟨_,rfl,a,_,1,_,rfl,rfl,Sa,rfl,.inl ⟨rfl,_,SqL.of fa.top⟩,l,_,rfl,rfl,fa.top,?_⟩;exact⟨_,_,rfl,zY fV ((s9.trans t2).free hl) _⟩
  rintro σ' H9 ⟨cS,bO,rfl,s9⟩;have fW:=s68.trans s9;have B9:=hB.same (s6.trans fW);obtain⟨dx9,_,hb9,_⟩:=id B9;have cX:=zCE ns (ws.map (pOf ns));have bS:=zCD ns (ws.map (pOf ns));refine⟨_,rfl,b,dx9,_,rfl,hb9,rfl,_,rfl,_,rfl,nl,_,_,_,rfl,rfl,SqL.of ((s6.trans fW) _ _ en),as0,_,rfl,?_⟩;refine⟨b,tl,_,_,d,rfl,B9,by rw[zBW,wGX];omega,(aM _ eQ).sane,by rw[cX];omega,by rw[cX,bS];exact zCB nd g.ok,by rw[bS,wGX];omega,λz=>absurd eQ (by rw[cX] at z;exact z),λ_ z=>absurd dd z,λ_ _=>?_⟩;rw[cX,bS,ix,zAM nd g.ok];refine⟨wo,op,λf qf U W fj hf cI fu sh=>?_⟩;have e2:=zGr wo bD sh lA ri1 hJ;obtain⟨X1,Y1,fo1,cE,jq,jV⟩:=id sh;have iU:=(to8.same s9).same cI;have fr:=iU.row s0 bD;have jT:FrAt fj (hX s0) (q1 s0) ns.length U W:=⟨fr.top,λi hi=>by rw[← (e2 i hi).1,← (e2 i hi).2];exact fr.row i hi⟩;refine⟨_,rfl,_,rfl,ol,_,_,_,rfl,rfl,SqL.of iU.top,zAl bD,?_⟩;refine⟨f,hX s0,qf,q1 s0,ns.length,U,W,rfl,fu,λi hi=>⟨cE.pos i hi,cE.one i hi⟩,jT,by omega,_,rfl,zCf ?_⟩;exact⟨_,_,_,_,rfl,fW.trans cI⟩
 rintro σ' H7 ⟨v9,fP,cS,bO,rfl,s7⟩;exact q _ (s6.trans s7)
def zLm {ns:List Str} {ws:List W5} (aM:∀n∈ns,zIN n) (nd:ns.Nodup) (ok:∀p∈ws,OkN ns.length p):∀d∈bkP ns (ws.map (pOf ns)),d.Ok:=λd hd=>by
 rcases wIm hd with z | z
 ·obtain⟨n,hn,rfl⟩:=List.mem_map.mp z;exact (aM n hn).sane
 obtain⟨p,hp,rfl⟩:=List.mem_map.mp z;have h:=zCB nd ok;have i:=h.inn p hp;have t:=h.pt p hp;have s:=h.sp p hp;have lt:∀x:Int,0<=x->x<=5000->x.natAbs < 10 ^ 60:=λx a b=>wHF (show x.natAbs<=5000 by omega) ⋯;exact⟨(aM _ i.1).sane,(aM _ i.2).sane,lt _ ∅ ∅,lt _ ∅ ∅,lt _ ∅ ∅⟩
def zMI {xs:List V} {lo hi:Option Int} {x:V} (h:x∈zD1 xs lo hi):x∈xs:=by unfold zD1 at h;exact List.mem_of_mem_drop (List.mem_of_mem_take h)
def zIh (ns:List Str) (L:List Int):(nmV ns L).length=L.length:=by unfold nmV;rw[wGX]
inductive sp_law (K:W.Frag) (vs:List V) (H:Hp) (Q:VK) (E:XK):Prop
 | mk (a:Addr) (ns:List Int):vs=[.ref a]->(SqL K H a (ns.map V.int)/\ns.length<=63/\∀H',Q (.bl true) H')->sp_law K vs H Q E
def zPP (T:Txt P K mg t):FnOk P w K mg base CX0 50 t.wFr t.wFs ["_law_script"] (sp_law K):=by
 refine T.wGQ.ok zB2 ⟨⟩ ();obtain⟨a,xs,rfl,hS,_,k⟩:=h;refine⟨_,(zD (zAE 1 zB2.nd (cal (zMr T) hr T.wGy T.wFe T.wGx (zN (pv 0) zG zE zA zJ)))
  (zD (zAE 2 zB2.nd (zW zBj zG (zW zAt (zAo K (pv 1) zG) zG)))
  (zD (zBa (i:=3) zB2.nd rfl (Or.inr rfl) (cal (zMo T) hr T.wGA T.wFf T.wGz (zN (zAo K (pv 1) zG) (pv 2) zE zF zA)))
  (zD (zAE 4 zB2.nd (cal (zMs T) hr T.wGC T.wFg T.wGB (zZ (zBK (zDi K) (pv 1) (zBC zG) zED) (pv 2) (zW zAt (zAo K (pv 1) zG) zG) zE zF zA zT)))
  (zD (zAE 5 zB2.nd (cal (zOu T) hr T.wGK T.wFR T.wGJ (zN (pv 3) (pv 4) zE zA zA)))
  (zD (zAE 6 zB2.nd (cal (zKC T) hr T.wFQ T.wED T.wFP (zZ (zBK (zDi K) (pv 1) (zBC zG) (zBC zG)) (pv 2) (pv 4) zE zF zA zA)))
  (zD (zAE 7 zB2.nd (zAk (zN (zAo K (pv 3) (zAW K (pv 6) zG)) (zAo K (pv 3) (zAW K (pv 6) zG)) (zZ (zAW K (pv 6) zG) (zAW K (pv 6) zG) (zAW K (pv 6) zG) zE zF zF zF) zF zF)))
  (zD (zBB (cal (zNm T) hr T.wGm T.wFz T.wGl (zZ (pv 2) (pv 4) (pv 6) zE zA zA zA)) (zAw K (n:=3) rfl (zQ (zK (i:=8) zB2.nd rfl (Or.inl rfl)) (zQ (zK (i:=9) zB2.nd rfl (Or.inl rfl)) (zQ (zK (i:=10) zB2.nd rfl (Or.inl rfl)) zAv)))))
  (zD (zA4 (zAc zDH (pv 8) zAF (zAj _)) (zD (zAE 11 zB2.nd (cal (zNn T) hr T.wGo T.wFA T.wGn (zN (pv 5) (zW zBL (zAk (zI zAF (zN (zAo K (pv 3) (zW zAt (zAo K (pv 1) zG) (pv 2))) (zW zAt (zAo K (pv 1) zG) zG) zE zF zT) zJ)) (pv 7)) zE zA zT)))
  (zD (zA4 (PW.pt (zEA (zAZ (zAQ (cal (zJh T) hr T.wFW T.wDS T.wFV (zN (pv 11) (pv 8) zE zA zA)))) (zCO (zAc zDH (zS (zAi K) rfl T.wAi wHr (zI (zBd (pv 5) T.wAf T.wEz ((zGf T).mono ⋯) hr T.wEy .nil zC9) zE zR)) (zW zBj (pv 2) (zS (zAi K) rfl T.wAi wHr (zI (pv 4) zE zA))) (zAj _))))) (zH (zX zBu)) zAd)
  (zD (zA4 (zAc zCA (pv 8) zAF (zAj _)) (zD (zDF ["_law_k","_law_names_here"] [none,some 3] (by kernel_rfl) rfl (zAb K (pv 10)) (λ_ _ _ _ _=>(zK (i:=0) ndB rfl (Or.inl rfl))) (λ_ _ _ _ _=>zAs) (λ_ _ _ _ _=>(zAo K (pv 1) (pv 0))) (zK (i:=12) zB2.nd rfl (Or.inl rfl)))
  (zH (zX (zI5 (zCr zCA (zAo K (pv 11) zG) (pv 9) (zAj _)) (zI3 (cal (zMn T) hr T.wGE T.wFh T.wGD (zN (zAo K (pv 11) zG) (pv 12) zE zF zA))))))) zAd)
  (zH (zX zBu))))) zAd)
  (zD (zAE 13 zB2.nd (zAk (zN (zAW K (pv 6) zG) (zAW K (pv 6) zG) (zZ (zS (zHp rfl) rfl T.wFI PyProof.Rows.boot_max (zN zG (zW zDT (zAW K (pv 6) zG) zG) zE zJ zT)) (zS (zHo rfl) rfl T.wFJ PyProof.Rows.boot_min (zN zG (zW zBj (zAW K (pv 6) zG) zG) zE zJ zT)) (zW zAt (zAo K (pv 1) zG) zG) zE zR zR zT) zF zF)))
  (zD (zAp PassesOwn.never rfl (zAb K (zBK (zDi K) (pv 13) (zBC (zW zAt (zAo K (pv 1) zG) zG)) (zBC (zW zBj (zW zAt (zAo K (pv 1) zG) zG) zG)))) (zK (i:=14) zB2.nd rfl (Or.inl rfl)) (zH (zA4 (zAZ (zAQ (cal (zGV T) hr T.wE9 T.wCI T.wE8 (zN (pv 5) (pv 3) (zZ (pv 4) (pv 6) (pv 14) zE zA zA zA) zA zA)))) (zH (zX zBu)) zAd)))
  (zD (zDF ["_law_a","_law_b","_law_part","_law_one","_law_two","_law_names_here"] [none,none,none,none,none,some 3] (by kernel_rfl) rfl (zAb K (pv 4)) (λ_ _ _ _ _=>(zAw K (n:=5) rfl (zQ (zK (i:=0) ndB rfl (Or.inl rfl)) (zQ (zK (i:=1) ndB rfl (Or.inl rfl)) (zQ (zK (i:=2) ndB rfl (Or.inl rfl)) (zQ (zK (i:=3) ndB rfl (Or.inl rfl)) (zQ (zK (i:=4) ndB rfl (Or.inl rfl)) zAv))))))) (λ_ _ _ _ _=>zAs) (λ_ _ _ _ _=>(zAR (zN (zAo K (pv 5) (pv 0)) (zAo K (pv 5) (pv 1)) (zZ (pv 2) (pv 3) (pv 4) zE zA zA zA) zF zF))) (zK (i:=11) zB2.nd rfl (Or.inl rfl)))
  (zD (zA4 (zAZ (zAQ (cal (zK8 T) hr T.wGh T.wEO T.wGg (zN (zBd (pv 5) T.wAf T.wAx ((zBs T).mono ⋯) hr T.wAw .nil zC9) (pv 11) zE zR zA)))) (zH (zX zBu)) zAd)
  (zD (zAn (zBP (pv 5) T.wAf T.wCG ((zDU T).mono ⋯) hr T.wCF .nil zKz (zN (zAo K (pv 7) zG) (zAo K (pv 7) zG) (zZ (zAo K (pv 7) zG) (zAo K (pv 7) zG) (zAo K (pv 7) zG) zE zF zF zF) zF zF)))
  (zD (zAE 15 zB2.nd (cal (zGb T) hr T.wDJ T.wCx T.wDI (zN (pv 2) (cal (zKD T) hr T.wEF T.wDF T.wEE (zN (zW zBL (pv 4) (zAk (zI (pv 6) zE zA))) (zAW K (pv 6) zG) zE zT zF)) zE zA zR)))
  (zH (zX (cal (zHY T) hr T.wEN T.wDg T.wEM (zN (zBP (pv 5) T.wAf T.wA4 ((zBS T).mono ⋯) hr T.wA3 .nil zKz (zN (zAo K (pv 7) zG) (zAW K (pv 6) zG) zE zF zF)) (zAo K (pv 15) (zAW K (pv 6) zG)) zE zR zF))))))))))))))))))),?_⟩
 refine⟨_,rfl,a,xs,52,rfl,hS,by decide,by decide,λdl dr H1 gJ s1 ed ld bd=>?_⟩;have ai:∀j:Int,0<=j->j < 52->atI (dr.map V.int) j=some (.int (dr.getD j.toNat 0)):=λj h0 h1=>zFD h0 ∅;have bi:∀j:Nat,j < 52->0<=dr.getD j 0:=λj hj=>by rw[wG4,wG0 (show j < dr.length by omega)];exact (bd _ (wHs _)).1
 have Sd:=SqL.of (K:=K) ed;have b5:=zBw (x:=dr.getD 0 0) (m:=5) (n:=5) ⋯ ⋯;obtain⟨n,hn⟩:∃n:Nat,2+dr.getD 0 0%5=(n:Int):=Int.eq_ofNat_of_zero_le ∅;refine⟨_,rfl,dl,_,0,_,rfl,rfl,Sd,ai 0 ⋯ ⋯,_,_,rfl,rfl,(by show (0:Int) < 5;decide),_,_,rfl,rfl,?_⟩;show zJr 2 (V.int (2+dr.getD 0 0%5)) _ _ _;rw[hn];have n2:2<=n:=by omega
 have n6:n<=6:=by omega
 refine⟨_,rfl,dl,_,1,_,rfl,rfl,Sd,ai 1 ⋯ ⋯,_,rfl,_,n,rfl,bi 1 ⋯,by omega,λnl H2 ns eA s2 en ln aM nd=>?_⟩;have b9:=zBw (x:=dr.getD 2 0) (m:=9) (n:=9) ⋯ ⋯;obtain⟨m,hm⟩:=Int.eq_ofNat_of_zero_le b9.1;refine⟨_,rfl,4,rfl,dl,_,rfl,s2.seq Sd,λc hc=>?_⟩;have ec:zD1 (dr.map V.int) (some 4) none=(dr.drop 4).map V.int:=by rw[show (some (4:Int))=some ((4:Nat):Int) from rfl,zRT,List.map_drop]
 show zA0 _ _ _ (upd H2 c (.lst (zD1 (dr.map V.int) (some 4) none))) _;rw[ec];have t3:=zC hc (.lst ((dr.drop 4).map V.int));refine⟨_,rfl,_,rfl,dl,_,2,_,rfl,rfl,(s2.trans t3).seq Sd,ai 2 ⋯ ⋯,_,_,rfl,rfl,(by show (0:Int) < 9;decide),c,dr.drop 4,n,m,by show [V.ref c,V.int (n:Int),V.int (dr.getD 2 0%9)]=_;rw[hm],SqL.of zB,by rw[wHP];omega,by omega,by omega,λpl H3 ws aK t4 TP ga lw=>?_⟩;subst ln;have gb:=ga.all;have s3:=s2.trans (t3.trans t4);have iN:=t4 _ _ (t3 _ _ en);refine⟨_,rfl,_,rfl,nl,pl,ns,ws,rfl,iN,TP,nd,aM,by omega,ga,by omega,λb tl H4 hb cL s4 B4=>?_⟩;have jk:nl≠tl:=zP iN cL;have ptl:pl≠tl:=let ⟨_,h,_⟩:=TP;zP h cL;have s14:=s3.trans s4;have en4:=s4 _ _ iN;have TP4:=TP.same s4;have gL:=zLq (dr.map V.int) (i:=45) (j:=50) (a:=45) (b:=50) rfl rfl (by rw[wGX];omega) ⋯;refine⟨_,rfl,45,rfl,50,rfl,dl,_,rfl,s14.seq Sd,λc2 hc2=>?_⟩;show zA0 _ _ _ (upd H4 c2 (.lst (zD1 (dr.map V.int) (some 45) (some 50)))) _;rw[gL,← List.map_drop,← List.map_take];have t5:=zC hc2 (.lst (((dr.drop 45).take (50-45)).map V.int));refine⟨_,rfl,_,rfl,c2,pl,_,ns.length,ws,rfl,SqL.of zB,by rw[wHk,wHP];omega,TP4.same t5,by omega,λp hp=>(gb.ok p hp).pt.1,λnw H5 w bV t6 fh o=>?_⟩;replace o:=o n2;have s5:=t5.trans t6;have s15:=s14.trans s5;have B5:=B4.same s5;have pK:=s5 _ _ en4;have TP5:=TP4.same s5;have Sn:=SqL.of (K:=K) pK;have Sw:=SqT.of (K:=K) fh;refine⟨_,rfl,_,rfl,nw,_,0,_,rfl,rfl,Sw,rfl,nl,_,_,_,rfl,rfl,Sn,zCu o.g.1 o.g.2,_,rfl,_,rfl,nw,_,1,_,rfl,rfl,Sw,rfl,nl,_,_,_,rfl,rfl,Sn,zCu o.u.1 o.u.2,_,rfl,nw,_,2,_,rfl,rfl,Sw,rfl,_,rfl,nw,_,3,_,rfl,rfl,Sw,rfl,_,rfl,nw,_,4,_,rfl,rfl,Sw,rfl,szl,λrow dG=>?_⟩;have t7:=zC dG (.lst (pOf ns w).vs);have er:upd H5 row (.lst (pOf ns w).vs) row=some (.lst (pOf ns w).vs):=zB;have B6:=B5.same t7;have lm:=t7 _ _ pK;have pY:=TP5.same t7;have gU:=t7 _ _ fh;have kH:=s15.trans t7;show zFu _ _ _ _ (upd H5 row (.lst (pOf ns w).vs));generalize upd H5 row (.lst (pOf ns w).vs)=H6 at B6 lm pY gU kH er ⊢;clear B5 pK TP5 Sn Sw;refine⟨_,rfl,_,rfl,_,rfl,ns.length,pl,nw,ws,w,rfl,pY,gU,gb,o,by omega,by omega,λq H7 t8 du=>?_⟩;have B7:=B6.same t8;have jW:=t8 _ _ lm;have pX:=pY.same t8;have gS:=t8 _ _ gU;have s17:=kH.trans t8;have pG:=t8 _ _ er;obtain⟨dx7,_,hb7,ht7,_⟩:=id B7;obtain⟨qs,hp,lq,hq⟩:=id pX;rw[wGX] at lq;have md:=zBw (x:=dr.getD 3 0) (m:=(ns.length:Int)) (n:=ns.length) ∅ (wH2 _);have m50:=zBw (x:=dr.getD 50 0) (m:=5001) (n:=5001) ⋯ ⋯;have ad:∀(H':Hp),zAf H7 H'->SqL K H' dl (dr.map V.int):=λH' s=>(s17.trans s).seq Sd;by_cases aH:OvD ws w
 ·
  obtain⟨y,z,ed⟩:∃y z,H7 q=some (.tup [.str "too much",y,z]):=by
   cases du with
   | over y z _ e=>exact⟨y,z,e⟩
   | shut _ _ x _ _ _=>exact absurd aH x
   | none _ _ x _ _=>exact absurd aH x
  refine⟨q,_,rfl,SqT.of ed,rfl,_,_,rfl,_,_,rfl,_,_,rfl,rfl,?_⟩;refine⟨_,rfl,rfl,_,rfl,zO7 (by nofun) ?_⟩;refine⟨_,rfl,_,rfl,_,rfl,dl,_,3,_,rfl,rfl,ad _ (zAf.refl _),ai 3 ⋯ ⋯,_,rfl,_,_,rfl,rfl,(by show (0:Int) < (ns.length:Nat);omega),nl,_,_,_,rfl,rfl,SqL.of jW,zCu md.1 md.2,_,rfl,dl,_,50,_,rfl,rfl,ad _ (zAf.refl _),ai 50 ⋯ ⋯,_,_,rfl,rfl,(by show (0:Int) < 5001;decide),szl,λc3 oG=>?_⟩;have t9:=zC oG (.lst [V.str "change",V.str (ns.getD (dr.getD 3 0%(ns.length:Int)).toNat Str.empty),V.int (dr.getD 50 0%5001)]);refine⟨_,rfl,c3,row,_,_,rfl,rfl,zB,t9 _ _ pG,szl,λrw nQ=>?_⟩;have iW:=t9.trans (zC nQ (.lst ([V.str "change",V.str (ns.getD (dr.getD 3 0%(ns.length:Int)).toNat Str.empty),V.int (dr.getD 50 0%5001)]++(pOf ns w).vs)));dsimp only [zJJ];refine zON T (s0:=(dr.getD 3 0%(ns.length:Int)).toNat) (d:=dr.getD 50 0%5001) (B7.same iW) nd aM ∅ gb ∅ o ∅ ∅ (by rw[zB];rfl) (λ_ a H8 s8 ea=>?_) (λz=>absurd aH z) (λz=>absurd aH z);have w6:zB1 6=Str.ofString "too much":=rfl;rw[w6] at ea;have hU:=iW.trans s8;have B8:=B7.same hU;obtain⟨kc,_,jR,_⟩:=id B8;refine⟨_,rfl,_,rfl,a,_,[],rfl,SqL.of ea,_,rfl,zCf ?_⟩;refine⟨_,rfl,b,kc,_,rfl,jR,rfl,b,tl,_,rfl,B8,by rw[zBW,wGX];omega,zLm aM nd gb.ok,λl2 H9 eB s9 jY=>?_⟩;refine⟨l2,_,rfl,.inl (SqL.of jY),_,rfl,_,rfl,pl,_,rfl,.inl (SqL.of (s9 _ _ (hU _ _ hp))),_,_,rfl,rfl,rfl,_,rfl,zDK (congrArg V.int ?_) ?_⟩
  ·rw[wGX,wGX,zBW,wGX,wGX,lq];omega
  refine⟨_,rfl,rfl,_,rfl,zNp (by nofun) ?_⟩;exact k _
 by_cases aO:∀d,w.2.2.2.1<=d->d<=w.2.2.2.2->zDe ns.length ws w d=[]
 rotate_left
 ·
  obtain⟨d,l,sd,ed,el⟩:∃d l,ShD ns.length ws w d/\H7 q=some (.tup [.str "shut in",.int d,.ref l])/\H7 l=some (.lst ((zDe ns.length ws w d).map V.int)):=by
   cases du with
   | over y z x e=>exact absurd x aH
   | shut d l _ sd e el=>exact⟨d,l,sd,e,el⟩
   | none _ _ _ x _=>exact absurd x aO
  refine⟨q,_,rfl,SqT.of ed,rfl,_,_,rfl,_,_,rfl,_,_,rfl,rfl,?_⟩;refine⟨_,rfl,rfl,_,rfl,zO7 (by nofun) ?_⟩;refine⟨_,rfl,_,rfl,_,rfl,dl,_,3,_,rfl,rfl,ad _ (zAf.refl _),ai 3 ⋯ ⋯,_,rfl,_,_,rfl,rfl,(by show (0:Int) < (ns.length:Nat);omega),nl,_,_,_,rfl,rfl,SqL.of jW,zCu md.1 md.2,_,rfl,dl,_,50,_,rfl,rfl,ad _ (zAf.refl _),ai 50 ⋯ ⋯,_,_,rfl,rfl,(by show (0:Int) < 5001;decide),szl,λc3 oG=>?_⟩;have t9:=zC oG (.lst [V.str "change",V.str (ns.getD (dr.getD 3 0%(ns.length:Int)).toNat Str.empty),V.int (dr.getD 50 0%5001)]);refine⟨_,rfl,c3,row,_,_,rfl,rfl,zB,t9 _ _ pG,szl,λrw nQ=>?_⟩;have iW:=t9.trans (zC nQ (.lst ([V.str "change",V.str (ns.getD (dr.getD 3 0%(ns.length:Int)).toNat Str.empty),V.int (dr.getD 50 0%5001)]++(pOf ns w).vs)));dsimp only [zJJ];refine zON T (s0:=(dr.getD 3 0%(ns.length:Int)).toNat) (d:=dr.getD 50 0%5001) (B7.same iW) nd aM ∅ gb ∅ o ∅ ∅ (by rw[zB];rfl) (λz=>absurd z aH) (λ_ d0 a m H8 sd0 s8 ea em=>?_) (λ_ z=>absurd z aO);obtain rfl:=zNP sd sd0;have hU:=iW.trans s8;have B8:=B7.same hU;obtain⟨kc,_,jR,_⟩:=id B8;refine⟨_,rfl,_,rfl,a,_,[.int d,.ref m],rfl,SqL.of ea,_,rfl,zCf ?_⟩;refine⟨_,rfl,b,kc,_,rfl,jR,rfl,b,tl,_,rfl,B8,by rw[zBW,wGX];omega,zLm aM nd gb.ok,λl2 H9 eB s9 jY=>?_⟩;refine⟨l2,_,rfl,.inl (SqL.of jY),_,rfl,_,rfl,pl,_,rfl,.inl (SqL.of (s9 _ _ (hU _ _ hp))),_,_,rfl,rfl,rfl,_,rfl,zDK (congrArg V.int ?_) ?_⟩
  ·rw[wGX,wGX,zBW,wGX,wGX,lq];omega
  refine⟨_,rfl,rfl,_,rfl,zNq rfl ?_⟩;have t19:=hU.trans s9;have el9:=t19 _ _ el;have en9:=t19 _ _ jW;have em9:=s9 _ _ em;have ea9:=s9 _ _ ea;have hL:∀x∈zDe ns.length ws w d,0<=x/\x < ns.length:=λx hx=>let ⟨h0,h1,_⟩:=zP9 hx;⟨h0,h1⟩;have lL:(zDe ns.length ws w d).length<=15:=wHe (zDG _ _) ∅;refine⟨_,rfl,l,rfl,⟨_,SqL.of el9⟩,λg hg=>?_⟩;refine zAr (K:=K) (ys:=(zDe ns.length ws w d).map V.int) (λi σ' H2=>∃v,σ'=[v,some (.ref nl)]/\H2=upd H9 g (.lst ((nmV ns (zDe ns.length ws w d)).take i))) ⟨none,rfl,rfl⟩ (λj σ2 H2 _ ⟨_,_,e⟩=>by rw[e];exact SqL.of (zC hg _ _ _ el9)) ?_ ?_
  ·rintro i x σ' H2 hx ⟨v,rfl,rfl⟩;rw[wG6] at hx;obtain⟨y,hy,rfl⟩:=wIk hx;obtain⟨y0,yn⟩:=hL y (wHA hy);have gN:atI (ns.map V.str) y=some (.str (ns.getD y.toNat Str.empty)):=zCu y0 yn;refine⟨_,rfl,_,rfl,nl,_,_,_,rfl,rfl,SqL.of (zC hg _ _ _ en9),gN,_,zB,by rw[wHk,zIh];exact zAm ∅,_,rfl,?_⟩;rw[zBx];refine congrArg (λl=>upd H9 g (.lst l)) ?_;unfold nmV;rw[wHC,wG6,hy]
   rfl
  rintro σ' fj ⟨v,rfl,eH⟩;rw[wGX,show (zDe ns.length ws w d).length=(nmV ns (zDe ns.length ws w d)).length from (zIh _ _).symm,wHo] at eH;have cI:=zC hg (.lst (nmV ns (zDe ns.length ws w d)));have eg:upd H9 g (.lst (nmV ns (zDe ns.length ws w d))) g=some (.lst (nmV ns (zDe ns.length ws w d))):=zB;rw[← eH] at cI eg;have Sa:=SqL.of (K:=K) (cI _ _ ea9);refine⟨_,rfl,a,_,2,_,rfl,rfl,Sa,rfl,_,rfl,rfl,_,rfl,?_⟩;rw[wHB rfl];refine zGx ?_;refine⟨_,rfl,a,_,3,_,rfl,rfl,Sa,rfl,_,rfl,m,g,nmV ns (zDe ns.length ws w d),rfl,cI _ _ em9,SqL.of eg,by rw[zIh];omega,λx hx=>let ⟨_,_,e⟩:=List.mem_map.mp hx;⟨_,e.symm⟩,k _⟩
 obtain⟨y,z,ed⟩:∃y z,H7 q=some (.tup [.str "",y,z]):=by
  cases du with
  | over y z x e=>exact absurd x aH
  | shut d _ _ sd _ _=>obtain⟨z1,z2,z3,_⟩:=sd;exact absurd (aO d z1 z2) z3
  | none y z _ _ e=>exact⟨y,z,e⟩
 refine⟨q,_,rfl,SqT.of ed,rfl,_,_,rfl,_,_,rfl,_,_,rfl,rfl,?_⟩;refine⟨_,rfl,rfl,_,rfl,zDK rfl ?_⟩;have Sw:=SqT.of (K:=K) gS;have osp:=o.sp;have m16:=zBw (x:=dr.getD 50 0) (m:=16) (n:=16) ⋯ ⋯;refine⟨_,rfl,nw,_,3,_,rfl,rfl,Sw,rfl,_,rfl,nw,_,4,_,rfl,rfl,Sw,rfl,_,rfl,nw,_,3,_,rfl,rfl,Sw,rfl,_,_,rfl,rfl,_,_,rfl,_,rfl,nw,_,4,_,rfl,rfl,Sw,rfl,_,_,rfl,rfl,_,_,rfl,_,rfl,dl,_,50,_,rfl,rfl,ad _ (zAf.refl _),ai 50 ⋯ ⋯,_,_,rfl,rfl,(by show (0:Int) < 16;decide),szl,λdy hdy=>?_⟩;obtain⟨ds,iJ,bds⟩:∃ds:List Int,[V.int w.2.2.2.1,V.int w.2.2.2.2,V.int (if w.2.2.2.1-1 > 0 then w.2.2.2.1-1 else 0),V.int (if w.2.2.2.2+1 < 5000 then w.2.2.2.2+1 else 5000),V.int (dr.getD 50 0%16)]=ds.map V.int/\∀d∈ds,0<=d/\d<=5000:=by
  refine⟨[w.2.2.2.1,w.2.2.2.2,if w.2.2.2.1-1 > 0 then w.2.2.2.1-1 else 0,if w.2.2.2.2+1 < 5000 then w.2.2.2.2+1 else 5000,dr.getD 50 0%16],rfl,λd hd=>?_⟩;simp only[wHN,wHE,or_false] at hd;rcases hd with rfl | rfl | rfl | rfl | rfl
  ·omega
  ·omega
  ·split<;>omega
  ·split<;>omega
  omega
 show zFu _ _ _ _ (upd H7 dy (.lst [V.int w.2.2.2.1,V.int w.2.2.2.2,V.int (if w.2.2.2.1-1 > 0 then w.2.2.2.1-1 else 0),V.int (if w.2.2.2.2+1 < 5000 then w.2.2.2.2+1 else 5000),V.int (dr.getD 50 0%16)]));rw[iJ];have kD:=zC hdy (.lst (ds.map V.int));have edy:upd H7 dy (.lst (ds.map V.int)) dy=some (.lst (ds.map V.int)):=zB;generalize upd H7 dy (.lst (ds.map V.int))=H8 at kD edy ⊢;refine⟨_,rfl,_,rfl,dl,_,51,_,rfl,rfl,ad _ kD,ai 51 ⋯ ⋯,_,_,rfl,rfl,(by show (0:Int) < 3;decide),_,rfl,_,rfl,dl,_,51,_,rfl,rfl,ad _ kD,ai 51 ⋯ ⋯,_,_,rfl,rfl,(by show (0:Int) < 3;decide),_,_,rfl,rfl,_,rfl,dy,_,rfl,SqL.of edy,λcd aQ=>?_⟩;obtain⟨cv,oC⟩:∃cv,zD1 (ds.map V.int) (some (dr.getD 51 0%3)) (some (dr.getD 51 0%3+3))=cv:=⟨_,rfl⟩;have mcv:∀x∈cv,∃d,x=.int d/\0<=d/\d<=5000:=λx hx=>by rw[← oC] at hx;obtain⟨d,hd,e⟩:=List.mem_map.mp (zMI hx);exact⟨d,e.symm,bds d hd⟩
 have t9:=zC aQ (.lst cv);have pL:upd H8 cd (.lst cv) cd=some (.lst cv):=zB;have kE:=kD.trans t9;refine⟨cd,rfl,⟨_,SqL.of (by show upd H8 cd (.lst (zD1 (ds.map V.int) (some (dr.getD 51 0%3)) (some (dr.getD 51 0%3+3)))) cd=_;rw[oC];exact pL)⟩,?_⟩;show ∃W:Nat->Nat->St->Hp->Prop,(∃m,W 0 m _ (upd H8 cd (.lst (zD1 (ds.map V.int) (some (dr.getD 51 0%3)) (some (dr.getD 51 0%3+3))))))/\_;rw[oC];generalize upd H8 cd (.lst cv)=H9 at t9 pL kE ⊢;have B9:=B7.same kE;refine zAy (K:=K) (a:=cd) (xs:=cv) (λi σ' H'=>∃mO,σ'=[some (.ref a),some (.ref dl),some (.int (ns.length:Nat)),some (.ref nl),some (.ref pl),some (.ref b),some (.ref nw),some (.ref row),some (.str ""),some y,some z,none,none,some (.ref dy),mO,none]/\zAf H9 H') ⟨none,rfl,zAf.refl _⟩ (λi σ' H' _ ⟨_,_,s⟩=>SqL.of (s _ _ pL)) ?_ ?_
 ·rintro i x σ' H' hx ⟨mO,rfl,s9⟩;obtain⟨d,rfl,dd⟩:=mcv x (wHA hx);have kG:=kE.trans s9;exact⟨_,rfl,_,rfl,_,rfl,_,rfl,_,rfl,b,tl,nl,pl,nw,ns,ws,w,d,rfl,B7.same kG,kG _ _ jW,pX.same kG,kG _ _ gS,nd,aM,by omega,by omega,gb,o,aH,aO,by omega,dd,λH'' s'=>⟨_,rfl,zCf ⟨_,rfl,s9.trans s'⟩⟩⟩
 rintro σ' fj ⟨mO,rfl,s9⟩;have bZ:=kE.trans s9;have g2:=zIG gb o aH aO;have qo:=B7.same bZ;have jX:=bZ _ _ jW;have fL:=bZ _ _ gS;have jA:=bZ _ _ hp;have jU:=bZ _ _ pG;have qh:=pX.same bZ;obtain⟨dx10,_,hb10,nM,_⟩:=id qo;refine⟨_,rfl,pl,rfl,⟨_,SqL.of jA⟩,λc hc=>?_⟩;refine zAr (K:=K) (ys:=qs.map V.ref) (λi σ' H'=>∃(v0 v1 v2 v3 v4:Option V),σ'=[v0,v1,v2,v3,v4,some (.ref nl)]/\zAf fj H'/\zAe H' c (((ws.take i).map (pOf ns)).map Pct.vs)) ⟨none,none,none,none,none,rfl,zC hc _,zAe.nil zB⟩ (λi σ' H' _ ⟨_,_,_,_,_,_,s,_⟩=>SqL.of (s _ _ jA)) ?_ ?_
 ·rintro i x σ' H' hx ⟨v0,v1,v2,v3,v4,rfl,dW,T11⟩;rw[wG6] at hx;obtain⟨q1,hq1,rfl⟩:=wIk hx;have aC:i < ws.length:=by rw[← lq];exact (wIi hq1).1
  have aY:ws[i]?=some ws[i]:=wG0 aC;have e1:=dW _ _ (bZ _ _ (hq i q1 _ hq1 (by rw[wG6,aY];rfl)));have o1:=gb.ok ws[i] (wHs aC);have Sn:=SqL.of (K:=K) (dW _ _ jX);obtain⟨qt,g1,oR,g3⟩:=id T11;rw[wGX,wGX] at oR;refine⟨q1,_,rfl,SqT.of e1,rfl,_,_,rfl,_,_,rfl,_,_,rfl,_,_,rfl,_,_,rfl,rfl,?_⟩;refine⟨_,rfl,_,rfl,nl,_,_,_,rfl,rfl,Sn,zCu o1.g.1 o1.g.2,_,rfl,_,rfl,nl,_,_,_,rfl,rfl,Sn,zCu o1.u.1 o1.u.2,_,rfl,_,rfl,_,rfl,szl,λp dJ=>?_⟩;have aR:=zC dJ (.tup (pOf ns ws[i]).vs);have l1:(qt.map V.ref).length < sizeLine:=by rw[wGX,oR,wHk];exact zAm ∅
  refine⟨_,aR _ _ g1,l1,_,_,_,_,_,rfl,zY (dW.trans aR) hc _,?_⟩;have:=zAe.snoc (p:=p) (ys:=(pOf ns ws[i]).vs) (aR _ _ g1) (by rw[wGX,wGX];exact oR) (λi a ys e1 e2=>aR _ _ (g3 i a ys e1 e2)) zB;rw[wHC,aY,wG9,wG9];exact this
 rintro σ' H11 ⟨v0,v1,v2,v3,v4,rfl,dW,T11⟩;rw[wGX,lq,wHo] at T11;have B11:=qo.same dW;obtain⟨pR,_,oK,_⟩:=id B11;have cX:=zCE ns (ws.map (pOf ns));have bS:=zCD ns (ws.map (pOf ns));refine⟨_,rfl,b,pR,_,rfl,oK,rfl,b,tl,_,rfl,B11,by rw[zBW,wGX];omega,λl12 H12 hl12 aR T12=>?_⟩;rw[bS] at T12;refine⟨_,rfl,l12,c,_,rfl,T12,T11.same aR,by rw[wGX,wGX];omega,λys hys=>?_,_,rfl,zCf ?_⟩
 ·obtain⟨p,hp,rfl⟩:=List.mem_map.mp hys;refine⟨by show 5<=900;decide,λy hy=>?_⟩;have:y∈[V.str p.1,V.str p.2.1,V.int p.2.2.1,V.int p.2.2.2.1,V.int p.2.2.2.2]:=hy;simp only[wHN,wHE,or_false] at this;rcases this with rfl | rfl | rfl | rfl | rfl
  ·exact .inr ⟨_,rfl⟩
  ·exact .inr ⟨_,rfl⟩
  ·exact .inl ⟨_,rfl⟩
  ·exact .inl ⟨_,rfl⟩
  exact .inl ⟨_,rfl⟩
 have bB:=dW.trans aR;have B12:=qo.same bB;have dR:=SqL.of (K:=K) (bB _ _ jU);obtain⟨pQ,_,oJ,nL,_⟩:=id B12;have nw2:=g2.new nd;have tn:=tN nd o;have pk:=zCB nd (ws:=[w]) λp hp=>by rw[wIj hp];exact o
 have inn:=pk.inn (pOf ns w) (by simp);have jl:=g2.noshut nd;rw[← zAI] at jl;refine⟨_,rfl,b,pQ,_,rfl,oJ,rfl,_,rfl,row,_,0,_,rfl,rfl,dR,rfl,_,rfl,row,_,1,_,rfl,rfl,dR,rfl,_,rfl,row,_,2,_,rfl,rfl,dR,rfl,_,rfl,row,_,3,_,rfl,rfl,dR,rfl,_,rfl,row,_,4,_,rfl,rfl,dR,rfl,?_⟩;refine⟨b,tl,_,_,_,_,_,_,rfl,B12,by rw[zBW,wGX];omega,by rw[cX];omega,by rw[bS,wGX];omega,(aM _ inn.1).sane,(aM _ inn.2).sane,?_⟩;rw[cX,bS];refine⟨λ_=>nw2.1,λH' j e _=>?_,λd0 H' dx _ fs _ _=>absurd (jl d0 fs.1 fs.2.1) fs.2.2.1,λH' _ _ c8 _=>by rw[wGX] at c8;omega,λgZ _ _ _ kK qm=>?_⟩
 ·have sw:zJz ns (ws.map (pOf ns)) (pOf ns w).1 (pOf ns w).2.1 w.2.2.1 w.2.2.2.1 w.2.2.2.2=none:=zGB tn nw2.2;exact absurd (e.symm.trans sw) (λz=>nomatch z)
 replace qm:zAD gZ t.wAd b tl (bkP ns (ws.map (pOf ns))++[.pact (pOf ns w).1 (pOf ns w).2.1 w.2.2.1 w.2.2.2.1 w.2.2.2.2]):=qm;have wtl:nw≠tl:=zBG fL nM (by intro z;cases z);have rtl:row≠tl:=λz=>by obtain⟨_,qs5,_,ht5,_⟩:=id B4;have:=t6 _ _ (t5 _ _ ht5);rw[z,this] at dG;cases dG
 have en13:=kK _ _ jk (bB _ _ jX);have pZ:=(qh.same bB).keep kK ptl ⟨_,nL⟩;have dQ:=kK _ _ wtl (bB _ _ fL);have pI:=kK _ _ rtl (bB _ _ jU);obtain⟨fY,hp3,lq3,kO⟩:=id pZ;rw[wGX] at lq3;have l2:(ws++[w]).length=ws.length+1:=by rw[wG7];rfl
 have nv:∀p∈ws++[w],0<=p.1/\0<=p.2.1:=λp hp=>⟨(g2.ok p hp).g.1,(g2.ok p hp).u.1⟩;have dS:=(g2.wy nd w.2.2.2.1).1;have fz:=(g2.wy nd w.2.2.2.1).2;rw[zAM nd g2.ok] at dS fz;refine⟨_,rfl,_,rfl,_,rfl,szl,λc5 hc5=>?_⟩;have sc:=zC hc5 (.lst [V.ref nw]);refine⟨pl,c5,_,_,rfl,rfl,sc _ _ hp3,zB,by rw[wGX];exact small (by show _+1<=_;omega),λp2 aV=>?_⟩;have cT:=sc.trans (zC aV (.lst (fY.map V.ref++[V.ref nw])));have TN:zAe (upd (upd gZ c5 (.lst [V.ref nw])) p2 (.lst (fY.map V.ref++[V.ref nw]))) p2 ((ws++[w]).map W5.vs):=zDh (cT _ _ hp3) lq3 (λi a ys e1 e2=>cT _ _ (kO i a ys e1 e2)) (cT _ _ dQ) zB;show zA0 _ _ _ (upd (upd gZ c5 (.lst [V.ref nw])) p2 (.lst (fY.map V.ref++[V.ref nw]))) _;generalize upd (upd gZ c5 (.lst [V.ref nw])) p2 (.lst (fY.map V.ref++[V.ref nw]))=H14 at TN cT ⊢;refine⟨_,rfl,nw,_,3,_,rfl,rfl,SqT.of (cT _ _ dQ),rfl,p2,ws++[w],w.2.2.2.1,rfl,TN,by omega,nv,λr2 H15 hr2 mX T15=>?_⟩;obtain⟨mY,mM⟩:=zEp (K:=K) T15;refine⟨ns.length,r2,mY,_,rfl,mM,dS,fz,by omega,by omega,by have:=zFH (ws++[w]) w.2.2.2.1;omega,λml H16 eL q2 cx2 cy2 u2 v2 fE mW mS kh ng fQ=>?_⟩;have dC:=(cT.trans mX).trans mW;have qk:=qm.same dC;obtain⟨pP,_,oI,_⟩:=id qk;have pH:=dC _ _ pI;have fK:=dC _ _ dQ;have bD:w.1.toNat < ns.length:=by have:=o.g;omega
 have ix:=zDX nd bD;have eb:bkP ns (ws.map (pOf ns))++[.pact (pOf ns w).1 (pOf ns w).2.1 w.2.2.1 w.2.2.2.1 w.2.2.2.2]=bkP ns ((ws++[w]).map (pOf ns)):=by rw[← zAI,zIM];rfl
 rw[eb] at qk;have iO:=zCE ns ((ws++[w]).map (pOf ns));have ff:=zCD ns ((ws++[w]).map (pOf ns));refine⟨_,rfl,b,pP,_,rfl,oI,rfl,_,rfl,row,_,0,_,rfl,rfl,SqL.of pH,rfl,_,rfl,nw,_,3,_,rfl,rfl,SqT.of fK,rfl,?_⟩;refine⟨b,tl,_,(pOf ns w).1,w.2.2.2.1,rfl,qk,by rw[zBW,wGX];omega,(aM _ inn.1).sane,by rw[iO];omega,by rw[iO,ff];exact zCB nd g2.ok,by rw[ff,wGX];omega,?_⟩;rw[iO,ff,zAM nd g2.ok];refine⟨λz=>absurd inn.1 z,λ_ z=>absurd ⟨osp.1,by omega⟩ z,λ_ _=>⟨dS,fz,λf qf U W H17 hf jc fu sh=>?_⟩⟩;have sh':zMT ns.length (wyL (ws++[w]) w.2.2.2.1) w.1.toNat U W:=by have e:ns.idxOf (pOf ns w).1=w.1.toNat:=ix;rw[← e];exact sh
 have e2:=zGr dS bD sh' kh ng fQ;obtain⟨X1,Y1,fo1,cE,jq,jV⟩:=id sh';have iT:=mS.same jc;have fr:=iT.row w.1.toNat bD;have jT:FrAt H17 (eL w.1.toNat) (q2 w.1.toNat) ns.length U W:=⟨fr.top,λi hi=>by rw[← (e2 i hi).1,← (e2 i hi).2];exact fr.row i hi⟩;have at0:atI (tab ns.length λk=>V.ref (eL k)) w.1=some (V.ref (eL w.1.toNat)):=zHz o.g.1 o.g.2;refine⟨_,rfl,_,rfl,nw,_,0,_,rfl,rfl,SqT.of (jc _ _ fK),rfl,ml,_,_,_,rfl,rfl,SqL.of iT.top,at0,?_⟩;exact⟨f,eL w.1.toNat,qf,q2 w.1.toNat,ns.length,U,W,rfl,fu,λi hi=>⟨cE.pos i hi,cE.one i hi⟩,jT,by omega,k _⟩
end
@[elab_as_elim] theorem bnd1 {A:Type} {P:List A->Prop} (us:List A) (hl:us.length=1) (H:∀a0,P [a0]):P us:=by
 match us,hl with
 | [a0],_=>exact H a0
def bd1 {K:W.Frag} {x qual:Str} {st:Stmt} {f:Addr} {fd:FuncData} {ps:List Str} (F:L2.Fun K x qual st f fd) (h:∀(kV doc pm:Value) (an:Option Addr) (cdv ct a0:Value),bindArgs (W.fnOf x qual (zBV st) (zBf st) (zM st) .none kV doc pm an cdv ct) ⟨[a0],[]⟩=pure (ps.zip [a0])) (hp:ps.length=1:=by rfl):L2.zAg K fd ps []:=
 F.binds λkV doc pm an cdv ct us hl=>bnd1 us (hl.trans hp) (h kV doc pm an cdv ct)
@[elab_as_elim] theorem bnd2 {A:Type} {P:List A->Prop} (us:List A) (hl:us.length=2) (H:∀a0 a1,P [a0,a1]):P us:=by
 match us,hl with
 | [a0,a1],_=>exact H a0 a1
def bd2 {K:W.Frag} {x qual:Str} {st:Stmt} {f:Addr} {fd:FuncData} {ps:List Str} (F:L2.Fun K x qual st f fd) (h:∀(kV doc pm:Value) (an:Option Addr) (cdv ct a0 a1:Value),bindArgs (W.fnOf x qual (zBV st) (zBf st) (zM st) .none kV doc pm an cdv ct) ⟨[a0,a1],[]⟩=pure (ps.zip [a0,a1])) (hp:ps.length=2:=by rfl):L2.zAg K fd ps []:=
 F.binds λkV doc pm an cdv ct us hl=>bnd2 us (hl.trans hp) (h kV doc pm an cdv ct)
@[elab_as_elim] theorem bnd3 {A:Type} {P:List A->Prop} (us:List A) (hl:us.length=3) (H:∀a0 a1 a2,P [a0,a1,a2]):P us:=by
 match us,hl with
 | [a0,a1,a2],_=>exact H a0 a1 a2
def bd3 {K:W.Frag} {x qual:Str} {st:Stmt} {f:Addr} {fd:FuncData} {ps:List Str} (F:L2.Fun K x qual st f fd) (h:∀(kV doc pm:Value) (an:Option Addr) (cdv ct a0 a1 a2:Value),bindArgs (W.fnOf x qual (zBV st) (zBf st) (zM st) .none kV doc pm an cdv ct) ⟨[a0,a1,a2],[]⟩=pure (ps.zip [a0,a1,a2])) (hp:ps.length=3:=by rfl):L2.zAg K fd ps []:=
 F.binds λkV doc pm an cdv ct us hl=>bnd3 us (hl.trans hp) (h kV doc pm an cdv ct)
@[elab_as_elim] theorem bnd5 {A:Type} {P:List A->Prop} (us:List A) (hl:us.length=5) (H:∀a0 a1 a2 a3 a4,P [a0,a1,a2,a3,a4]):P us:=by
 match us,hl with
 | [a0,a1,a2,a3,a4],_=>exact H a0 a1 a2 a3 a4
def bd5 {K:W.Frag} {x qual:Str} {st:Stmt} {f:Addr} {fd:FuncData} {ps:List Str} (F:L2.Fun K x qual st f fd) (h:∀(kV doc pm:Value) (an:Option Addr) (cdv ct a0 a1 a2 a3 a4:Value),bindArgs (W.fnOf x qual (zBV st) (zBf st) (zM st) .none kV doc pm an cdv ct) ⟨[a0,a1,a2,a3,a4],[]⟩=pure (ps.zip [a0,a1,a2,a3,a4])) (hp:ps.length=5:=by rfl):L2.zAg K fd ps []:=
 F.binds λkV doc pm an cdv ct us hl=>bnd5 us (hl.trans hp) (h kV doc pm an cdv ct)
@[elab_as_elim] theorem bnd6 {A:Type} {P:List A->Prop} (us:List A) (hl:us.length=6) (H:∀a0 a1 a2 a3 a4 a5,P [a0,a1,a2,a3,a4,a5]):P us:=by
 match us,hl with
 | [a0,a1,a2,a3,a4,a5],_=>exact H a0 a1 a2 a3 a4 a5
def bd6 {K:W.Frag} {x qual:Str} {st:Stmt} {f:Addr} {fd:FuncData} {ps:List Str} (F:L2.Fun K x qual st f fd) (h:∀(kV doc pm:Value) (an:Option Addr) (cdv ct a0 a1 a2 a3 a4 a5:Value),bindArgs (W.fnOf x qual (zBV st) (zBf st) (zM st) .none kV doc pm an cdv ct) ⟨[a0,a1,a2,a3,a4,a5],[]⟩=pure (ps.zip [a0,a1,a2,a3,a4,a5])) (hp:ps.length=6:=by rfl):L2.zAg K fd ps []:=
 F.binds λkV doc pm an cdv ct us hl=>bnd6 us (hl.trans hp) (h kV doc pm an cdv ct)
@[elab_as_elim] theorem bnd8 {A:Type} {P:List A->Prop} (us:List A) (hl:us.length=8) (H:∀a0 a1 a2 a3 a4 a5 a6 a7,P [a0,a1,a2,a3,a4,a5,a6,a7]):P us:=by
 match us,hl with
 | [a0,a1,a2,a3,a4,a5,a6,a7],_=>exact H a0 a1 a2 a3 a4 a5 a6 a7
def bd8 {K:W.Frag} {x qual:Str} {st:Stmt} {f:Addr} {fd:FuncData} {ps:List Str} (F:L2.Fun K x qual st f fd) (h:∀(kV doc pm:Value) (an:Option Addr) (cdv ct a0 a1 a2 a3 a4 a5 a6 a7:Value),bindArgs (W.fnOf x qual (zBV st) (zBf st) (zM st) .none kV doc pm an cdv ct) ⟨[a0,a1,a2,a3,a4,a5,a6,a7],[]⟩=pure (ps.zip [a0,a1,a2,a3,a4,a5,a6,a7])) (hp:ps.length=8:=by rfl):L2.zAg K fd ps []:=
 F.binds λkV doc pm an cdv ct us hl=>bnd8 us (hl.trans hp) (h kV doc pm an cdv ct)
def zQq {l:PySem.W.OpenLaw} {w:World} {K:W.Frag} {h:Heap} {mg:Str->Option Value} {fa f1 f2 f3 f4 f5 f6 f7 f8 f9 f10 f11 f12 f13 f14 f15 f16 f17 f18 f19 pE f21 f22 f23 f24 f25 f26 pC pB pA pj ph pf oZ oY oX oW f37 f38 f39 f40 f41 f42 f43 f44 f45 f46 f47 f48 f49 f50 f51 f52 f53 f54 f55 f56 f57 f58 f59 f60 f61 f62 f63 f64 f65 C0 C1 C2 C3 C4 C5 C6 C7 C8 C9 mL mK bK:Addr} (X:K.In h) (G:h.Ns mainGlobals mg) (hfa:mg "law"=some (.ref fa)) (ht:l.prog.given.tree=none)
  {tk0 hJ fQ mR tk4 tk5:Tok}
  (aa:W.nsIn K mainGlobals "CedeError"=some (some (.ref C0)))
  (ab:W.nsIn K mainGlobals "BadName"=some (some (.ref C1)))
  (ac:W.nsIn K mainGlobals "KnownHouse"=some (some (.ref C2)))
  (ad:W.nsIn K mainGlobals "UnknownHouse"=some (some (.ref C3)))
  (ae:W.nsIn K mainGlobals "ToItself"=some (some (.ref C4)))
  (af:W.nsIn K mainGlobals "DaysTurned"=some (some (.ref C5)))
  (ag:W.nsIn K mainGlobals "OutOfRange"=some (some (.ref C6)))
  (ah:W.nsIn K mainGlobals "TooMuch"=some (some (.ref C7)))
  (ai:W.nsIn K mainGlobals "ShutIn"=some (some (.ref C8)))
  (aj:W.nsIn K mainGlobals "Full"=some (some (.ref C9)))
  (ak:W.nsIn K mainGlobals "NothingDone"=some (some (.ref mL)))
  (al:W.nsIn K mainGlobals "Unclear"=some (some (.ref mK)))
  (am:W.nsIn K mainGlobals "Book"=some (some (.ref bK)))
  (an:W.findIn K (.ref C8) "__init__"=some (some (.ref f1)))
  (ao:W.isFn K (.ref f1)=true)
  (F1:∃fd,Fun K "__init__" "ShutIn.__init__" zB9 f1 fd)
  (aq:W.nsIn K mainGlobals "turning_days"=some (some (.ref f2)))
  (F2:∃fd,zAu K "turning_days" zBO f2 fd)
  (au:W.nsIn K mainGlobals "holding"=some (some (.ref f3)))
  (F3:∃fd,zAu K "holding" zE8 f3 fd)
  (aw:W.nsIn K mainGlobals "stretches"=some (some (.ref f4)))
  (F4:∃fd,zAu K "stretches" zCU f4 fd)
  (ay:W.nsIn K mainGlobals "check_name"=some (some (.ref f5)))
  (F5:∃fd,zAu K "check_name" zC3 f5 fd)
  (a0:W.nsIn K mainGlobals "check_range"=some (some (.ref f6)))
  (F6:∃fd,zAu K "check_range" zCm f6 fd)
  (a2:W.nsIn K mainGlobals "check_day"=some (some (.ref f7)))
  (F7:∃fd,zAu K "check_day" zCY f7 fd)
  (a4:W.nsIn K mainGlobals "place_of"=some (some (.ref f8)))
  (F8:∃fd,zAu K "place_of" zD9 f8 fd)
  (a6:W.nsIn K mainGlobals "greatest_divisor"=some (some (.ref f9)))
  (F9:∃fd,zAu K "greatest_divisor" zBp f9 fd)
  (a8:W.nsIn K mainGlobals "lowest"=some (some (.ref f10)))
  (mJ:∃fd,zAu K "lowest" zFT f10 fd)
  (ba:W.nsIn K mainGlobals "minus"=some (some (.ref f11)))
  (mI:∃fd,zAu K "minus" zHN f11 fd)
  (bc:W.nsIn K mainGlobals "times"=some (some (.ref f12)))
  (mH:∃fd,zAu K "times" zHK f12 fd)
  (be:W.nsIn K mainGlobals "kept"=some (some (.ref f13)))
  (mG:∃fd,zAu K "kept" zKb f13 fd)
  (bg:W.nsIn K mainGlobals "spread"=some (some (.ref f14)))
  (mF:∃fd,zAu K "spread" zFR f14 fd)
  (bi:W.nsIn K mainGlobals "shut_in"=some (some (.ref f15)))
  (mE:∃fd,zAu K "shut_in" zE5 f15 fd)
  (bk:W.nsIn K mainGlobals "loss_rows"=some (some (.ref f16)))
  (mD:∃fd,zAu K "loss_rows" zCV f16 fd)
  (bm:W.nsIn K mainGlobals "cut_down"=some (some (.ref f17)))
  (mC:∃fd,zAu K "cut_down" zDC f17 fd)
  (bo:W.nsIn K mainGlobals "strike_out"=some (some (.ref f18)))
  (mB:∃fd,zAu K "strike_out" zC2 f18 fd)
  (bq:W.nsIn K mainGlobals "arrivals"=some (some (.ref f19)))
  (m8:∃fd,zAu K "arrivals" zDD f19 fd)
  (bs:W.nsIn K mainGlobals "shares"=some (some (.ref pE)))
  (m7:∃fd,zAu K "shares" zFS pE fd)
  (bu:W.nsIn K mainGlobals "ways_of"=some (some (.ref f21)))
  (m6:∃fd,zAu K "ways_of" zE4 f21 fd)
  (bw:W.nsIn K mainGlobals "ways_on"=some (some (.ref f22)))
  (mz:∃fd,zAu K "ways_on" zE3 f22 fd)
  (bz:W.nsIn K mainGlobals "looks"=some (some (.ref f23)))
  (my:∃fd,zAu K "looks" zHO f23 fd)
  (b1:W.nsIn K mainGlobals "check_terms"=some (some (.ref f24)))
  (mw:∃fd,zAu K "check_terms" zCl f24 fd)
  (b3:W.nsIn K mainGlobals "whom_shut"=some (some (.ref f25)))
  (mr:∃fd,zAu K "whom_shut" zCT f25 fd)
  (b5:W.nsIn K mainGlobals "deed_row"=some (some (.ref f26)))
  (mq:∃fd,zAu K "deed_row" zDB f26 fd)
  (b7:W.findIn K (.ref bK) "__init__"=some (some (.ref pC)))
  (b8:W.isFn K (.ref pC)=true)
  (k8:∃fd,Fun K "__init__" "Book.__init__" zCq pC fd)
  (ca:W.findIn K (.ref bK) "houses"=some (some (.ref pB)))
  (cb:W.isFn K (.ref pB)=true)
  (k7:∃fd,Fun K "houses" "Book.houses" zCo pB fd)
  (cd:W.findIn K (.ref bK) "pacts"=some (some (.ref pA)))
  (ce:W.isFn K (.ref pA)=true)
  (ky:∃fd,Fun K "pacts" "Book.pacts" zC4 pA fd)
  (cg:W.findIn K (.ref bK) "deeds"=some (some (.ref pj)))
  (ch:W.isFn K (.ref pj)=true)
  (kv:∃fd,Fun K "deeds" "Book.deeds" zC6 pj fd)
  (cj:W.findIn K (.ref bK) "house"=some (some (.ref ph)))
  (ck:W.isFn K (.ref ph)=true)
  (ku:∃fd,Fun K "house" "Book.house" zC5 ph fd)
  (cm:W.findIn K (.ref bK) "pact"=some (some (.ref pf)))
  (cn:W.isFn K (.ref pf)=true)
  (kr:∃fd,Fun K "pact" "Book.pact" zDa pf fd)
  (cp:W.findIn K (.ref bK) "check_new"=some (some (.ref oZ)))
  (cq:W.isFn K (.ref oZ)=true)
  (kq:∃fd,Fun K "check_new" "Book.check_new" zB4 oZ fd)
  (cs:W.findIn K (.ref bK) "ways"=some (some (.ref oY)))
  (ct:W.isFn K (.ref oY)=true)
  (kn:∃fd,Fun K "ways" "Book.ways" zCZ oY fd)
  (cv:W.findIn K (.ref bK) "shares"=some (some (.ref oX)))
  (cw:W.isFn K (.ref oX)=true)
  (km:∃fd,Fun K "shares" "Book.shares" zCn oX fd)
  (cy:W.findIn K (.ref bK) "change"=some (some (.ref oW)))
  (cz:W.isFn K (.ref oW)=true)
  (kj:∃fd,Fun K "change" "Book.change" zCp oW fd)
  (c1:W.nsIn K mainGlobals "_law_at"=some (some (.ref f37)))
  (mj:∃fd,zAu K "_law_at" zQJ f37 fd)
  (c3:W.nsIn K mainGlobals "_law_draws"=some (some (.ref f38)))
  (mi:∃fd,zAu K "_law_draws" zHP f38 fd)
  (c5:W.nsIn K mainGlobals "_law_names"=some (some (.ref f39)))
  (mh:∃fd,zAu K "_law_names" zE7 f39 fd)
  (c7:W.nsIn K mainGlobals "_law_pact"=some (some (.ref f40)))
  (mf:∃fd,zAu K "_law_pact" zJX f40 fd)
  (c9:W.nsIn K mainGlobals "_law_on"=some (some (.ref f41)))
  (ma:∃fd,zAu K "_law_on" zQI f41 fd)
  (db:W.nsIn K mainGlobals "_law_left"=some (some (.ref f42)))
  (lZ:∃fd,zAu K "_law_left" zKa f42 fd)
  (dd:W.nsIn K mainGlobals "_law_closed"=some (some (.ref f43)))
  (lY:∃fd,zAu K "_law_closed" zFV f43 fd)
  (df:W.nsIn K mainGlobals "_law_due"=some (some (.ref f44)))
  (lX:∃fd,zAu K "_law_due" zOa f44 fd)
  (dh:W.nsIn K mainGlobals "_law_built"=some (some (.ref f45)))
  (lW:∃fd,zAu K "_law_built" zHQ f45 fd)
  (dj:W.nsIn K mainGlobals "_law_book"=some (some (.ref f46)))
  (lV:∃fd,zAu K "_law_book" zKd f46 fd)
  (dl:W.nsIn K mainGlobals "_law_word"=some (some (.ref f47)))
  (lU:∃fd,zAu K "_law_word" zJV f47 fd)
  (dn:W.nsIn K mainGlobals "_law_call"=some (some (.ref f48)))
  (lT:∃fd,zAu K "_law_call" zKc f48 fd)
  (dq:W.nsIn K mainGlobals "_law_ask"=some (some (.ref f49)))
  (lS:∃fd,zAu K "_law_ask" zOb f49 fd)
  (ds:W.nsIn K mainGlobals "_law_refused"=some (some (.ref f50)))
  (lR:∃fd,zAu K "_law_refused" zE6 f50 fd)
  (du:W.nsIn K mainGlobals "_law_gcd"=some (some (.ref f51)))
  (lQ:∃fd,zAu K "_law_gcd" zNZ f51 fd)
  (dw:W.nsIn K mainGlobals "_law_made"=some (some (.ref f52)))
  (lP:∃fd,zAu K "_law_made" zJZ f52 fd)
  (dy:W.nsIn K mainGlobals "_law_sum"=some (some (.ref f53)))
  (lO:∃fd,zAu K "_law_sum" zNX f53 fd)
  (d0:W.nsIn K mainGlobals "_law_more"=some (some (.ref f54)))
  (lN:∃fd,zAu K "_law_more" zJY f54 fd)
  (d2:W.nsIn K mainGlobals "_law_struck"=some (some (.ref f55)))
  (lM:∃fd,zAu K "_law_struck" zFQ f55 fd)
  (d4:W.nsIn K mainGlobals "_law_whole"=some (some (.ref f56)))
  (lK:∃fd,zAu K "_law_whole" zHJ f56 fd)
  (d6:W.nsIn K mainGlobals "_law_fraction"=some (some (.ref f57)))
  (lJ:∃fd,zAu K "_law_fraction" zDA f57 fd)
  (d8:W.nsIn K mainGlobals "_law_fractions"=some (some (.ref f58)))
  (lI:∃fd,zAu K "_law_fractions" zCW f58 fd)
  (ea:W.nsIn K mainGlobals "_law_same"=some (some (.ref f59)))
  (lH:∃fd,zAu K "_law_same" zJW f59 fd)
  (ec:W.nsIn K mainGlobals "_law_tuples"=some (some (.ref f60)))
  (lG:∃fd,zAu K "_law_tuples" zFP f60 fd)
  (ee:W.nsIn K mainGlobals "_law_texts"=some (some (.ref f61)))
  (lF:∃fd,zAu K "_law_texts" zHL f61 fd)
  (eg:W.nsIn K mainGlobals "_law_table"=some (some (.ref f62)))
  (lE:∃fd,zAu K "_law_table" zHM f62 fd)
  (ei:W.nsIn K mainGlobals "_law_less"=some (some (.ref f63)))
  (lD:∃fd,zAu K "_law_less" zFU f63 fd)
  (ek:W.nsIn K mainGlobals "_law_day_right"=some (some (.ref f64)))
  (lC:∃fd,zAu K "_law_day_right" zCX f64 fd)
  (em:W.nsIn K mainGlobals "law"=some (some (.ref f65)))
  (ki:∃fd,zAu K "law" zNY f65 fd)
  (eo:W.plainGet K bK Str.empty=true)
  (ep:W.hasDictIn K bK=true)
  (eq:W.plainOver K bK=true)
  (er:W.findIn K (.ref bK) "__setattr__"=some (some (.builtin "object.__setattr__")))
  (es:W.makesIn K bK=true)
  (et:W.keepIn K (.ref bK)=true)
  (eu:W.findIn K (.ref bK) "told"=some none)
  (ev:zFo K C8 vEr "ValueError.__new__"=true)
  (ew:W.mroIn K C8 (.ref C8)=some true)
  (ex:zQ3 K C8=true)
  (ey:W.hasDictIn K C8=true)
  (ez:W.findIn K (.ref C8) "__setattr__"=some (some (.builtin "object.__setattr__")))
  (e0:W.findIn K (.ref C8) "day"=some none)
  (e1:W.findIn K (.ref C8) "names"=some none)
  (e2:W.specialIn K (.ref C0) "__getattribute__"=some (some (.builtin "type.__getattribute__")))
  (e3:W.readsIn K C0 (.type "type")=true)
  (e4:W.findCls K (.ref C0) (.type "type") "__init__"=some (.val (.builtin "ValueError.__init__")))
  (e5:W.specialIn K (.builtin "object.__class__") "__get__"=some (some (.builtin "getset_descriptor.__get__")))
  (e6:W.takesIn K (.builtin "object.__class__")=some true)
  (e7:W.excIn K C1 vEr "ValueError.__new__"=true)
  (e8:W.excIn K C2 vEr "ValueError.__new__"=true)
  (e9:W.excIn K C9 vEr "ValueError.__new__"=true)
  (ga:W.excIn K C3 vEr "ValueError.__new__"=true)
  (gb:W.excIn K C6 vEr "ValueError.__new__"=true)
  (gc:W.excIn K C4 vEr "ValueError.__new__"=true)
  (gd:W.excIn K C5 vEr "ValueError.__new__"=true)
  (ge:W.excIn K C7 vEr "ValueError.__new__"=true)
  (gf:W.findIn K (.ref C7) "__getattribute__"=some (some (.builtin "BaseException.__getattribute__")))
  (gg:W.findIn K (.ref C7) "__getattr__"=some none)
  (gh:W.mroIn K C7 (.type "BaseException")=some true)
  (gi:(W.clsIn K C7).isSome=true)
  (gj:W.findIn K (.ref C7) "__class__"=some (some (.builtin "object.__class__")))
  (gk:W.mroIn K C7 (.type "object")=some true)
  (gl:W.exmOne K (.ref C7) (.ref C8)=some false)
  (gm:W.exmOne K (.ref C7) (.ref C0)=some true)
  (gn:W.kitOne K (.ref C7) (.ref C1)=some false)
  (go:W.kitOne K (.ref C7) (.ref C2)=some false)
  (gp:W.kitOne K (.ref C7) (.ref C3)=some false)
  (gq:W.kitOne K (.ref C7) (.ref C4)=some false)
  (gr:W.kitOne K (.ref C7) (.ref C5)=some false)
  (gs:W.kitOne K (.ref C7) (.ref C6)=some false)
  (gt:W.kitOne K (.ref C7) (.ref C7)=some true)
  (gu:W.kitOne K (.ref C7) (.ref C8)=some false)
  (gv:W.kitOne K (.ref C7) (.ref C9)=some false)
  (gw:W.kitOne K (.ref C7) (.ref mL)=some false)
  (gx:W.kitOne K (.ref C7) (.ref mK)=some false)
  (gy:W.kitOne K (.ref C7) (.type "ValueError")=some true)
  (gz:W.findIn K (.ref C8) "__getattribute__"=some (some (.builtin "BaseException.__getattribute__")))
  (g0:W.findIn K (.ref C8) "__getattr__"=some none)
  (g1:W.mroIn K C8 (.type "BaseException")=some true)
  (g2:(W.clsIn K C8).isSome=true)
  (g3:W.findIn K (.ref C8) "__class__"=some (some (.builtin "object.__class__")))
  (g4:W.mroIn K C8 (.type "object")=some true)
  (g5:W.exmOne K (.ref C8) (.ref C8)=some true)
  (g6:W.exmOne K (.ref C8) (.ref C0)=some true)
  (g7:W.kitOne K (.ref C8) (.ref C1)=some false)
  (g8:W.kitOne K (.ref C8) (.ref C2)=some false)
  (g9:W.kitOne K (.ref C8) (.ref C3)=some false)
  (ia:W.kitOne K (.ref C8) (.ref C4)=some false)
  (ib:W.kitOne K (.ref C8) (.ref C5)=some false)
  (ic:W.kitOne K (.ref C8) (.ref C6)=some false)
  (id:W.kitOne K (.ref C8) (.ref C7)=some false)
  (ie:W.kitOne K (.ref C8) (.ref C8)=some true)
  (ig:W.kitOne K (.ref C8) (.ref C9)=some false)
  (ih:W.kitOne K (.ref C8) (.ref mL)=some false)
  (ii:W.kitOne K (.ref C8) (.ref mK)=some false)
  (ij:W.kitOne K (.ref C8) (.type "ValueError")=some true)
  (ik:W.nsIn K mainGlobals "LAST_DAY"=some (some (.int 5000 tk0)))
  (il:W.nsIn K mainGlobals "LETTERS"=some (some (.str "abcdefghijklmnopqrstuvwxyz" hJ)))
  (im:W.nsIn K mainGlobals "LONGEST_NAME"=some (some (.int 8 fQ)))
  (io:W.nsIn K mainGlobals "MOST_HOUSES"=some (some (.int 15 mR)))
  (ip:W.nsIn K mainGlobals "MOST_PACTS"=some (some (.int 80 tk4)))
  (iq:W.nsIn K mainGlobals "WHOLE"=some (some (.int 1000 tk5)))
  (ir:W.nsIn K mainGlobals "ValueError"=some none)
  (it:W.nsIn K mainGlobals "abs"=some none)
  (iu:W.nsIn K mainGlobals "all"=some none)
  (iv:W.nsIn K mainGlobals "bool"=some none)
  (iw:W.nsIn K mainGlobals "enumerate"=some none)
  (ix:W.nsIn K mainGlobals "int"=some none)
  (iy:W.nsIn K mainGlobals "isinstance"=some none)
  (iz:W.nsIn K mainGlobals "len"=some none)
  (i0:W.nsIn K mainGlobals "list"=some none)
  (i1:W.nsIn K mainGlobals "max"=some none)
  (i2:W.nsIn K mainGlobals "min"=some none)
  (i3:W.nsIn K mainGlobals "range"=some none)
  (i4:W.nsIn K mainGlobals "set"=some none)
  (i5:W.nsIn K mainGlobals "sorted"=some none)
  (i6:W.nsIn K mainGlobals "str"=some none)
  (i7:W.nsIn K mainGlobals "sum"=some none)
  (i8:W.nsIn K mainGlobals "tuple"=some none)
  (i9:W.nsIn K mainGlobals "zip"=some none)
  (ja:W.nsIn K mainGlobals "shares_equations"=some (some (.ref pE)))
  : ∃fd:FuncData,(∀(s:Shared) (v:Value),BindsTo s fd ⟨[v],[]⟩ [("_law_script",v)])/\∀base:Heap,K.In base->base.Ns mainGlobals mg->FnOk l.prog w K mg base CX0 50 fa fd ["_law_script"] (sp_law K):=by
 have e:=hfa.symm.trans (W.mg_of X G em);cases e;have ⟨_,F1⟩:=F1;have ⟨_,F2⟩:=F2;have ⟨_,F3⟩:=F3;have ⟨_,F4⟩:=F4;have ⟨_,F5⟩:=F5;have ⟨_,F6⟩:=F6;have ⟨_,F7⟩:=F7;have ⟨_,F8⟩:=F8;have ⟨_,F9⟩:=F9;have ⟨_,mJ⟩:=mJ;have ⟨_,mI⟩:=mI;have ⟨_,mH⟩:=mH;have ⟨_,mG⟩:=mG;have ⟨_,mF⟩:=mF;have ⟨_,mE⟩:=mE;have ⟨_,mD⟩:=mD;have ⟨_,mC⟩:=mC;have ⟨_,mB⟩:=mB;have ⟨_,m8⟩:=m8;have ⟨_,m7⟩:=m7;have ⟨_,m6⟩:=m6;have ⟨_,mz⟩:=mz;have ⟨_,my⟩:=my;have ⟨_,mw⟩:=mw;have ⟨_,mr⟩:=mr;have ⟨_,mq⟩:=mq;have ⟨_,k8⟩:=k8;have ⟨_,k7⟩:=k7;have ⟨_,ky⟩:=ky;have ⟨_,kv⟩:=kv;have ⟨_,ku⟩:=ku;have ⟨_,kr⟩:=kr;have ⟨_,kq⟩:=kq;have ⟨_,kn⟩:=kn;have ⟨_,km⟩:=km;have ⟨_,kj⟩:=kj;have ⟨_,mj⟩:=mj;have ⟨_,mi⟩:=mi;have ⟨_,mh⟩:=mh;have ⟨_,mf⟩:=mf;have ⟨_,ma⟩:=ma;have ⟨_,lZ⟩:=lZ;have ⟨_,lY⟩:=lY;have ⟨_,lX⟩:=lX;have ⟨_,lW⟩:=lW;have ⟨_,lV⟩:=lV;have ⟨_,lU⟩:=lU;have ⟨_,lT⟩:=lT;have ⟨_,lS⟩:=lS;have ⟨_,lR⟩:=lR;have ⟨_,lQ⟩:=lQ;have ⟨_,lP⟩:=lP;have ⟨_,lO⟩:=lO;have ⟨_,lN⟩:=lN;have ⟨_,lM⟩:=lM;have ⟨_,lK⟩:=lK;have ⟨_,lJ⟩:=lJ;have ⟨_,lI⟩:=lI;have ⟨_,lH⟩:=lH;have ⟨_,lG⟩:=lG;have ⟨_,lF⟩:=lF;have ⟨_,lE⟩:=lE;have ⟨_,lD⟩:=lD;have ⟨_,lC⟩:=lC;have ⟨_,ki⟩:=ki;obtain⟨_,_,_,_,_,_,_,_,_,rfl,_,_⟩:=ki.ex;have M {x:Str} {v:Value} (h:W.nsIn K mainGlobals x=some (some v)):=W.mg_of X G h;have Z {x:Str} (h:W.nsIn K mainGlobals x=some none):=W.mg_none_of X G h;have T:Txt l.prog K mg ⟨_,_,_,_,_,_,_,_,_,_,_,_,_,_,_,_,_,_,_,_,_,_,_,_,_,_,_,_,_,_,_,_,_,_,_,_,_,_,_,_,_,_,_,_,_,_,_,_,_,_,_,_,_,_,_,_,_,_,_,_,_,_,_,_,_,_,_,_,_,_,_,_,_,_,_,_,_,_,_,_,_,_,_,_,_,_,_,_,_,_,_,_,_,_,_,_,_,_,_,_,_,_,_,_,_,_,_,_,_,_,_,_,_,_,_,_,_,_,_,_,_,_,_,_,_,_,_,_,_,_,C0,C1,C2,C3,C4,C5,C6,C7,C8,C9,mL,mK,bK⟩:=⟨ht,F1,bd3 F1 (λ_ _ _ _ _ _ _ _ _=>rfl),⟨an,ao,F1.kp⟩,F2,bd1 F2 (λ_ _ _ _ _ _ _=>rfl),M aq,F3,bd2 F3 (λ_ _ _ _ _ _ _ _=>rfl),M au,F4,bd1 F4 (λ_ _ _ _ _ _ _=>rfl),M aw,F5,bd1 F5 (λ_ _ _ _ _ _ _=>rfl),M ay,F6,bd3 F6 (λ_ _ _ _ _ _ _ _ _=>rfl),M a0,F7,bd1 F7 (λ_ _ _ _ _ _ _=>rfl),M a2,F8,bd2 F8 (λ_ _ _ _ _ _ _ _=>rfl),M a4,F9,bd2 F9 (λ_ _ _ _ _ _ _ _=>rfl),M a6,mJ,bd2 mJ (λ_ _ _ _ _ _ _ _=>rfl),M a8,mI,bd2 mI (λ_ _ _ _ _ _ _ _=>rfl),M ba,mH,bd2 mH (λ_ _ _ _ _ _ _ _=>rfl),M bc,mG,bd2 mG (λ_ _ _ _ _ _ _ _=>rfl),M be,mF,bd2 mF (λ_ _ _ _ _ _ _ _=>rfl),M bg,mE,bd2 mE (λ_ _ _ _ _ _ _ _=>rfl),M bi,mD,bd3 mD (λ_ _ _ _ _ _ _ _ _=>rfl),M bk,mC,bd1 mC (λ_ _ _ _ _ _ _=>rfl),M bm,mB,bd2 mB (λ_ _ _ _ _ _ _ _=>rfl),M bo,m8,bd3 m8 (λ_ _ _ _ _ _ _ _ _=>rfl),M bq,m7,bd3 m7 (λ_ _ _ _ _ _ _ _ _=>rfl),M bs,m6,bd2 m6 (λ_ _ _ _ _ _ _ _=>rfl),M bu,mz,bd3 mz (λ_ _ _ _ _ _ _ _ _=>rfl),M bw,my,bd2 my (λ_ _ _ _ _ _ _ _=>rfl),M bz,mw,bd6 mw (λ_ _ _ _ _ _ _ _ _ _ _ _=>rfl),M b1,mr,bd3 mr (λ_ _ _ _ _ _ _ _ _=>rfl),M b3,mq,bd1 mq (λ_ _ _ _ _ _ _=>rfl),M b5,k8,bd1 k8 (λ_ _ _ _ _ _ _=>rfl),⟨b7,b8,k8.kp⟩,k7,bd1 k7 (λ_ _ _ _ _ _ _=>rfl),⟨ca,cb,k7.kp⟩,ky,bd1 ky (λ_ _ _ _ _ _ _=>rfl),⟨cd,ce,ky.kp⟩,kv,bd1 kv (λ_ _ _ _ _ _ _=>rfl),⟨cg,ch,kv.kp⟩,ku,bd2 ku (λ_ _ _ _ _ _ _ _=>rfl),⟨cj,ck,ku.kp⟩,kr,bd6 kr (λ_ _ _ _ _ _ _ _ _ _ _ _=>rfl),⟨cm,cn,kr.kp⟩,kq,bd2 kq (λ_ _ _ _ _ _ _ _=>rfl),⟨cp,cq,kq.kp⟩,kn,bd2 kn (λ_ _ _ _ _ _ _ _=>rfl),⟨cs,ct,kn.kp⟩,km,bd3 km (λ_ _ _ _ _ _ _ _ _=>rfl),⟨cv,cw,km.kp⟩,kj,bd8 kj (λ_ _ _ _ _ _ _ _ _ _ _ _ _ _=>rfl),⟨cy,cz,kj.kp⟩,mj,bd2 mj (λ_ _ _ _ _ _ _ _=>rfl),M c1,mi,bd2 mi (λ_ _ _ _ _ _ _ _=>rfl),M c3,mh,bd2 mh (λ_ _ _ _ _ _ _ _=>rfl),M c5,mf,bd3 mf (λ_ _ _ _ _ _ _ _ _=>rfl),M c7,ma,bd2 ma (λ_ _ _ _ _ _ _ _=>rfl),M c9,lZ,bd2 lZ (λ_ _ _ _ _ _ _ _=>rfl),M db,lY,bd2 lY (λ_ _ _ _ _ _ _ _=>rfl),M dd,lX,bd3 lX (λ_ _ _ _ _ _ _ _ _=>rfl),M df,lW,bd3 lW (λ_ _ _ _ _ _ _ _ _=>rfl),M dh,lV,bd2 lV (λ_ _ _ _ _ _ _ _=>rfl),M dj,lU,bd1 lU (λ_ _ _ _ _ _ _=>rfl),M dl,lT,bd2 lT (λ_ _ _ _ _ _ _ _=>rfl),M dn,lS,bd2 lS (λ_ _ _ _ _ _ _ _=>rfl),M dq,lR,bd2 lR (λ_ _ _ _ _ _ _ _=>rfl),M ds,lQ,bd2 lQ (λ_ _ _ _ _ _ _ _=>rfl),M du,lP,bd2 lP (λ_ _ _ _ _ _ _ _=>rfl),M dw,lO,bd2 lO (λ_ _ _ _ _ _ _ _=>rfl),M dy,lN,bd3 lN (λ_ _ _ _ _ _ _ _ _=>rfl),M d0,lM,bd2 lM (λ_ _ _ _ _ _ _ _=>rfl),M d2,lK,bd1 lK (λ_ _ _ _ _ _ _=>rfl),M d4,lJ,bd1 lJ (λ_ _ _ _ _ _ _=>rfl),M d6,lI,bd2 lI (λ_ _ _ _ _ _ _ _=>rfl),M d8,lH,bd2 lH (λ_ _ _ _ _ _ _ _=>rfl),M ea,lG,bd2 lG (λ_ _ _ _ _ _ _ _=>rfl),M ec,lF,bd2 lF (λ_ _ _ _ _ _ _ _=>rfl),M ee,lE,bd2 lE (λ_ _ _ _ _ _ _ _=>rfl),M eg,lD,bd2 lD (λ_ _ _ _ _ _ _ _=>rfl),M ei,lC,bd5 lC (λ_ _ _ _ _ _ _ _ _ _ _=>rfl),M ek,ki,bd1 ki (λ_ _ _ _ _ _ _=>rfl),M em,M aa,M ab,M ac,M ad,M ae,M af,M ag,M ah,M ai,M aj,M ak,M al,M am,⟨eo,ep,eq,er⟩,⟨es,b7,b8,et⟩,eu,⟨ev,an,ao,ew⟩,⟨ex,ey,ez,e0⟩,⟨ex,ey,ez,e1⟩,⟨e2,e3,e4⟩,e7,e8,e9,ga,gb,gc,gd,ge,⟨gf,gg,gh,gi,gj,e5,e6,gk⟩,gl,gm,gn,go,gp,gq,gr,gs,gt,gu,gv,gw,gx,gy,⟨gz,g0,g1,g2,g3,e5,e6,g4⟩,g5,g6,g7,g8,g9,ia,ib,ic,id,ie,ig,ih,ii,ij,⟨_,M ik⟩,⟨_,M il⟩,⟨_,M im⟩,⟨_,M io⟩,⟨_,M ip⟩,⟨_,M iq⟩,Z ir,Z it,Z iu,Z iv,Z iw,Z ix,Z iy,Z iz,Z i0,Z i1,Z i2,Z i3,Z i4,Z i5,Z i6,Z i7,Z i8,Z i9,M ja⟩;exact⟨_,λs v=>.of_eq rfl,λbase _ _=>zPP T⟩
def zOZ {l:PySem.W.OpenLaw} {q:Program} {loose:List Str} {XP:(Str->Option Value)->Heap->Prop} {YP:World->Heap->Prop} {d:DefRec} {K:Params->W.Frag} (hn:l.most=some 63) (jK:d.params.defaults=[]) (hq:PyProof.Rows.importsNone q=true)
  (hY:∀(w:World) (h:Heap),YP w h->(K w.params).In h)
  (F:∀(w:World) (mg:Str->Option Value) (fa:Addr) (h:Heap),(K w.params).In h->h.Ns mainGlobals mg->mg d.name=some (.ref fa)->
   ∃fd:FuncData,(∀(s:Shared) (u:Value),BindsTo s fd ⟨[u],[]⟩ [("_law_script",u)])/\∀base:Heap,(K w.params).In base->base.Ns mainGlobals mg->FnOk l.prog w (K w.params) mg base CX0 50 fa fd ["_law_script"] (sp_law (K w.params))) :
  PySem.W.WalkO q loose XP YP l.row.toRowW d [] (λf vs=>PySem.call f vs):=
 L2.zNC (n:=63) (k:=50) (x:="_law_script") (CX:=λ_=>CX0) (sp:=λw=>sp_law (K w.params)) hn ⋯ jK hq ⟨rfl,by decide,by decide⟩ hY F (λ_ _ a ns hl _ hS=>⟨a,ns,rfl,hS,hl,λ_=>rfl⟩) λ_ _ _ _ _ z=>z
end Pf
open PySem PySem.W PyProof.Rows
set_option maxRecDepth 100000 in
set_option maxHeartbeats 0 in
theorem PySem.Challenge.cw_roundcede_k42_whole_one_pact_more_holds : PySem.Challenge.rw_roundcede_k42_whole_one_pact_more.Holds := by
 w_on;refine holds_law Hp.wl λsaid=>?_;refine holds_open (q:=Hp.vw) (loose:=Hp.ls) (Xt:=Hp.xt) (XP:=XL Hp.vw []) (Yf:=Hook.obs (kHook Hp.zOT.heap_1 Hp.ka Hp.ke)) (Ya:=Hook.val (kHook Hp.zOT.heap_1 Hp.ka Hp.ke)) (YP:=Hook.says (kHook Hp.zOT.heap_1 Hp.ka Hp.ke)) (N:=10936) ?hl (Hook.of (kHook Hp.zOT.heap_1 Hp.ka Hp.ke)) (Hook.keeps (kHook Hp.zOT.heap_1 Hp.ka Hp.ke)) (λs e=>xl_of s (Bool.and_eq_true_iff.mp e).1) XL.keeps (by rfl) (by rfl) (by rfl) (λs e=>recFacts_of (Bool.and_eq_true_iff.mp e).2) (by rfl) (by first | assumption | decide +kernel) (by decide +kernel) ⟨rfl,rfl,rfl,rfl,rfl,by decide +kernel⟩ ?hw ?hc
 (case hw=>w_witness2)
 (case hl=>refine λw=>Hp.zM2 (Hp.hp0 w) ?_;exact Hp.hp3 w)
 k_fill
 refine Pf.zOZ (l:=PySem.Challenge.rw_roundcede_k42_whole_one_pact_more) rfl rfl (by first | rfl | decide +kernel) (λw h Y=>PySem.W.kIn_of Y) ?F
 case F=>
  intro w mg fa h KX G hmg
  refine' Pf.zQq KX G hmg rfl ?aa ?ab ?ac ?ad ?ae ?af ?ag ?ah ?ai ?aj ?ak ?al ?am ?an ?ao ?ap ?aq ?ar ?au ?av ?aw ?ax ?ay ?az ?a0 ?a1 ?a2 ?a3 ?a4 ?a5 ?a6 ?a7 ?a8 ?a9 ?ba ?bb ?bc ?bd ?be ?bf ?bg ?bh ?bi ?bj ?bk ?bl ?bm ?bn ?bo ?bp ?bq ?br ?bs ?bt ?bu ?bv ?bw ?bx ?bz ?b0 ?b1 ?b2 ?b3 ?b4 ?b5 ?b6 ?b7 ?b8 ?b9 ?ca ?cb ?cc ?cd ?ce ?cf ?cg ?ch ?ci ?cj ?ck ?cl ?cm ?cn ?co ?cp ?cq ?cr ?cs ?ct ?cu ?cv ?cw ?cx ?cy ?cz ?c0 ?c1 ?c2 ?c3 ?c4 ?c5 ?c6 ?c7 ?c8 ?c9 ?da ?db ?dc ?dd ?de ?df ?dg ?dh ?di ?dj ?dk ?dl ?dm ?dn ?dp ?dq ?dr ?ds ?dt ?du ?dv ?dw ?dx ?dy ?dz ?d0 ?d1 ?d2 ?d3 ?d4 ?d5 ?d6 ?d7 ?d8 ?d9 ?ea ?eb ?ec ?ed ?ee ?ef ?eg ?eh ?ei ?ej ?ek ?el ?em ?en ?eo ?ep ?eq ?er ?es ?et ?eu ?ev ?ew ?ex ?ey ?ez ?e0 ?e1 ?e2 ?e3 ?e4 ?e5 ?e6 ?e7 ?e8 ?e9 ?ga ?gb ?gc ?gd ?ge ?gf ?gg ?gh ?gi ?gj ?gk ?gl ?gm ?gn ?go ?gp ?gq ?gr ?gs ?gt ?gu ?gv ?gw ?gx ?gy ?gz ?g0 ?g1 ?g2 ?g3 ?g4 ?g5 ?g6 ?g7 ?g8 ?g9 ?ia ?ib ?ic ?id ?ie ?ig ?ih ?ii ?ij ?ik ?il ?im ?io ?ip ?iq ?ir ?it ?iu ?iv ?iw ?ix ?iy ?iz ?i0 ?i1 ?i2 ?i3 ?i4 ?i5 ?i6 ?i7 ?i8 ?i9 ?ja
  (case aa | ab | ac | ad | ae | af | ag | ah | ai | aj | ak | al | am | an | ao | aq | au | aw | ay | a0 | a2 | a4 | a6 | a8 | ba | bc | be | bg | bi | bk | bm | bo | bq | bs | bu | bw | bz | b1 | b3 | b5 | b7 | b8 | ca | cb | cd | ce | cg | ch | cj | ck | cm | cn | cp | cq | cs | ct | cv | cw | cy | cz | c1 | c3 | c5 | c7 | c9 | db | dd | df | dh | dj | dl | dn | dq | ds | du | dw | dy | d0 | d2 | d4 | d6=>k_is)
  (case d8 | ea | ec | ee | eg | ei | ek | em | eo | ep | eq | er | es | et | eu | ik | il | im | io | ip | iq | ir | it | iu | iv | iw | ix | iy | iz | i0 | i1 | i2 | i3 | i4 | i5 | i6 | i7 | i8 | i9 | ja=>k_is)
  (case ap | ar | av | ax | az | a1 | a3 | a5 | a7 | a9 | bb | bd | bf | bh | bj | bl | bn | bp | br | bt | bv | bx | b0 | b2 | b4 | b6 | b9 | cc | cf | ci | cl | co | cr | cu | cx | c0 | c2 | c4 | c6 | c8 | da | dc | de | dg | di | dk | dm | dp | dr | dt | dv | dx | dz | d1 | d3 | d5 | d7 | d9 | eb | ed | ef | eh | ej | el | en=>(refine' ⟨_,L2.zQg ?l ?c ?k⟩;(case l=>k_is);(case c=>k_is);(case k=>k_is)))
  (case ev | ew | ex | ey | ez | e0 | e1 | e2 | e3 | e4 | e5 | e6=>kernel_rfl)
  (case e7 | e8 | e9 | ga | gb | gc | gd | ge=>first | k_exc | k_is | rfl | kernel_rfl)
  (case gf | gg | gh | gi | gj | gk | gl | gm | gn | go | gp | gq | gr | gs | gt | gu | gv | gw | gx | gy | gz | g0 | g1 | g2 | g3 | g4 | g5 | g6 | g7 | g8 | g9 | ia | ib | ic | id | ie | ig | ih | ii | ij=>kernel_rfl)
