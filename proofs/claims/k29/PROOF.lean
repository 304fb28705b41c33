import PyProof.Rows.All
import Wide.All
import OpenK.AllK
import Wide.FinOn
import Lean
import PyProof.EqAt
import PyProof.EqKinds
import PyProof.TupleCall
import PySem.Challenge.RW_roundcede_k29_desk_deeds
set_option Elab.async false
set_option linter.all false
set_option maxRecDepth 100000
local macro_rules
 | `(term|∅)=>`(by omega)
local macro_rules
 | `(term|⋯)=>`(by decide)
local macro_rules
 | `(tactic|nofun)=>`(tactic|decide +kernel)
local macro_rules
 | `(tactic|and_intros)=>`(tactic|exact ⟨rfl,rfl,rfl,by decide +kernel,rfl,by decide +kernel,by decide +kernel⟩)
local macro_rules
 | `(term|⟨⟩)=>`(by intro _ _ _ _ h;cases h;subst_vars;rfl)
set_option hygiene false in
local macro_rules
 | `(term|())=>`(fun cdv A outer s H vs Q E hr h=>?_)
abbrev wHt:=@List.length_map
abbrev wHu:=@PySem.wpAny_bind
abbrev wHv:=@List.getElem?_eq_getElem
abbrev wHw:=@List.getD_eq_getElem?_getD
abbrev wHx:=@PySem.wpAny_pure
abbrev wHy:=@List.length_append
abbrev wHz:=@PySem.Heap.get?_push_of_some
abbrev wHA:=@Nat.le_refl
abbrev wHB:=@List.getElem?_map
abbrev wHC:=@List.map_append
abbrev wHD:=@if_neg
abbrev wHE:=@Option.some.inj
abbrev wHF:=@if_pos
abbrev wHG:=@PySem.Heap.get?_push_size
abbrev wHH:=@PySem.Heap.lt_size
abbrev wHI:=@Nat.le_trans
abbrev wHJ:=@List.getElem?_append_left
abbrev wHK:=@List.getElem?_append_right
abbrev wHL:=@List.size_toArray
abbrev wHM:=@Bool.false_ne_true
abbrev wHN:=@PySem.Heap.get?_update_other
abbrev wHO:=@Nat.ne_of_lt
abbrev wHP:=@of_decide_eq_true
abbrev wHQ:=@List.append_nil
abbrev wHR:=@Bool.and_eq_true
abbrev wHS:=@List.length_take
abbrev wHT:=@Nat.lt_of_lt_of_le
abbrev wHU:=@decide_eq_true
abbrev wHV:=@List.mem_cons_of_mem
abbrev wHW:=@PySem.F.plainAttrs_list
abbrev wHX:=@decide_eq_false
abbrev wHY:=@List.append_assoc
abbrev wHZ:=@List.getElem_mem
abbrev wH0:=@List.take_length
abbrev wH1:=@List.not_mem_nil
abbrev wH2:=@Array.length_toList
abbrev wH3:=@List.length_cons
abbrev wH4:=@PySem.wpAny_mono
abbrev wH5:=@PySem.F.slot_list_append
abbrev wH6:=@List.map_cons
abbrev wH7:=@PyProof.Rows.boot_isinstance
abbrev wH8:=@PySem.boot_len
abbrev wH9:=@of_decide_eq_false
abbrev wIa:=@PySem.F.type_list_append
abbrev wIb:=@List.mem_cons
abbrev wIc:=@PySem.Heap.get?_update_self
abbrev wId:=@List.take_succ
abbrev wIe:=@List.mem_of_getElem?
abbrev wIf:=@List.mem_append_right
abbrev wIg:=@List.mem_cons_self
abbrev wIh:=@False.elim
abbrev wIi:=@Nat.lt_of_le_of_lt
abbrev wIj:=@PySem.wpAny_newObj_type
abbrev wIk:=@PySem.Heap.size_push
abbrev wIl:=@List.length_singleton
abbrev wIm:=@Array.getElem?_eq_getElem
abbrev wIn:=@PySem.wpAny_holding
abbrev wIo:=@List.take_of_length_le
abbrev wIp:=@Nat.zero_le
abbrev wIq:=@PySem.wpAny_field
abbrev wIr:=@List.replicate_succ
abbrev wIs:=@Int.toNat_natCast
abbrev wIt:=@Classical.byContradiction
abbrev wIu:=@List.length_drop
abbrev wIv:=@Nat.lt_succ_self
abbrev wIw:=@List.getElem?_eq_none
abbrev wIx:=@Nat.lt_succ_of_lt
abbrev wIy:=@Nat.not_lt_zero
abbrev wIz:=@Array.getElem?_toList
abbrev wIA:=@Array.toList_append
abbrev wIB:=@List.length_replicate
abbrev wIC:=@Nat.le_of_lt
abbrev wID:=@List.flatten_cons
abbrev wIE:=@List.length_filter_le
abbrev wIF:=@PySem.Heap.get?_none_of_le
abbrev wIG:=@Nat.le_of_eq
abbrev wIH:=@List.length_range
abbrev wII:=@Int.le_refl
abbrev wIJ:=@Int.natAbs_mul
abbrev wIK:=@Int.le_of_lt
def wIL {α:Type _} {l:List α} {i:Nat} {a:α} (h:l[i]?=some a):∃h:i < l.length,l[i]=a:=List.getElem?_eq_some_iff.mp h
def wIM {α:Type _} {a b:α} (h:a∈[b]):a=b:=List.mem_singleton.mp h
def wIN {α β:Type _} {o:Option α} {f:α->β} {b:β} (h:o.map f=some b):∃a,o=some a/\f a=b:=Option.map_eq_some_iff.mp h
def wIO {b:Bool} (h:b≠true):b=false:=Bool.eq_false_iff.mpr h
def wIP {α:Type _} {a:α} {s t:List α} (h:a∈s++t):a∈s∨a∈t:=List.mem_append.mp h
def wIQ {α:Type _} {a b:α} {l:List α} (h:a∈b::l):a=b∨a∈l:=List.mem_cons.mp h
namespace Hp
open PySem PySem.W PyProof.Rows
def zNZ {α β γ:Type} {o:Option α} {f:α->β} {g:α->γ} {b:β} {c:γ} (h1:o.map f=some b) (h2:o.map g=some c):o.map (λs=>(f s,g s))=some (b,c):=by
 cases o with
 | none=>cases h1
 | some s=>rw[Option.map_some] at h1 h2 ⊢;rw[wHE h1,wHE h2]
theorem zMm {α β γ:Type} {o:Option α} {F:α->β × γ} {G:β × γ} (h1:o.map (λs=>(F s).1)=some G.1) (h2:o.map (λs=>(F s).2)=some G.2):o.map F=some G:=zNZ h1 h2
noncomputable def zF3 (tb:String->Option Builtin) (p:Program) (w:World) (n₀:Nat) (ann:Option Value):Nat->SharedT->Thread->Option SharedT
 | 0,_,_=>none
 | n+1,s,t=>match through t with
  | true=>some s
  | false=>match Fast.tw6613529449190102663 n₀ ann t with
   | false=>none
   | true=>match Fast.tw10156331382660048174 (Fast.tw11892475500146522536 tb) p w s t with
    | some (s',t')=>zF3 tb p w n₀ ann n s' t'
    | none=>none
theorem zFe {tb:String->Option Builtin} {p:Program} {w:World} {n₀:Nat} {ann:Option Value}:∀(n:Nat) (s:SharedT) (t:Thread) (s':SharedT),zF3 tb p w n₀ ann n s t=some s'->topRun tb p w n₀ ann n s.abs t=some s'.abs
 | 0,s,t,s',h=>by cases h
 | n+1,s,t,s',h=>by
  unfold zF3 at h;rw[topRun.eq_2];cases e1:through t with
  | true=>rw[e1] at h;cases h;rfl
  | false=>
   rw[e1] at h;rw[← Fast.te6613529449190102663] at h;cases e2:stepOk n₀ ann t with
   | false=>rw[e2] at h;cases h
   | true=>
    rw[e2] at h;rw[← Fast.te10156331382660048174,← Fast.te11892475500146522536] at h;cases e3:stepT (denote tb) p w s t with
    | none=>rw[e3] at h;cases h
    | some st=>
     obtain⟨s1,t1⟩:=st;rw[e3] at h;have e4:=stepT_spec e3;show (match step (denote tb) p w s.abs t with | .go s' t'=>topRun tb p w n₀ ann n s' t' | .halt _ _=>none)=_;rw[e4];exact zFe n s1 t1 s' h
def zMV:List Obj->Nat->BT->BT
 | [],_,t=>t
 | o::r,i,t=>zMV r (i+1) (t.ins i o)
noncomputable def T0 (P:Params):BT:=zMV (boot_heap P).objs.toList 0 .nil
def zQK (P:Params):absHeap (T0 P) 11 (boot_heap P).life=boot_heap P:=by kernel_rfl
noncomputable def sT (P:Params) (os:OsState):SharedT:=⟨T0 P,11,(boot_heap P).life,Array.mk [],boot_drawn,boot_toks,os⟩
def zOW (P:Params) (os:OsState):(sT P os).abs=⟨boot_heap P,Array.mk [],boot_drawn,boot_toks,os⟩:=by unfold SharedT.abs sT;rw[zQK]
theorem zFx {p:Program} {N:Nat} (e:opening p=plainProg p.main.scope.names) (hN:Nat.ble 600 N=true) (hf:∀s,fenceModules? p s=some s) {β:Type} {f:Shared->β} {v:β} (w:World)
  (h:∀os:OsState,(zF3 Fast.tw14364793385576792824 p w 11 ((boot_heap w.params).nsMap mainGlobals (Str.ofString "__annotations__")) N (sT w.params os) (topStub p)).map (λs=>(staticsOk (importedModules p.main.body) (boot_heap w.params) s.abs.heap && namesBound p s.abs.heap && gensDone s.abs && laidKept (boot_heap w.params) s.abs.heap,f s.abs))=some (true,v)):(openEnds treeTable p w N).map f=some v:=by
 obtain⟨s,hs,hv⟩:=wIN (boot_open e hN hf w);unfold openEnds;rw[hs];obtain⟨hh,gs,d,k,os⟩:=s;simp only[Prod.mk.injEq] at hv;obtain⟨rfl,rfl,rfl,rfl⟩:=hv;obtain⟨s1,h1,h2⟩:=wIN (h os);rw[← Fast.te14364793385576792824] at h1;have h3:=zFe _ _ _ _ h1;rw[zOW] at h3;simp only[Prod.mk.injEq] at h2;obtain⟨h4,h5⟩:=h2;show (topFrom treeTable p w N _).map f=some v;unfold topFrom;have e1:((⟨boot_heap w.params,Array.mk [],boot_drawn,boot_toks,os⟩:Shared).heap.isNs mainGlobals && (⟨boot_heap w.params,Array.mk [],boot_drawn,boot_toks,os⟩:Shared).gens.size == 0)=true:=by kernel_rfl
 rw[e1];show Option.map f ((topRun treeTable p w (boot_heap w.params).objs.size ((boot_heap w.params).nsMap mainGlobals (Str.ofString "__annotations__")) N _ (topStub p)).bind _)=_;rw[show (boot_heap w.params).objs.size=11 from by kernel_rfl,h3];show Option.map f (match _ with | true=>_ | false=>_)=_;rw[h4];exact congrArg some h5
abbrev fs:String:="special-get-raises"
def fol (w:World):w.withFollow fs (w.params.followText fs)=w:=by
 obtain⟨d,p⟩:=w;have e:(λr=>if r=fs then p.followText fs else p.followText r)=p.followText:=by
  funext r
  by_cases c:r=fs
  ·rw[wHF c,c]
  rw[wHD c]
 unfold World.withFollow;show World.mk d { p with followText:=λr=>if r=fs then p.followText fs else p.followText r }=_;rw[e]
theorem zK2 {q:World->Prop} (hf:∀w,q (World.withFollow w fs false)) (ht:∀w,q (World.withFollow w fs true)) (w:World):q w:=by
 have h:∀b,q (w.withFollow fs b):=λb=>by cases b;exact hf w;exact ht w
 exact (fol w) ▸ h _
noncomputable abbrev tP:Program:=PySem.Challenge.pw_roundcede_k29_desk_deeds
noncomputable def vw:Program:={ tP with main:={ tP.main with body:=([100]:List Nat).map λi=>tP.main.body.getD i (.Pass ⟨0,0,0,0⟩) } }
noncomputable abbrev ls:List Str:=(["CedeError","BadName","KnownHouse","UnknownHouse","ToItself","DaysTurned","OutOfRange","TooMuch","ShutIn","Full","NothingDone","Unclear"]:List Str)++(["LAST_DAY","turning_days","holding","stretches","LETTERS","LONGEST_NAME","MOST_COINS","MOST_ROUNDS","check_name","check_range","check_day","check_amount"]:List Str)++(["check_many","place_of","greatest_divisor","lowest","minus","times","less","kept","spread","shut_in","loss_rows","cut_down"]:List Str)++(["strike_out","arrivals","shares","shares_equations","WHOLE","ways_of","ways_on","looks","check_terms","whom_shut","greatest_rest","coins"]:List Str)++(["coins_purse","next_round","walk","MOST_HOUSES","MOST_PACTS","MOST_LOSSES","deed_row","Book","FORMS","NUMBERS","FIGURES","MOST_FIGURES"]:List Str)++(["read_number","read_word","parse","shown","listed","day_and_names","refusal_word","do_deed","tell_deeds","tell_fractions","tell_coins","tell_rounds"]:List Str)++(["tell_shut","ask","Desk","_law_at","_law_draws","_law_names","_law_pact","_law_on","_law_left","_law_closed","_law_due","_law_house"]:List Str)++(["_law_bond","_law_back","_law_told"]:List Str)
noncomputable def xt:Shared->Bool:=λs=>xlAt vw [] s && recOk (RowW.records (OpenRow.toRowW (OpenLaw.row PySem.Challenge.rw_roundcede_k29_desk_deeds))) s
def zQH {a b:Bool} (h1:a=true) (h2:b=true):(a && b)=true:=by rw[h1,h2];rfl
def wlr:(OpenLaw.row PySem.Challenge.rw_roundcede_k29_desk_deeds).wellSaid=true:=by kernel_rfl
def wl:OpenLaw.wellSaid PySem.Challenge.rw_roundcede_k29_desk_deeds=true:=by
 unfold OpenLaw.wellSaid
 repeat' (with_reducible refine zQH ?_ ?_)
 exact wlr
 all_goals kernel_rfl
abbrev zQb (w:World):Prop:=(openEnds treeTable tP w 11788).map (openSeen vw ls (importedModules tP.main.body) xt true)=some (openGood vw ls)
def zQB (w:World):zQb (w.withFollow fs false):=by
 refine zFx rfl rfl (λ_=>rfl) _ λos=>?_;rw[PySem.W.Fast.te4187177175401517315]
 kernel_rfl
def zQA (w:World):zQb (w.withFollow fs true):=by
 refine zFx rfl rfl (λ_=>rfl) _ λos=>?_;rw[PySem.W.Fast.te4187177175401517315]
 kernel_rfl
def hp0 (w:World):zQb w:=zK2 (q:=zQb) zQB zQA w
set_option hygiene false in
local macro_rules
 | `(tactic| o_head $H)=>`(tactic| exact (λ_=>hh) $H)
def zO0 (hh:(OpenLaw.row PySem.Challenge.rw_roundcede_k29_desk_deeds).Holds):(OpenLaw.row PySem.Challenge.rw_roundcede_k29_desk_deeds).Holds:=by k_head
noncomputable def p0:Params:={ strHash:=λ_=>0,shareClass:=λ_=>0,mergeTok:=id,idOf:=λ_=>0,idOfShared:=λ_ _=>0,followText:=λ_=>false,idOfImm:=λ_=>0 }
noncomputable def ka:List Addr:=(zO0.heap_1 p0).map (·.1)
def ke:∀P,ka=(zO0.heap_1 P).map (·.1):=λ_=>by kernel_rfl
def zNY {α β γ δ:Type} {o:Option α} {f:α->β->γ} {l:List β} {m:List δ} {g:δ->γ} (n:Nat) (h1:o.map (λs=>(l.take n).map (f s))=some ((m.take n).map g)) (h2:o.map (λs=>(l.drop n).map (f s))=some ((m.drop n).map g)):o.map (λs=>l.map (f s))=some (m.map g):=by
 cases o with
 | none=>cases h1
 | some s=>
  rw[Option.map_some] at h1 h2 ⊢;rw[show l.map (f s)=(l.take n).map (f s)++(l.drop n).map (f s) by rw[← wHC,List.take_append_drop],wHE h1,wHE h2,← wHC,List.take_append_drop]
abbrev zIC (w:World):Prop:=(openEnds treeTable tP w 11788).map (λs=>((ka).take 210).map s.heap.get?)=some (((zO0.heap_1 w.params).take 210).map λp=>some p.2)
def zOl (w:World):zIC (w.withFollow fs false):=by
 refine zFx rfl rfl (λ_=>rfl) _ λos=>?_
 kernel_rfl
def zOk (w:World):zIC (w.withFollow fs true):=by
 refine zFx rfl rfl (λ_=>rfl) _ λos=>?_
 kernel_rfl
def zQ9 (w:World):zIC w:=zK2 (q:=zIC) zOl zOk w
abbrev zIB (w:World):Prop:=(openEnds treeTable tP w 11788).map (λs=>((ka).drop 210).map s.heap.get?)=some (((zO0.heap_1 w.params).drop 210).map λp=>some p.2)
def zOj (w:World):zIB (w.withFollow fs false):=by
 refine zFx rfl rfl (λ_=>rfl) _ λos=>?_
 kernel_rfl
def zOi (w:World):zIB (w.withFollow fs true):=by
 refine zFx rfl rfl (λ_=>rfl) _ λos=>?_
 kernel_rfl
def zQ8 (w:World):zIB w:=zK2 (q:=zIB) zOj zOi w
def hp3 (w:World):(openEnds treeTable tP w 11788).map (Hook.obs (kHook zO0.heap_1 ka ke))=some (Hook.val (kHook zO0.heap_1 ka ke) w):=zNY 210 (zQ9 w) (zQ8 w)
end Hp
set_option Elab.async false
set_option linter.all false
set_option maxRecDepth 100000
namespace L2
open PySem PySem.Spec PyProof.Rows
abbrev Key:=Sum Int Str
def zP5:Key->Value->Bool
 | .inl k,v=>Value.isInt k v
 | .inr x,v=>Value.isStrOf x v
def zRy (w:World):Key->Int
 | .inl k=>hashInt k
 | .inr x=>hashStr w x
def zA7:∀{k:Key} {v:Value},zP5 k v=true->(∃i t,k=Sum.inl i/\v=Value.int i t)∨(∃x t,k=Sum.inr x/\v=Value.str x t)
 | .inl i,v,h=>by obtain⟨t,e⟩:=Value.isInt_shape (k:=i) (v:=v) h;exact .inl ⟨i,t,rfl,e⟩
 | .inr x,v,h=>by obtain⟨t,e⟩:=Value.isStrOf_shape (x:=x) (v:=v) h;exact .inr ⟨x,t,rfl,e⟩
def zP4 (a b:Int):decide ((Sum.inl a:Key)=Sum.inl b)=(a == b):=by
 by_cases e:a=b
 ·subst e;simp
 have h:¬(Sum.inl a:Key)=Sum.inl b:=λq=>e (Sum.inl.inj q);rw[wHX h];exact (beq_eq_false_iff_ne.mpr e).symm
def zP1 (a b:Str):decide ((Sum.inr a:Key)=Sum.inr b)=decide (a=b):=by
 by_cases e:a=b
 ·subst e;simp
 have h:¬(Sum.inr a:Key)=Sum.inr b:=λq=>e (Sum.inr.inj q);rw[wHX h,wHX e]
theorem zP3 (a:Int) (b:Str):decide ((Sum.inl a:Key)=Sum.inr b)=false:=wHX (λq=>nomatch q)
def zP2 (a:Str) (b:Int):decide ((Sum.inr a:Key)=Sum.inl b)=false:=wHX (λq=>nomatch q)
def zHL (prog:Program) (w:World):PySem.KeyKind prog w Key where
 is:=zP5
 hash:=zRy w
 inj:=λv a b ha hb=>by
  rcases zA7 ha with ⟨i,t,rfl,rfl⟩ | ⟨x,t,rfl,rfl⟩
  ·rcases zA7 hb with ⟨j,u,rfl,e⟩ | ⟨y,u,rfl,e⟩
   ·injection e with e1 _;rw[e1]
   exact nomatch e
  rcases zA7 hb with ⟨j,u,rfl,e⟩ | ⟨y,u,rfl,e⟩
  ·exact nomatch e
  injection e with e1 _;rw[e1]
 byValue:=λk v h=>by rcases zA7 h with ⟨i,t,rfl,rfl⟩ | ⟨x,t,rfl,rfl⟩<;>rfl
 pyHash:=λhv h=>by
  rcases zA7 hv with ⟨i,t,rfl,rfl⟩ | ⟨x,t,rfl,rfl⟩
  ·exact wpAny_pyHash_int h
  exact wpAny_pyHash_str h
 eqBool:=λhu hv h=>by
  rcases zA7 hu with ⟨i,t,rfl,rfl⟩ | ⟨x,t,rfl,rfl⟩
  ·rcases zA7 hv with ⟨j,u,rfl,rfl⟩ | ⟨y,u,rfl,rfl⟩
   ·rw[zP4] at h;exact wpAny_eqBool_int h
   rw[zP3] at h;exact SeqAt.EqAt.int_str i t y u _ _ _ _ h
  rcases zA7 hv with ⟨j,u,rfl,rfl⟩ | ⟨y,u,rfl,rfl⟩
  ·rw[zP2] at h;exact SeqAt.EqAt.str_int x t j u _ _ _ _ h
  rw[zP1] at h;exact wpAny_eqBool_str h
 «strs»:=λk x t v h=>by
  rcases zA7 h with ⟨i,u,rfl,e⟩ | ⟨y,u,rfl,e⟩
  ·exact nomatch e
  injection e with e1 _
  subst e1;cases v<;>rfl
inductive V where
 | non | bl (b:Bool) | int (i:Int) | str (x:Str) | byt (b:Array UInt8) | flt (b:UInt64) | ref (a:Addr) | ty (n:String)
 deriving DecidableEq
def zAV:V->Value->Prop
 | .non,u=>u=Value.none
 | .bl b,u=>u=Value.bool b
 | .int i,u=>∃t,u=Value.int i t
 | .str x,u=>∃t,u=Value.str x t
 | .byt b,u=>∃t,u=Value.bytes b t
 | .flt b,u=>∃t,u=Value.float b t
 | .ref a,u=>u=Value.ref a
 | .ty n,u=>u=Value.type n
abbrev zAv:List V->List Value->Prop:=Paired zAV
def zAv.length {xs:List V} {us:List Value} (r:zAv xs us):xs.length=us.length:=Paired.length r
theorem zAv.get:∀{xs:List V} {us:List Value} {i:Nat} {x:V},zAv xs us->xs[i]?=some x->∃u,us[i]?=some u/\zAV x u
 | _,_,_,_,.nil,e=>by simp at e
 | _,_,0,_,.cons r _,e=>by simp at e;subst e;exact⟨_,rfl,r⟩
 | _,_,i+1,x,.cons _ t,e=>by obtain⟨u,h1,h2⟩:=zAv.get (i:=i) (x:=x) t (by simpa using e);exact⟨u,by simpa using h1,h2⟩
theorem zAv.set {x:V} {u:Value} (r:zAV x u):∀{xs:List V} {us:List Value} (i:Nat),zAv xs us->zAv (xs.set i x) (us.set i u)
 | _,_,_,.nil=>.nil
 | _,_,0,.cons _ t=>.cons r t
 | _,_,i+1,.cons q t=>.cons q (zAv.set r i t)
theorem zAv.append:∀{xs ys:List V} {us ws:List Value},zAv xs us->zAv ys ws->zAv (xs++ys) (us++ws)
 | _,_,_,_,.nil,s=>s
 | _,_,_,_,.cons r t,s=>.cons r (zAv.append t s)
theorem zAv.take:∀{xs:List V} {us:List Value} (n:Nat),zAv xs us->zAv (xs.take n) (us.take n)
 | _,_,0,_=>.nil
 | _,_,_+1,.nil=>.nil
 | _,_,n+1,.cons r t=>.cons r (zAv.take n t)
theorem zAv.drop:∀{xs:List V} {us:List Value} (n:Nat),zAv xs us->zAv (xs.drop n) (us.drop n)
 | _,_,0,r=>r
 | _,_,_+1,.nil=>.nil
 | _,_,n+1,.cons _ t=>zAv.drop n t
def zAv.none_of:∀{xs:List V} {us:List Value} {i:Nat},zAv xs us->xs[i]?=none->us[i]?=none:=λ{xs us i} r e=>by have h1:=r.length;have h2:xs.length<=i:=List.getElem?_eq_none_iff.mp e;exact List.getElem?_eq_none_iff.mpr ∅
def zHk:Option V->Option Value->Prop
 | some v,some u=>zAV v u
 | none,none=>True
 | _,_=>False
def KV {κ:Type}:List (κ × V)->List (κ × Value)->Prop:=Paired λ(p:κ × V) (q:κ × Value)=>p.1=q.1/\zAV p.2 q.2
def kV:Key->V
 | .inl i=>.int i
 | .inr x=>.str x
inductive HO where
 | lst (xs:List V)
 | tup (xs:List V)
 | dK (kvs:List (Key × V)) | dT (kvs:List (List Key × V))
 | set (S:Int->Bool) (n:Nat)
 | ins (C dx:Addr) (fs:List (Str × V))
 | own (x:Addr)
 | xd (fs:List (Str × V))
 | met (f x:Addr)
 | rng (lo hi:Int)
 | frz (o:Obj) (u:HO)
 | tbl (ps:Array Value)
 | ext (φ:Heap->Prop)
abbrev Hp:=Addr->Option HO
def upd (H:Hp) (a:Addr) (o:HO):Hp:=λb=>if b=a then some o else H b
def zB {H:Hp} {a:Addr} {o:HO}:upd H a o a=some o:=by unfold upd;rw[wHF rfl]
theorem zJ {H:Hp} {a b:Addr} {o:HO} (h:b≠a):upd H a o b=H b:=by unfold upd;rw[wHD h]
theorem zBl {H:Hp} {a:Addr} {o u:HO}:upd (upd H a o) a u=upd H a u:=by funext b;unfold upd;split<;>rfl
def zFS {H:Hp} {a b:Addr} {o u:HO} (h:H a=some o) (h':H b=some u) (d:o≠u):a≠b:=by intro e;subst e;rw[h] at h';exact d (wHE h')
def zM {H:Hp} {a b:Addr} {o:HO} (h:H a=some o) (h':H b=none):a≠b:=by intro e;subst e;rw[h] at h';cases h'
section
variable (P:Program) (w:World)
def ObjOk (H:Hp) (h:Heap) (a:Addr):HO->Prop
 | .lst xs=>xs.length<=sizeLine/\∃(its:List Value) (n:Nat),zAv xs its/\h.get? a=some { cls:=.type "list",data:=.seq its.toArray n }
 | .tup xs=>xs.length<=sizeLine/\∃its:List Value,zAv xs its/\IsTup h a its.toArray
 | .dK kvs=>kvs.length<=sizeLine/\(a == sysModules)=false/\∃vs,KV kvs vs/\h.DictOf (zHL P w) a vs
 | .dT kvs=>kvs.length<=sizeLine/\(a == sysModules)=false/\∃xs:List (List Key × Addr × Value),
   Paired (λ(p:List Key × V) (q:List Key × Addr × Value)=>p.1=q.1/\H q.2.1=some (.tup (p.1.map kV))/\zAV p.2 q.2.2) kvs xs/\
   ∃o es ep,h.get? a=some o/\o.ExactDict/\o.data=.dict es ep/\es.toList=xs.map (entryOfKey (tupleKind (zHL P w)))/\(xs.map (·.1)).Nodup
 | .set S n=>h.SetOf (intKind P w) a S n
 | .ins C dx fs=>H dx=some (.own a)/\fs.length<=1000/\dx≠a/\h.get? a=some (W.instObj C dx)/\
   ∃mA,h.Ns1 dx mA/\(∀f,zHk (fs.lookup f) (mA f))/\PySem.Within mA (fs.map (·.1))
 | .own _=>∃o,h.get? a=some o
 | .xd fs=>∃mA,h.Ns1 a mA/\∀f,zHk (fs.lookup f) (mA f)
 | .rng lo hi=>∃t u v,h.get? a=some { cls:=.type "range",data:=.fields #[.int lo t,.int hi u,.int 1 v] }
 | .frz o u=>h.get? a=some o/\ObjOk H h a u
 | .tbl ps=>h.get? a=some { cls:=.none,data:=.fields ps }
 | .met f x=>h.get? a=some (W.methodObj (.ref f) (.ref x))
 | .ext φ=>φ h/\(∃o,h.get? a=some o)/\∀h1 h2:Heap,φ h1->(∀o,h1.get? a=some o->h2.get? a=some o)->φ h2
def HOk (H:Hp) (h:Heap):Prop:=∀a o,H a=some o->ObjOk P w H h a o
end
section
variable {P:Program} {w:World} {H H':Hp} {h h':Heap} {a:Addr} {o:HO}
def ObjOk.lt (x:ObjOk P w H h a o):a < h.objs.size:=by
 cases o with
 | lst xs=>obtain⟨_,_,_,_,e⟩:=x;exact wHH e
 | tup xs=>obtain⟨_,_,_,p⟩:=x;exact p.lt
 | dK kvs=>obtain⟨_,_,_,_,o,_,_,e,_⟩:=x;exact wHH e
 | dT kvs=>obtain⟨_,_,_,_,o,_,_,e,_⟩:=x;exact wHH e
 | set S n=>obtain⟨o,_,_,_,e,_⟩:=x;exact wHH e
 | ins C dx fs=>obtain⟨_,_,_,e,_⟩:=x;exact wHH e
 | own y=>obtain⟨_,e⟩:=x;exact wHH e
 | xd fs=>obtain⟨_,⟨_,_,_,e,_⟩,_⟩:=x;exact wHH e
 | rng lo hi=>obtain⟨_,_,_,e⟩:=x;exact wHH e
 | frz ob u=>obtain⟨e,_⟩:=x;exact wHH e
 | tbl ps=>exact wHH (show h.get? a=some _ from x)
 | met f y=>exact wHH (show h.get? a=some _ from x)
 | ext φ=>obtain⟨_,⟨_,e⟩,_⟩:=x;exact wHH e
theorem Paired.mapP {α β:Type} {F G:α->β->Prop}:∀{l₁:List α} {l₂:List β},Paired F l₁ l₂->(∀a b,F a b->G a b)->Paired G l₁ l₂
 | _,_,.nil,_=>.nil
 | _,_,.cons r t,f=>.cons (f _ _ r) (Paired.mapP t f)
def ObjOk.stay (x:ObjOk P w H h a o) (k:∀b u,(b=a∨H b=some (.own a))->h.get? b=some u->h'.get? b=some u)
  (ho:∀b,H b=some (.own a)->H' b=some (.own a)) (ht:∀b xs,H b=some (.tup xs)->H' b=some (.tup xs)):ObjOk P w H' h' a o:=by
 induction o with
 | lst xs=>obtain⟨z,its,n,r,e⟩:=x;exact⟨z,its,n,r,k _ _ (.inl rfl) e⟩
 | tup xs=>obtain⟨z,its,r,ob,e,c⟩:=x;exact⟨z,its,r,ob,k _ _ (.inl rfl) e,c⟩
 | dK kvs=>obtain⟨z,y,vs,r,ob,es,ep,e,c⟩:=x;exact⟨z,y,vs,r,ob,es,ep,k _ _ (.inl rfl) e,c⟩
 | dT kvs=>
  obtain⟨z,y,xs,r,ob,es,ep,e,c⟩:=x;exact⟨z,y,xs,Paired.mapP r λp q z=>⟨z.1,ht _ _ z.2.1,z.2.2⟩,ob,es,ep,k _ _ (.inl rfl) e,c⟩
 | set S n=>obtain⟨ob,es,ep,t,e,c⟩:=x;exact⟨ob,es,ep,t,k _ _ (.inl rfl) e,c⟩
 | ins C dx fs=>
  obtain⟨d,z,ne,e,mA,⟨od,es,ep,e2,c⟩,r⟩:=x;exact⟨ho _ d,z,ne,k _ _ (.inl rfl) e,mA,⟨od,es,ep,k _ _ (.inr d) e2,c⟩,r⟩
 | own y=>obtain⟨ob,e⟩:=x;exact⟨ob,k _ _ (.inl rfl) e⟩
 | xd fs=>obtain⟨mA,⟨od,es,ep,e,c⟩,r⟩:=x;exact⟨mA,⟨od,es,ep,k _ _ (.inl rfl) e,c⟩,r⟩
 | rng lo hi=>obtain⟨t,u,v,e⟩:=x;exact⟨t,u,v,k _ _ (.inl rfl) e⟩
 | frz ob u ih=>obtain⟨e,q⟩:=x;exact⟨k _ _ (.inl rfl) e,ih q⟩
 | tbl ps=>
  have e:h.get? a=some { cls:=.none,data:=.fields ps }:=x;show h'.get? a=some { cls:=.none,data:=.fields ps };exact k a _ (.inl rfl) e
 | met f y=>
  have e:h.get? a=some (W.methodObj (.ref f) (.ref y)):=x;show h'.get? a=some (W.methodObj (.ref f) (.ref y));exact k a _ (.inl rfl) e
 | ext φ=>obtain⟨p,⟨o,e⟩,st⟩:=x;exact⟨st _ _ p λo q=>k _ _ (.inl rfl) q,⟨o,k _ _ (.inl rfl) e⟩,st⟩
def HOk.lt (x:HOk P w H h) (e:H a=some o):a < h.objs.size:=(x a o e).lt
def HOk.fresh (x:HOk P w H h) (e:h.objs.size<=a):H a=none:=by
 cases q:H a with
 | none=>rfl
 | some u=>exact absurd (wHT (x.lt q) e) (Nat.lt_irrefl _)
def HOk.kept (x:HOk P w H h) (k:∀b u,h.get? b=some u->h'.get? b=some u):HOk P w H h':=λa o e=>
 (x a o e).stay (λb u _ q=>k b u q) (λ_ q=>q) λ_ _ q=>q
def HOk.laid (x:HOk P w H h) (k:∀b u,h.get? b=some u->h'.get? b=some u) (hp:h.objs.size<=a) (new:ObjOk P w (upd H a o) h' a o):HOk P w (upd H a o) h':=λb u e=>by
 have hn:=x.fresh hp;by_cases hb:b=a
 ·subst hb;rw[zB] at e;cases e;exact new
 rw[zJ hb] at e;exact (x b u e).stay (λc v _ q=>k c v q) (λc q=>by rw[zJ (zM q hn)];exact q) λc xs q=>by rw[zJ (zM q hn)];exact q
end
def Rd (H:Hp) (a:Addr) (u:HO):Prop:=H a=some u∨∃o,H a=some (.frz o u)
def Rd.of {H:Hp} {a:Addr} {u:HO} (h:H a=some u):Rd H a u:=.inl h
def Rd.ok {P:Program} {w:World} {H:Hp} {h:Heap} {a:Addr} {u:HO} (r:Rd H a u) (x:HOk P w H h):ObjOk P w H h a u:=by
 rcases r with r | ⟨o,r⟩
 ·exact x a u r
 obtain⟨_,q⟩:=x a _ r;exact q
def Mut:Option HO->Prop
 | some (.lst _)=>True
 | some (.dK _)=>True
 | some (.dT _)=>True
 | some (.set _ _)=>True
 | some (.ins _ _ _)=>True
 | some (.ext _)=>True
 | _=>False
section
variable {P:Program} {w:World} {H:Hp} {h h':Heap} {x e:Addr} {o':HO}
def HOk.write (ok:HOk P w H h) (mu:Mut (H x)) (he:e=x∨H e=some (.own x)) (k:∀b u,b≠e->h.get? b=some u->h'.get? b=some u) (fo:∃u,h'.get? e=some u)
  (new:ObjOk P w (upd H x o') h' x o'):HOk P w (upd H x o') h':=λb u q=>by
 have fO:∀c y,H c=some (.own y)->c≠x:=λc y r z=>by subst z;rw[r] at mu;exact mu
 have kR:∀c xs,H c=some (.tup xs)->c≠x:=λc xs r z=>by subst z;rw[r] at mu;exact mu
 by_cases hb:b=x
 ·subst hb;rw[zB] at q;cases q;exact new
 rw[zJ hb] at q;by_cases hbe:b=e
 ·have q':H b=some (.own x):=by
   rcases he with z | z
   ·exact absurd (hbe.trans z) hb
   rw[hbe];exact z
  rw[q] at q';cases q';obtain⟨v,hv⟩:=fo;exact⟨v,by rw[hbe];exact hv⟩
 refine (ok b u q).stay (λc v hc r=>k c v ?_ r) (λc r=>by rw[zJ (fO c b r)];exact r) λc xs r=>by rw[zJ (kR c xs r)];exact r
 rcases hc with rfl | hc
 ·exact hbe
 rintro rfl;rcases he with z | z
 ·exact fO c b hc z
 rw[hc] at z;cases z;exact hb rfl
end
structure Un (fs ex:List Addr) (H H':Hp) (h h':Heap):Prop where
 keep:∀b o,h.get? b=some o->H b=none->b∉fs->b∉ex->h'.get? b=some o
 slot:∀b o,h.get? b=some o->H b=none->b∈fs->b∉ex->∃sl,h'.get? b=some { o with slots:=sl }
 free:∀b o,h.get? b=some o->H b=none->b∉ex->H' b=none
 there:∀b o,h.get? b=some o->b∉ex->∃o',h'.get? b=some o'
 tups:∀b xs,H b=some (.tup xs)->H' b=some (.tup xs)
 frzs:∀b o u,H b=some (.frz o u)->H' b=some (.frz o u)
 tbls:∀b ps,H b=some (.tbl ps)->∃more,H' b=some (.tbl (ps++more))
section
variable {fs dH ex ex':List Addr} {H H1 H2:Hp} {h h1 h2 h':Heap} {a x e:Addr} {o:HO}
def Un.any (u:Un fs ex H H1 h h1) {b:Addr} {ob:Obj} (q:h.get? b=some ob) (n:H b=none) (hx:b∉ex):∃sl,h1.get? b=some { ob with slots:=sl }:=by
 by_cases hb:b∈fs
 ·exact u.slot b ob q n hb hx
 exact⟨ob.slots,u.keep b ob q n hb hx⟩
def Un.trans (a:Un fs ex H H1 h h1) (b:Un fs ex H1 H2 h1 h2):Un fs ex H H2 h h2 where
 keep:=λc ob q n hc hx=>b.keep c ob (a.keep c ob q n hc hx) (a.free c ob q n hx) hc hx
 slot:=λc ob q n hc hx=>by obtain⟨sl,e1⟩:=a.slot c ob q n hc hx;obtain⟨fH,e2⟩:=b.slot c _ e1 (a.free c ob q n hx) hc hx;exact⟨fH,e2⟩
 free:=λc ob q n hx=>by obtain⟨o',e1⟩:=a.there c ob q hx;exact b.free c o' e1 (a.free c ob q n hx) hx
 there:=λc ob q hx=>by obtain⟨o',e1⟩:=a.there c ob q hx;exact b.there c o' e1 hx
 tups:=λc xs q=>b.tups c xs (a.tups c xs q)
 frzs:=λc ob xs q=>b.frzs c ob xs (a.frzs c ob xs q)
 tbls:=λc ps q=>by obtain⟨m1,e1⟩:=a.tbls c ps q;obtain⟨m2,e2⟩:=b.tbls c _ e1;exact⟨m1++m2,by rw[e2,Array.append_assoc]⟩
def Un.kept (k:∀b u,h.get? b=some u->h'.get? b=some u):Un fs ex H H h h':=
 ⟨λb ob q _ _ _=>k b ob q,λb ob q _ _ _=>⟨ob.slots,k b ob q⟩,λ_ _ _ n _=>n,λb ob q _=>⟨ob,k b ob q⟩,λ_ _ q=>q,λ_ _ _ q=>q,λ_ ps q=>⟨#[],by rw[q];simp⟩⟩
def Un.refl:Un fs ex H H h h:=Un.kept λ_ _ q=>q
def Un.laid (k:∀b u,h.get? b=some u->h'.get? b=some u) (hp:h.objs.size<=a) (hn:H a=none):Un fs ex H (upd H a o) h h' where
 keep:=λb u q _ _ _=>k b u q
 slot:=λb u q _ _ _=>⟨u.slots,k b u q⟩
 free:=λb u q n _=>by rw[zJ (wHO (wHT (wHH q) hp))];exact n
 there:=λb u q _=>⟨u,k b u q⟩
 tups:=λb xs q=>by rw[zJ (zM q hn)];exact q
 frzs:=λb u xs q=>by rw[zJ (zM q hn)];exact q
 tbls:=λb ps q=>⟨#[],by rw[zJ (zM q hn),q];simp⟩
def Un.write (mu:Mut (H x)) (he:e=x∨H e=some (.own x)) (k:∀b u,b≠e->h.get? b=some u->h'.get? b=some u) (fo:∃u,h'.get? e=some u):Un fs ex H (upd H x o) h h':=by
 have hx:∀b,H b=none->b≠x:=λb n z=>by subst z;rw[n] at mu;exact mu
 have hb:∀b,H b=none->b≠e:=λb n z=>by
  subst z;rcases he with r | r
  ·exact hx b n r
  rw[n] at r;cases r
 have hm:∀b u,H b=some u->¬Mut (some u)->b≠x:=λb u q nm z=>by subst z;rw[q] at mu;exact nm mu
 refine⟨λb u q n _ _=>k b u (hb b n) q,λb u q n _ _=>⟨u.slots,k b u (hb b n) q⟩,λb u q n _=>by rw[zJ (hx b n)];exact n,λb u q _=>?_,
  λb xs q=>by rw[zJ (hm b _ q λz=>z)];exact q,λb u xs q=>by rw[zJ (hm b _ q λz=>z)];exact q,λb ps q=>⟨#[],by rw[zJ (hm b _ q λz=>z),q];simp⟩⟩
 by_cases hbe:b=e
 ·subst hbe;exact fo
 exact⟨u,k b u hbe q⟩
def Un.mono (u:Un fs ex H H1 h h1) (hs:∀b∈fs,b∈dH) (hx:∀b∈ex,b∈ex'):Un dH ex' H H1 h h1:=
 ⟨λb ob q n hb he=>u.keep b ob q n (λz=>hb (hs b z)) λz=>he (hx b z),λ_ _ q n _ he=>u.any q n λz=>he (hx _ z),λb ob q n he=>u.free b ob q n λz=>he (hx b z),λb ob q he=>u.there b ob q λz=>he (hx b z),u.tups,u.frzs,u.tbls⟩
end
def trk (h:Heap) (H:Hp):List Addr:=(List.range h.objs.size).filter λa=>(H a).isSome
def zMv (h:Heap) (H:Hp):Heap:=W.hideAll h (trk h H)
def zKM (h:Heap) (H:Hp):(zMv h H).objs.size=h.objs.size:=W.hideAll_size _ _
def zMu {h:Heap} {H:Hp} {b:Addr} {o:Obj} (e:h.get? b=some o) (n:H b=none):(zMv h H).get? b=some o:=
 W.hideAll_get _ e λhm=>by have q:(H b).isSome=true:=(List.mem_filter.mp hm).2;rw[n] at q;simp at q
def zNU {h:Heap} {H:Hp} {b:Addr} {o:Obj} (e:(zMv h H).get? b=some o):h.get? b=some o/\H b=none:=by
 have e':h.get? b=some o:=W.of_hideAll (trk h H) e;refine⟨e',?_⟩;cases q:H b with
 | none=>rfl
 | some x=>
  have hm:b∈trk h H:=List.mem_filter.mpr ⟨List.mem_range.mpr (wHH e'),by simp[q]⟩;have z:(zMv h H).get? b=none:=W.hideAll_none (trk h H) hm;rw[z] at e;cases e
def zOx (g h:Heap) (L:Addr):List (Addr × Obj):=(List.range h.objs.size).filterMap λa=>if a=L∨(g.get? a).isSome=true then none else (h.get? a).map λo=>(a,o)
def rest (g h:Heap) (L d:Addr):List (Addr × Obj):=(zOx g h L).filter λp=>decide (p.1≠d)
structure Mod (K:W.Frag) (mg:Str->Option Value) (base:Heap):Prop where
 kin:K.In base
 glob:base.Ns mainGlobals mg
 blt:∃mb,base.Ns builtinsNs mb/\∀x:Str,x≠"__name__"->mb x=bootBuiltins x
 nolimit:base.NoLimit
 seer:base.NoSeer
structure Cx where
 prog:Program
 w:World
 K:W.Frag
 mg:Str->Option Value
 base:Heap
 A:Around
 N:List Str
 s₀:Shared
 H₀:Hp
 env:Env
 outer:List Env
 stack:List Env
 ex:List Addr
 fn:Str->Bool
 calm:Bool
 pn:List (Addr × Obj)
 xe:Value->Shared->Prop
def frs (l:List Env):List Addr:=l.filterMap (·.frame)
abbrev Cx.fs (X:Cx):List Addr:=frs X.outer
def Vis (sc:Scope) (x:Str):Prop:=sc.names.lookup x=some .local∨sc.names.lookup x=some .cell∨sc.names.lookup x=some .free
def Loc (sc:Scope) (x:Str):Prop:=sc.names.lookup x=some .local∨sc.names.lookup x=some .cell
def zRD (env:Env) (h:Heap) (m:Str->Option Value) (x:Str) (u:Value):Prop:=
 (env.kindOf x=some .local/\m x=some u)∨((env.kindOf x=some .cell∨env.kindOf x=some .free)/\∃c,env.cells.lookup x=some c/\h.IsCell c (some u))
structure Cx.Ok (X:Cx):Prop where
 mod:Mod X.K X.mg X.base
 kind:X.env.scope.kind=.function
 glob:X.env.globals=mainGlobals
 blt:X.env.builtins=builtinsNs
 above:X.s₀.heap.objs.size<=X.env.locals
 inj:∀x y c,X.env.cells.lookup x=some c->X.env.cells.lookup y=some c->x=y
 has:∀x,(X.env.kindOf x=some .cell∨X.env.kindOf x=some .free)->∃c,X.env.cells.lookup x=some c
 cab:∀x c,X.fn x=true->X.env.cells.lookup x=some c->X.s₀.heap.objs.size<=c
 hd:X.calm=true->X.A.handled=none
 frames:X.A.frames=some X.stack
 stk:X.stack=X.outer∨(X.stack=X.env::X.outer/\X.env.frame=some X.env.locals)
 exf:∀b∈X.ex,b≠X.env.locals/\∀x c,X.env.cells.lookup x=some c->c≠b
 bs:∀b o,X.base.get? b=some o->X.s₀.heap.get? b=some o/\X.H₀ b=none
 bsz:X.base.objs.size<=X.s₀.heap.objs.size
 noex:∀b o,X.base.get? b=some o->b∉X.ex
 exfs:∀b∈X.ex,b∉X.fs
 funs:X.s₀.heap.FunFrames X.base X.outer
 frf:∀b∈X.fs,X.H₀ b=none
structure Inv (X:Cx) (pins:List (Addr × Obj)) (σ:List (Option V)) (H:Hp) (s:Shared):Prop where
 ok:X.Ok
 os:s.os=X.s₀.os
 bare:AllBare s.gens
 base:Un X.fs X.ex X.H₀ H X.s₀.heap s.heap
 loc:∃m,s.heap.Ns X.env.locals m/\∀(i:Nat) (x:Str) (v:V),X.N[i]?=some x->σ[i]?=some (some v)->Vis X.env.scope x->∃u,zAV v u/\zRD X.env s.heap m x u
 cell:∀x c,X.env.cells.lookup x=some c->∃v,s.heap.IsCell c v
 free:H X.env.locals=none
 freeC:∀x c,X.env.cells.lookup x=some c->H c=none
 pin:∀p∈X.pn++pins,s.heap.get? p.1=some p.2/\H p.1=none/\p.1≠X.env.locals/\p.1∉X.fs/\∀v,p.2.data≠.cell v
 hok:HOk X.prog X.w H s.heap
 len:σ.length=X.N.length
section
variable {X:Cx} {pins:List (Addr × Obj)} {σ:List (Option V)} {H H':Hp} {s:Shared} {h':Heap}
def Cx.Ok.nofr (ok:X.Ok) {b:Addr} {o:Obj} (e:X.base.get? b=some o):b∉X.fs:=λhb=>by have:=(ok.funs.mem hb).1;rw[e] at this;cases this
def Inv.bs (I:Inv X pins σ H s):∀b o,X.base.get? b=some o->s.heap.get? b=some o/\H b=none:=λb o e=>
 ⟨I.base.keep b o (I.ok.bs b o e).1 (I.ok.bs b o e).2 (I.ok.nofr e) (I.ok.noex b o e),I.base.free b o (I.ok.bs b o e).1 (I.ok.bs b o e).2 (I.ok.noex b o e)⟩
def Inv.bk (I:Inv X pins σ H s):∀b o,X.base.get? b=some o->s.heap.get? b=some o:=λb o e=>(I.bs b o e).1
def Inv.mod (I:Inv X pins σ H s):Mod X.K X.mg X.base:=I.ok.mod
def Inv.kIn (I:Inv X pins σ H s):X.K.In s.heap:=I.ok.mod.kin.keeps I.bk
def Inv.nolimit (I:Inv X pins σ H s):s.heap.NoLimit:=I.ok.mod.nolimit.keeps I.bk
def Inv.lt (I:Inv X pins σ H s):X.env.locals < s.heap.objs.size:=let ⟨_,hn,_⟩:=I.loc;hn.lt
def Inv.sz (I:Inv X pins σ H s):X.s₀.heap.objs.size<=s.heap.objs.size:=wHI I.ok.above (wIC I.lt)
def Inv.nofs (I:Inv X pins σ H s) {a:Addr} (h:s.heap.objs.size<=a):a∉X.fs:=λhb=>by obtain⟨_,o,ho,_⟩:=I.ok.funs.mem hb;exact absurd (wHT (wHH ho) (wHI I.sz h)) (Nat.lt_irrefl _)
def Inv.cne (I:Inv X pins σ H s):∀x c,X.env.cells.lookup x=some c->c≠X.env.locals:=λx c e z=>by obtain⟨v,o,ho,hd⟩:=I.cell x c e;obtain⟨m,⟨o',es,ep,bS,bQ,_⟩,_⟩:=I.loc;rw[z,bS] at ho;cases ho;rw[bQ] at hd;cases hd
def Inv.funs (I:Inv X pins σ H s):s.heap.FunFrames X.base X.outer:=by
 have all:∀(l:List Env),(∀b∈frs l,b∈X.fs)->X.s₀.heap.FunFrames X.base l->s.heap.FunFrames X.base l:=by
  intro l
  induction l with
  | nil=>intro _ _;trivial
  | cons env r ih=>
   intro hs hl;obtain⟨hk,⟨L,o,hf,hn,ho,hd⟩,hr⟩:=hl;have hL:L∈X.fs:=hs L (by unfold frs;rw[List.filterMap_cons,hf];exact wIg);obtain⟨sl,e⟩:=I.base.slot L o ho (I.ok.frf L hL) hL λz=>I.ok.exfs L z hL;exact⟨hk,⟨L,_,hf,hn,e,hd⟩,ih (λb hb=>hs b (by unfold frs;rw[List.filterMap_cons,hf];exact wHV _ hb)) hr⟩
 exact all X.outer (λ_ hb=>hb) I.ok.funs
def Inv.stack (I:Inv X pins σ H s):s.heap.FunFrames X.base X.stack:=by
 rcases I.ok.stk with e | ⟨e,hf⟩
 ·rw[e];exact I.funs
 rw[e];obtain⟨m,hn,_⟩:=I.loc;refine .cons (by rw[I.ok.kind];decide) hf hn ?_ I.funs;exact wIF (wHI I.ok.bsz I.ok.above)
def Inv.stkSub (I:Inv X pins σ H s):∀b∈frs X.stack,b∈X.env.locals::X.fs:=λb hb=>by
 rcases I.ok.stk with e | ⟨e,hf⟩
 ·rw[e] at hb;exact wHV _ hb
 rw[e] at hb;unfold frs at hb;rw[List.filterMap_cons,hf] at hb;exact hb
def Inv.stkFree (I:Inv X pins σ H s):∀b∈frs X.stack,H b=none:=λb hb=>by
 rcases wIQ (I.stkSub b hb) with e | hb
 ·rw[e];exact I.free
 obtain⟨_,o,ho,_⟩:=I.ok.funs.mem hb;exact I.base.free b o ho (I.ok.frf b hb) λz=>I.ok.exfs b z hb
def Inv.step {g':Array GenState} {t':Nat} {d':Drawn} {ch:List Addr} (I:Inv X pins σ H s)
  (cM:∀b∈ch,(b∈X.ex∨X.s₀.heap.objs.size<=b)/\b≠X.env.locals/\(∀x c,X.env.cells.lookup x=some c->c≠b)/\∀p∈X.pn++pins,p.1≠b)
  (keep:∀b o,b≠X.env.locals->b∉X.fs->b∉ch->s.heap.get? b=some o->H b=none->h'.get? b=some o)
  (slot:∀b o,b≠X.env.locals->b∈X.fs->b∉ch->s.heap.get? b=some o->H b=none->∃sl,h'.get? b=some { o with slots:=sl }) (free:∀b o,b∉ch->s.heap.get? b=some o->H b=none->H' b=none)
  (there:∀b o,b∉ch->s.heap.get? b=some o->∃o',h'.get? b=some o')
  (tups:∀b xs,H b=some (.tup xs)->H' b=some (.tup xs)) (frzs:∀b o u,H b=some (.frz o u)->H' b=some (.frz o u)) (tbls:∀b ps,H b=some (.tbl ps)->∃more,H' b=some (.tbl (ps++more)))
  (ns:∀m,s.heap.Ns X.env.locals m->h'.Ns X.env.locals m) (hok:HOk X.prog X.w H' h') (hg:AllBare g') :
  Inv X pins σ H' { s with heap:=h',gens:=g',drawn:=d',toks:=t' }:=by
 have neL:∀b o,X.s₀.heap.get? b=some o->b≠X.env.locals:=λb o e=>wHO (wHT (wHH e) I.ok.above);have iA:∀b o,X.s₀.heap.get? b=some o->b∉X.ex->b∉ch:=λb o e hx hb=>by
  rcases (cM b hb).1 with z | z
  ·exact hx z
  exact absurd (wHT (wHH e) z) (Nat.lt_irrefl _)
 have cellK:∀x c,X.env.cells.lookup x=some c->∀v,s.heap.IsCell c v->h'.IsCell c v:=λx c e v ⟨o,ho,hd⟩=>by
  have bT:c∉ch:=λz=>(cM c z).2.2.1 x c e rfl;by_cases hc:c∈X.fs
  ·obtain⟨sl,q⟩:=slot c o (I.cne x c e) hc bT ho (I.freeC x c e);exact⟨_,q,hd⟩
  exact⟨o,keep c o (I.cne x c e) hc bT ho (I.freeC x c e),hd⟩
 refine⟨I.ok,I.os,hg,⟨λb o e n hb hx=>?_,λb o e n hb hx=>?_,λb o e n hx=>?_,λb o e hx=>?_,λb xs e=>tups b xs (I.base.tups b xs e),λb o xs e=>frzs b o xs (I.base.frzs b o xs e),λb ps e=>?_⟩,?_,λx c e=>?_,?_,λx c e=>?_,λp hp=>?_,hok,I.len⟩
 ·exact keep b o (neL b o e) hb (iA b o e hx) (I.base.keep b o e n hb hx) (I.base.free b o e n hx)
 ·obtain⟨sl,e1⟩:=I.base.slot b o e n hb hx;obtain⟨fH,e2⟩:=slot b _ (neL b o e) hb (iA b o e hx) e1 (I.base.free b o e n hx);exact⟨fH,e2⟩
 ·obtain⟨o',e1⟩:=I.base.there b o e hx;exact free b o' (iA b o e hx) e1 (I.base.free b o e n hx)
 ·obtain⟨o',e1⟩:=I.base.there b o e hx;exact there b o' (iA b o e hx) e1
 ·obtain⟨m1,e1⟩:=I.base.tbls b ps e;obtain⟨m2,e2⟩:=tbls b _ e1;exact⟨m1++m2,by rw[e2,Array.append_assoc]⟩
 ·obtain⟨m,hn,hl⟩:=I.loc;refine⟨m,ns m hn,λi x v e1 e2 e3=>?_⟩;obtain⟨u,r,l⟩:=hl i x v e1 e2 e3;refine⟨u,r,?_⟩;rcases l with l | ⟨k,c,e,z⟩
  ·exact .inl l
  exact .inr ⟨k,c,e,cellK x c e _ z⟩
 ·obtain⟨v,z⟩:=I.cell x c e;exact⟨v,cellK x c e v z⟩
 ·obtain⟨m,⟨o,_,_,ho,_⟩,_⟩:=I.loc;exact free _ o (λz=>(cM _ z).2.1 rfl) ho I.free
 ·obtain⟨v,o,ho,hd⟩:=I.cell x c e;exact free c o (λz=>(cM c z).2.2.1 x c e rfl) ho (I.freeC x c e)
 obtain⟨e,n,ne,nf,d⟩:=I.pin p hp;have bT:p.1∉ch:=λz=>(cM p.1 z).2.2.2 p hp rfl;exact⟨keep p.1 p.2 ne nf bT e n,free p.1 p.2 bT e n,ne,nf,d⟩
def Inv.un {t':Nat} (I:Inv X pins σ H s) (u:Un X.fs [] H H' s.heap h') (hok:HOk X.prog X.w H' h'):Inv X pins σ H' { s with heap:=h',toks:=t' }:=by
 obtain⟨m,⟨o,es,ep,ho,r⟩,_⟩:=id I.loc;obtain⟨sl,hL⟩:=u.any ho I.free (by simp);exact I.step (g':=s.gens) (d':=s.drawn) (ch:=[]) (λ_ z=>nomatch z) (λb o _ hb _ e n=>u.keep b o e n hb (by simp)) (λb o _ hb _ e n=>u.slot b o e n hb (by simp)) (λb o _ e n=>u.free b o e n (by simp)) (λb o _ e=>u.there b o e (by simp)) u.tups u.frzs u.tbls (λm' hm=>by obtain⟨o',bE,mX,bS,r'⟩:=hm;rw[ho] at bS;cases bS;exact⟨_,bE,mX,hL,r'⟩) hok I.bare
def Inv.call {g':Array GenState} {t':Nat} {d':Drawn} {ch:List Addr} (I:Inv X pins σ H s) (u:Un (frs X.stack) ch H H' s.heap h') (hok:HOk X.prog X.w H' h') (hg:AllBare g')
  (cM:∀b∈ch,(b∈X.ex∨X.s₀.heap.objs.size<=b)/\b≠X.env.locals/\(∀x c,X.env.cells.lookup x=some c->c≠b)/\∀p∈X.pn++pins,p.1≠b) :
  Inv X pins σ H' { s with heap:=h',gens:=g',drawn:=d',toks:=t' }:=by
 obtain⟨m,⟨o,es,ep,ho,r⟩,_⟩:=id I.loc;obtain⟨sl,hL⟩:=u.any ho I.free λz=>(cM _ z).2.1 rfl;exact I.step (ch:=ch) cM (λb o hL hb hc e n=>u.keep b o e n (λz=>(wIQ (I.stkSub b z)).elim hL hb) hc) (λb o _ _ hc e n=>u.any e n hc) (λb o hc e n=>u.free b o e n hc) (λb o hc e=>u.there b o e hc) u.tups u.frzs u.tbls (λm' hm=>by obtain⟨o',bE,mX,bS,r'⟩:=hm;rw[ho] at bS;cases bS;exact⟨_,bE,mX,hL,r'⟩) hok hg
def Inv.turned {t':Nat} {it:Addr} (I:Inv X pins σ H s) (k:∀b o,b≠it->s.heap.get? b=some o->h'.get? b=some o) (hn:H it=none) (hL:it≠X.env.locals)
  (h1:it∈X.ex∨X.s₀.heap.objs.size<=it) (h2:∀x c,X.env.cells.lookup x=some c->c≠it) (h3:∀p∈X.pn++pins,p.1≠it):Inv X pins σ H { s with heap:=h',toks:=t' }:=by
 have nit:∀b u,H b=some u->b≠it:=λb u e z=>by rw[z,hn] at e;cases e
 refine I.step (g':=s.gens) (d':=s.drawn) (ch:=[it]) (λb hb=>?_) (λb o _ _ hc e _=>k b o (λz=>hc (by simp[z])) e) (λb o _ _ hc e _=>⟨o.slots,k b o (λz=>hc (by simp[z])) e⟩) (λ_ _ _ _ n=>n)
  (λb o hc e=>⟨o,k b o (λz=>hc (by simp[z])) e⟩) (λ_ _ e=>e) (λ_ _ _ e=>e) (λb ps e=>⟨#[],by rw[e];simp⟩) (λm hm=>?_) (λb u e=>?_) I.bare
 ·have e:b=it:=by simpa using hb
  subst e;exact⟨h1,hL,h2,h3⟩
 ·obtain⟨o,es,ep,ho,r⟩:=hm;exact⟨o,es,ep,k _ o (Ne.symm hL) ho,r⟩
 refine (I.hok b u e).stay (λc v hc q=>k c v ?_ q) (λ_ q=>q) λ_ _ q=>q;rcases hc with z | z
 ·rw[z];exact nit b u e
 exact nit c _ z
def Inv.tok (I:Inv X pins σ H s) (t:Nat):Inv X pins σ H { s with toks:=t }:=I.un (h':=s.heap) (t':=t) Un.refl I.hok
def Inv.kept {t':Nat} (I:Inv X pins σ H s) (k:∀b u,s.heap.get? b=some u->h'.get? b=some u):Inv X pins σ H { s with heap:=h',toks:=t' }:=I.un (Un.kept k) (I.hok.kept k)
def Inv.laid {a:Addr} {o:HO} {t':Nat} (I:Inv X pins σ H s) (k:∀b u,s.heap.get? b=some u->h'.get? b=some u) (hp:s.heap.objs.size<=a) (new:ObjOk X.prog X.w (upd H a o) h' a o) :
  Inv X pins σ (upd H a o) { s with heap:=h',toks:=t' }:=I.un (Un.laid k hp (I.hok.fresh hp)) (I.hok.laid k hp new)
def Inv.write {x e:Addr} {o:HO} {t':Nat} (I:Inv X pins σ H s) (mu:Mut (H x)) (he:e=x∨H e=some (.own x)) (k:∀b u,b≠e->s.heap.get? b=some u->h'.get? b=some u) (fo:∃u,h'.get? e=some u)
  (new:ObjOk X.prog X.w (upd H x o) h' x o):Inv X pins σ (upd H x o) { s with heap:=h',toks:=t' }:=I.un (Un.write mu he k fo) (I.hok.write mu he k fo new)
def Inv.pins_of {dN:List (Addr × Obj)} (I:Inv X pins σ H s) (h:∀p∈dN,s.heap.get? p.1=some p.2/\H p.1=none/\p.1≠X.env.locals/\p.1∉X.fs/\∀v,p.2.data≠.cell v):Inv X dN σ H s:=
 ⟨I.ok,I.os,I.bare,I.base,I.loc,I.cell,I.free,I.freeC,λp hp=>(wIP hp).elim (λz=>I.pin p (List.mem_append_left _ z)) (h p),I.hok,I.len⟩
def zFR {N:List Str} (hN:N.Nodup) {i j:Nat} {x:Str} (a:N[i]?=some x) (b:N[j]?=some x):i=j:=by obtain⟨h1,e1⟩:=wIL a;obtain⟨h2,e2⟩:=wIL b;exact (List.getElem_inj hN).mp (e1.trans e2.symm)
def zJB {M:Model} {A:Around} {E:Value->Shared->Prop} {i:Nat} {x:Str} {v:V} {u:Value} {Q:Unit->Shared->Prop} (I:Inv X pins σ H s) (hN:X.N.Nodup) (hi:X.N[i]?=some x) (hx:Loc X.env.scope x) (r:zAV v u)
  (h:∀s',Inv X pins (σ.set i (some v)) H s'->(∃a,Heap.SameBut a s.heap s'.heap/\(a=X.env.locals∨X.env.cells.lookup x=some a))->Q PUnit.unit s') (hf:X.fn x=true∨X.env.scope.names.lookup x=some .local:=by first | exact .inl rfl | exact .inr rfl | assumption):wpAny M A (storeName X.env x u) Q E s:=by
 obtain⟨m,hn,hl⟩:=id I.loc;have eS:(X.env.scope.kind == .class || (X.env.scope.kind == .module && X.env.locals != X.env.globals))=false:=by rw[I.ok.kind];rfl
 have hiσ:i < σ.length:=by rw[I.len];exact (wIL hi).1
 have cne:=I.cne;have tracked:∀{a:Addr} {h':Heap},(∃o,s.heap.get? a=some o/\H a=none)->Heap.SameBut a s.heap h'->HOk X.prog X.w H h':=λ{a h'} ha hs b ob e=>by
  obtain⟨_,_,dY⟩:=ha;refine (I.hok b ob e).stay (λc w' hc q=>(hs.2 c ?_).trans q) (λ_ q=>q) λ_ _ q=>q;rintro rfl;rcases hc with rfl | hc
  ·rw[dY] at e;cases e
  rw[dY] at hc;cases hc
 rcases hx with hk | hk
 ·refine wpAny_storeName_local hk hn (λh' fk hs=>?_) eS;obtain⟨oL,_,_,hoL,_⟩:=id hn;refine h _ ⟨I.ok,I.os,I.bare,⟨λb o e n hb hx=>?_,λb o e n hb hx=>?_,I.base.free,λb o e hx=>?_,I.base.tups,I.base.frzs,I.base.tbls⟩,⟨_,fk,λj y v' e1 e2 e3=>?_⟩,λy c e=>?_,I.free,I.freeC,λp hp=>?_,tracked ⟨oL,hoL,I.free⟩ hs,by simpa using I.len⟩ ⟨_,hs,.inl rfl⟩
  ·exact (hs.2 b (wHO (wHT (wHH e) I.ok.above))).trans (I.base.keep b o e n hb hx)
  ·obtain⟨sl,e1⟩:=I.base.slot b o e n hb hx;exact⟨sl,(hs.2 b (wHO (wHT (wHH e) I.ok.above))).trans e1⟩
  ·obtain⟨o',e1⟩:=I.base.there b o e hx;exact⟨o',(hs.2 b (wHO (wHT (wHH e) I.ok.above))).trans e1⟩
  ·by_cases hj:j=i
   ·subst hj;rw[hi] at e1;cases e1;rw[List.getElem?_set_self hiσ] at e2;cases e2;exact⟨u,r,.inl ⟨hk,by simp⟩⟩
   rw[List.getElem?_set_ne (Ne.symm hj)] at e2;obtain⟨u',r',q⟩:=hl j y v' e1 e2 e3;refine⟨u',r',?_⟩;rcases q with ⟨k,e⟩ | ⟨k,c,e,z⟩
   ·refine .inl ⟨k,?_⟩;have:y≠x:=λe=>hj (zFR hN e1 (e ▸ hi));simp[this,e]
   exact .inr ⟨k,c,e,z.sameBut hs (cne y c e)⟩
  ·obtain⟨w',z⟩:=I.cell y c e;exact⟨w',z.sameBut hs (cne y c e)⟩
  obtain⟨e,n,ne,nf,d⟩:=I.pin p hp;exact⟨(hs.2 p.1 ne).trans e,n,ne,nf,d⟩
 have lW:X.fn x=true:=by
  rcases hf with z | z
  ·exact z
  rw[z] at hk;cases hk
 obtain⟨c,hc⟩:=I.ok.has x (.inl hk);obtain⟨w',z⟩:=I.cell x c hc;refine wpAny_storeName_cell I.ok.kind hk hc z (λh' gJ hs=>?_);obtain⟨oc,iG,lJ⟩:=id z;refine h { s with heap:=h' } ⟨I.ok,I.os,I.bare,⟨λb o e n hb hx=>?_,λb o e n hb hx=>?_,I.base.free,λb o e hx=>?_,I.base.tups,I.base.frzs,I.base.tbls⟩,⟨m,hn.sameBut hs (Ne.symm (cne x c hc)),λj y v' e1 e2 e3=>?_⟩,λy c' e=>?_,I.free,I.freeC,λp hp=>?_,tracked ⟨oc,iG,I.freeC x c hc⟩ hs,by simpa using I.len⟩ ⟨c,hs,.inr hc⟩
 ·exact (hs.2 b (wHO (wHT (wHH e) (I.ok.cab x c lW hc)))).trans (I.base.keep b o e n hb hx)
 ·obtain⟨sl,e1⟩:=I.base.slot b o e n hb hx;exact⟨sl,(hs.2 b (wHO (wHT (wHH e) (I.ok.cab x c lW hc)))).trans e1⟩
 ·obtain⟨o',e1⟩:=I.base.there b o e hx;exact⟨o',(hs.2 b (wHO (wHT (wHH e) (I.ok.cab x c lW hc)))).trans e1⟩
 ·by_cases hj:j=i
  ·subst hj;rw[hi] at e1;cases e1;rw[List.getElem?_set_self hiσ] at e2;cases e2;exact⟨u,r,.inr ⟨.inl hk,c,hc,gJ⟩⟩
  rw[List.getElem?_set_ne (Ne.symm hj)] at e2;obtain⟨u',r',q⟩:=hl j y v' e1 e2 e3;refine⟨u',r',?_⟩;rcases q with q | ⟨k,c',e,z'⟩
  ·exact .inl q
  refine .inr ⟨k,c',e,z'.sameBut hs ?_⟩;rintro rfl;exact hj (zFR hN e1 (I.ok.inj _ _ _ e hc ▸ hi))
 ·by_cases hcc:c'=c
  ·subst hcc;exact⟨_,gJ⟩
  obtain⟨w2,z2⟩:=I.cell y c' e;exact⟨w2,z2.sameBut hs hcc⟩
 obtain⟨e,n,ne,nf,d⟩:=I.pin p hp;refine⟨(hs.2 p.1 ?_).trans e,n,ne,nf,d⟩;intro q;rw[q,iG] at e;have q':oc=p.2:=wHE e;exact d w' (by rw[← q'];exact lJ)
def zDP {M:Model} {A:Around} {E:Value->Shared->Prop} {i:Nat} {x:Str} {v:V} {u:Value} {Q:Unit->Shared->Prop} (I:Inv X pins σ H s) (hN:X.N.Nodup) (hi:X.N[i]?=some x) (hx:Loc X.env.scope x) (r:zAV v u)
  (h:∀s',Inv X pins (σ.set i (some v)) H s'->Q PUnit.unit s') (hf:X.fn x=true∨X.env.scope.names.lookup x=some .local:=by first | exact .inl rfl | exact .inr rfl | assumption):wpAny M A (storeName X.env x u) Q E s:=
 zJB I hN hi hx r (λs' I' _=>h s' I') hf
def Inv.call' {s':Shared} {ch:List Addr} (I:Inv X pins σ H s) (ho:s'.os=s.os) (u:Un (frs X.stack) ch H H' s.heap s'.heap) (hok:HOk X.prog X.w H' s'.heap) (hg:AllBare s'.gens)
  (cM:∀b∈ch,(b∈X.ex∨X.s₀.heap.objs.size<=b)/\b≠X.env.locals/\(∀x c,X.env.cells.lookup x=some c->c≠b)/\∀p∈X.pn++pins,p.1≠b):Inv X pins σ H' s':=by
 obtain⟨h',g',d',t',o'⟩:=s';have e:o'=s.os:=ho;subst e;exact I.call (g':=g') (t':=t') (d':=d') u hok hg cM
end
abbrev XK:=Value->Option Addr->Hp->Prop
abbrev St:=List (Option V)
abbrev VK:=V->Hp->Prop
abbrev TE:=St->Hp->VK->Prop
abbrev TT:=St->Hp->(Bool->Hp->Prop)->Prop
abbrev TA:=St->Hp->(List V->Hp->Prop)->Prop
structure Ends where
 nx:St->Hp->Prop
 rt:VK
 bk:St->Hp->Prop:=λ_ _=>False
 ct:St->Hp->Prop:=λ_ _=>False
abbrev TS:=Ends->St->Hp->Prop
def EP (X:Cx) (pins:List (Addr × Obj)) (σ:St) (Q:VK) (u:Value) (s':Shared):Prop:=∃v H',Inv X pins σ H' s'/\zAV v u/\Q v H'
def TP (X:Cx) (pins:List (Addr × Obj)) (σ:St) (Q:Bool->Hp->Prop) (b:Bool) (s':Shared):Prop:=∃H',Inv X pins σ H' s'/\Q b H'
def AP (X:Cx) (pins:List (Addr × Obj)) (σ:St) (Q:List V->Hp->Prop) (us:List Value) (s':Shared):Prop:=∃vs H',Inv X pins σ H' s'/\zAv vs us/\Q vs H'
def SP (X:Cx) (pins:List (Addr × Obj)) (D:Ends) (f:Flow) (s':Shared):Prop:=
 match f with
 | .next=>∃σ' H',Inv X pins σ' H' s'/\D.nx σ' H'
 | .brk=>∃σ' H',Inv X pins σ' H' s'/\D.bk σ' H'
 | .cont=>∃σ' H',Inv X pins σ' H' s'/\D.ct σ' H'
 | .ret u=>∃v σ' H',Inv X pins σ' H' s'/\zAV v u/\D.rt v H'
def PE (X:Cx) (e:Expr) (t:TE):Prop:=
 ∀(pins:List (Addr × Obj)) (s:Shared) (σ:St) (H:Hp) (Q:VK),Inv X pins σ H s->t σ H Q->wpAny (model X.prog X.w) X.A (eval e X.env) (EP X pins σ Q) X.xe s
def PT (X:Cx) (e:Expr) (t:TT):Prop:=
 ∀(pins:List (Addr × Obj)) (s:Shared) (σ:St) (H:Hp) (Q:Bool->Hp->Prop),Inv X pins σ H s->t σ H Q->wpAny (model X.prog X.w) X.A (isTrue e X.env (eval e X.env)) (TP X pins σ Q) X.xe s
def PW (X:Cx) (e:Expr) (t:TT):Prop:=
 ∀(whole:Sem Value) (pins:List (Addr × Obj)) (s:Shared) (σ:St) (H:Hp) (Q:Bool->Hp->Prop),Inv X pins σ H s->t σ H Q->wpAny (model X.prog X.w) X.A (isTrue e X.env whole) (TP X pins σ Q) X.xe s
def PW.pt {X:Cx} {e:Expr} {t:TT} (h:PW X e t):PT X e t:=h _
def PA (X:Cx) (es:List Expr) (t:TA):Prop:=
 ∀(pos:Pos) (pins:List (Addr × Obj)) (s:Shared) (σ:St) (H:Hp) (Q:List V->Hp->Prop),Inv X pins σ H s->t σ H Q->wpAny (model X.prog X.w) X.A (spliced (backTo pos (starEach es X.env))) (AP X pins σ Q) X.xe s
def PS (X:Cx) (st:Stmt) (t:TS):Prop:=
 ∀(pins:List (Addr × Obj)) (s:Shared) (σ:St) (H:Hp) (D:Ends),Inv X pins σ H s->t D σ H->wpAny (model X.prog X.w) X.A (exec st X.env) (SP X pins D) X.xe s
def PSs (X:Cx) (st:List Stmt) (t:TS):Prop:=
 ∀(pins:List (Addr × Obj)) (s:Shared) (σ:St) (H:Hp) (D:Ends),Inv X pins σ H s->t D σ H->wpAny (model X.prog X.w) X.A (execs st X.env) (SP X pins D) X.xe s
def thn {α:Type} {t:Sem α} {Q Q':α->Shared->Prop} {M:Model} {A:Around} {E:Value->Shared->Prop} {s:Shared} (h:wpAny M A t Q E s) (hQ:∀a s,Q a s->Q' a s):wpAny M A t Q' E s:=wH4 h hQ λ_ _ x=>x
section
variable {X:Cx}
inductive VarAt (i:Nat) (σ:St) (H:Hp) (Q:VK):Prop
 | mk (v:_):(σ[i]?=some (some v))->Q v H->VarAt i σ H Q
def zQi (i:Nat):TE:=λσ H Q=>VarAt i σ H Q
def tC (v:V):TE:=λ_ H Q=>Q v H
def zPl {i:Nat} {x:Str} {pos:Pos} (hN:X.N[i]?=some x) (hv:Vis X.env.scope x) (hd:(x == ("__debug__":Str))=false:=by decide) (aO:(x == ("__classdict__":Str))=false:=by decide):PE X (.Name x pos) (zQi i):=by
 intro pins s σ H Q I h;obtain⟨v,e,h⟩:=h;obtain⟨m,hn,hl⟩:=I.loc;obtain⟨u,r,l⟩:=hl i x v hN e hv;have fin:EP X pins σ Q u s:=⟨v,H,I,r,h⟩;rcases l with ⟨hk,hm⟩ | ⟨hk,c,hc,aV⟩
 ·exact wpAny_Name (wpAny_loadName_local I.ok.kind hk hn hm fin) hd
 rcases hk with hk | hk
 ·exact wpAny_Name (wpAny_loadName_cell I.ok.kind hk hc aV fin) hd
 exact wpAny_Name (wpAny_loadName_free I.ok.kind hk hc aV fin aO) hd
def zF {i j pos}:PE X (.Constant (.int i) j pos) (tC (.int i)):=λ_ _ _ H _ I h=>wpAny_Constant_int ⟨.int i,H,I.tok _,⟨_,rfl⟩,h⟩
def zHD {b j pos}:PE X (.Constant (.bool b) j pos) (tC (.bl b)):=λ_ _ _ H _ I h=>Constant_bool ⟨.bl b,H,I,rfl,h⟩
def zMO {j pos}:PE X (.Constant .none j pos) (tC .non):=λ_ _ _ H _ I h=>Constant_none ⟨.non,H,I,rfl,h⟩
def zT {x j pos}:PE X (.Constant (.str x) j pos) (tC (.str x)):=λ_ _ _ H _ I h=>Calls.Constant_str ⟨.str x,H,I.tok _,⟨_,rfl⟩,h⟩
def Gl (X:Cx) (x:Str):Prop:=X.env.kindOf x=some .globalImplicit
def zBA {E:Value->Shared->Prop} {pins:List (Addr × Obj)} {s:Shared} {σ:St} {H:Hp} {x:Str} {u:Value} {pos:Pos} {Q:Value->Shared->Prop} (I:Inv X pins σ H s) (hg:Gl X x) (hm:X.mg x=some u) (h:Q u s)
  (hd:(x == ("__debug__":Str))=false:=by decide):wpAny (model X.prog X.w) X.A (eval (.Name x pos) X.env) Q E s:=
 Calls.Name_function_global I.ok.kind hg (Calls.loadGlobal_global (by rw[I.ok.glob];exact I.mod.glob.keeps I.bk) hm h) hd
def zE7 {E:Value->Shared->Prop} {pins:List (Addr × Obj)} {s:Shared} {σ:St} {H:Hp} {x:Str} {u:Value} {pos:Pos} {Q:Value->Shared->Prop} (I:Inv X pins σ H s) (hg:Gl X x) (hm:X.mg x=none) (hv:bootBuiltins x=some u) (h:Q u s)
  (hn:x≠"__name__":=by decide) (hd:(x == ("__debug__":Str))=false:=by decide):wpAny (model X.prog X.w) X.A (eval (.Name x pos) X.env) Q E s:=by
 obtain⟨mb,h1,h2⟩:=I.mod.blt;exact Calls.Name_function_global I.ok.kind hg (Calls.loadGlobal_builtin (by rw[I.ok.glob];exact I.mod.glob.keeps I.bk) hm (by rw[I.ok.blt];exact h1.keeps I.bk) ((h2 x hn).trans hv) h) hd
def zAn {x:Str} {v:V} {u:Value} {pos:Pos} (hg:Gl X x) (hm:X.mg x=some u) (r:zAV v u) (hd:(x == ("__debug__":Str))=false:=by decide):PE X (.Name x pos) (tC v):=
 λ_ _ _ H _ I h=>zBA I hg hm ⟨v,H,I,r,h⟩ hd
def zNL {x:Str} {v:V} {u:Value} {pos:Pos} (hg:Gl X x) (hm:X.mg x=none) (hv:bootBuiltins x=some u) (r:zAV v u) (hn:x≠"__name__":=by decide) (hd:(x == ("__debug__":Str))=false:=by decide):PE X (.Name x pos) (tC v):=
 λ_ _ _ H _ I h=>zE7 I hg hm hv ⟨v,H,I,r,h⟩ hn hd
variable {a b:Expr} {ta tb:TE} {pos:Pos}
inductive IsB (Q:Bool->Hp->Prop) (x:V) (H1:Hp):Prop
 | mk (c:_):(x=.bl c)->Q c H1->IsB Q x H1
def tB (t:TE):TT:=λσ H Q=>t σ H λx H1=>IsB Q x H1
def zAM {e:Expr} {t:TE} (h:PE X e t) (he:∀whole,isTrue e X.env whole=(do let v ← whole;standAt e.pos;holding [v] (truthy v)):=by intro _;rfl):PT X e (tB t):=by intro pins s σ H Q I hw;refine isTrue_plain (thn (h pins s σ H _ I hw) λv s1 ⟨x,H1,I1,r1,q1⟩=>?_) (he _);obtain⟨d,rfl,q⟩:=q1;cases r1;exact wpAny_truthy_bool ⟨H1,I1,q⟩
variable {tA hU:TT} {rest:List Expr}
def zRp (t u:TT):TT:=λσ H Q=>t σ H λc H1=>if c=true then u σ H1 Q else Q false H1
def tOr (t u:TT):TT:=λσ H Q=>t σ H λc H1=>if c=true then Q true H1 else u σ H1 Q
def zRj (t:TT):TT:=λσ H Q=>t σ H λc H1=>Q (!c) H1
def zCt (ha:PT X a tA):PW X (.BoolOp .And [a] pos) tA:=by
 intro wh pins s σ H Q I h;refine isTrue_and (thn (ha pins s σ H Q I h) λc s1 e=>?_);cases c with
 | true=>exact isTrue_and_nil e
 | false=>exact e
def zIh (ha:PT X a tA):PW X (.BoolOp .Or [a] pos) tA:=by
 intro wh pins s σ H Q I h;refine isTrue_or (thn (ha pins s σ H Q I h) λc s1 e=>?_);cases c with
 | false=>exact isTrue_or_nil e
 | true=>exact e
def zCV (ha:PT X a tA) (hb:PW X (.BoolOp .And (b::rest) pos) hU):PW X (.BoolOp .And (a::b::rest) pos) (zRp tA hU):=by
 intro wh pins s σ H Q I h;refine isTrue_and (thn (ha pins s σ H _ I h) λc s1 aA=>?_);obtain⟨H1,I1,q1⟩:=aA;cases c with
 | true=>exact hb wh pins s1 σ H1 Q I1 q1
 | false=>exact⟨H1,I1,q1⟩
def zLQ (ha:PT X a tA) (hb:PW X (.BoolOp .Or (b::rest) pos) hU):PW X (.BoolOp .Or (a::b::rest) pos) (tOr tA hU):=by
 intro wh pins s σ H Q I h;refine isTrue_or (thn (ha pins s σ H _ I h) λc s1 aA=>?_);obtain⟨H1,I1,q1⟩:=aA;cases c with
 | true=>exact⟨H1,I1,q1⟩
 | false=>exact hb wh pins s1 σ H1 Q I1 q1
def zEs (ha:PT X a tA):PT X (.UnaryOp .Not a pos) (zRj tA):=by intro pins s σ H Q I h;exact isTrue_not (ha pins s σ H (λc H1=>Q (!c) H1) I h)
def tIf (t:TT) (ta tb:TE):TE:=λσ H Q=>t σ H λc H1=>if c=true then ta σ H1 Q else tb σ H1 Q
def zIk {c:Expr} (hc:PT X c tA) (ha:PE X a ta) (hb:PE X b tb):PE X (.IfExp c a b pos) (tIf tA ta tb):=by
 intro pins s σ H Q I h;refine wpAny_IfExp (thn (hc pins s σ H _ I h) λd s1 aA=>?_);obtain⟨H1,I1,q1⟩:=aA;cases d with
 | true=>exact ha pins s1 σ H1 Q I1 q1
 | false=>exact hb pins s1 σ H1 Q I1 q1
end
def SqL (K:W.Frag) (H:Hp) (a:Addr) (xs:List V):Prop:=
 Rd H a (.lst xs)∨
  ∃(o:Obj) (its:Array Value) (n:Nat),K.lookup a=some o/\o.cls=.type "list"/\o.dict=none/\o.data=.seq its n/\its.size<=sizeLine/\zAv xs its.toList
def SqT (K:W.Frag) (H:Hp) (a:Addr) (xs:List V):Prop:=
 Rd H a (.tup xs)∨
  ∃(o:Obj) (its:Array Value) (n:Nat),K.lookup a=some o/\o.cls=.type "tuple"/\o.data=.seq its n/\its.size<=sizeLine/\zAv xs its.toList
def zRA:Value->Option V
 | .none=>some .non
 | .bool b=>some (.bl b)
 | .int i _=>some (.int i)
 | .str x _=>some (.str x)
 | .bytes b _=>some (.byt b)
 | .float b _=>some (.flt b)
 | .ref a=>some (.ref a)
 | .type n=>some (.ty n)
 | _=>none
def zAV.abs {x:V} {u:Value} (r:zAV x u):zRA u=some x:=by
 cases x with
 | non=>cases r;rfl
 | bl _=>cases r;rfl
 | int _=>obtain⟨t,rfl⟩:=r;rfl
 | str _=>obtain⟨t,rfl⟩:=r;rfl
 | byt _=>obtain⟨t,rfl⟩:=r;rfl
 | flt _=>obtain⟨t,rfl⟩:=r;rfl
 | ref _=>cases r;rfl
 | ty _=>cases r;rfl
def zAV.inj {x y:V} {u:Value} (r:zAV x u) (q:zAV y u):x=y:=wHE (r.abs.symm.trans q.abs)
theorem zAv.inj:∀{xs ys:List V} {us:List Value},zAv xs us->zAv ys us->xs=ys
 | _,_,_,.nil,.nil=>rfl
 | _,_,_,.cons r t,.cons r' t'=>by rw[r.inj r',zAv.inj t t']
section
variable {X:Cx} {pins:List (Addr × Obj)} {σ:St} {H:Hp} {s:Shared} {a:Addr} {xs ys:List V}
def SqL.of {K:W.Frag} (h:H a=some (.lst xs)):SqL K H a xs:=.inl (.inl h)
def SqT.of {K:W.Frag} (h:H a=some (.tup xs)):SqT K H a xs:=.inl (.inl h)
def Inv.list (I:Inv X pins σ H s) (h:SqL X.K H a xs):∃its:List Value,zAv xs its/\PlainL s.heap a its.toArray/\xs.length<=sizeLine:=by
 rcases h with h | ⟨o,its,n,hk,hc,hd,hs,hz,r⟩
 ·obtain⟨z,its,n,r,e⟩:=h.ok I.hok;exact⟨its,r,⟨_,n,e,rfl,rfl,rfl⟩,z⟩
 refine⟨its.toList,r,⟨o,n,I.kIn a o hk,hc,hd,by simpa using hs⟩,?_⟩;have e:=r.length;simp only[wH2] at e;omega
def Inv.tuple (I:Inv X pins σ H s) (h:SqT X.K H a xs):∃its:List Value,zAv xs its/\IsTup s.heap a its.toArray/\xs.length<=sizeLine:=by
 rcases h with h | ⟨o,its,n,hk,hc,hs,hz,r⟩
 ·obtain⟨z,its,r,p⟩:=h.ok I.hok;exact⟨its,r,p,z⟩
 refine⟨its.toList,r,⟨o,I.kIn a o hk,hc,n,by simpa using hs⟩,?_⟩;have e:=r.length;simp only[wH2] at e;omega
def Inv.list_inj (I:Inv X pins σ H s) (h:SqL X.K H a xs) (h':SqL X.K H a ys):xs=ys:=by
 obtain⟨its,r,⟨o,n,e,_,_,d⟩,_⟩:=I.list h;obtain⟨its',r',⟨o',n',e',_,_,d'⟩,_⟩:=I.list h';rw[e] at e';cases e';rw[d] at d'
 injection d' with d1 _
 have:its=its':=by simpa using congrArg Array.toList d1
 subst this;exact r.inj r'
def Inv.tuple_inj (I:Inv X pins σ H s) (h:SqT X.K H a xs) (h':SqT X.K H a ys):xs=ys:=by
 obtain⟨its,r,⟨o,e,_,n,d⟩,_⟩:=I.tuple h;obtain⟨its',r',⟨o',e',_,n',d'⟩,_⟩:=I.tuple h';rw[e] at e';cases e';rw[d] at d'
 injection d' with d1 _
 have:its=its':=by simpa using congrArg Array.toList d1
 subst this;exact r.inj r'
end
abbrev Cx.wish (X:Cx) (E:Value->Shared->Prop):Cx:={ X with xe:=E }
abbrev Cx.nox (X:Cx):Cx:=X.wish λ_ _=>False
def Cx.Ok.wish {X:Cx} (ok:X.Ok) (E:Value->Shared->Prop):(X.wish E).Ok:=
 ⟨ok.mod,ok.kind,ok.glob,ok.blt,ok.above,ok.inj,ok.has,ok.cab,ok.hd,ok.frames,ok.stk,ok.exf,ok.bs,ok.bsz,ok.noex,ok.exfs,ok.funs,ok.frf⟩
def Cx.Ok.unwish {X:Cx} {E:Value->Shared->Prop} (ok:(X.wish E).Ok):X.Ok:=
 ⟨ok.mod,ok.kind,ok.glob,ok.blt,ok.above,ok.inj,ok.has,ok.cab,ok.hd,ok.frames,ok.stk,ok.exf,ok.bs,ok.bsz,ok.noex,ok.exfs,ok.funs,ok.frf⟩
section
variable {X:Cx} {pins:List (Addr × Obj)} {σ:St} {H:Hp} {s:Shared} {E:Value->Shared->Prop}
def Inv.wish (I:Inv X pins σ H s) (E:Value->Shared->Prop):Inv (X.wish E) pins σ H s:=⟨I.ok.wish E,I.os,I.bare,I.base,I.loc,I.cell,I.free,I.freeC,I.pin,I.hok,I.len⟩
def Inv.unwish (I:Inv (X.wish E) pins σ H s):Inv X pins σ H s:=⟨I.ok.unwish,I.os,I.bare,I.base,I.loc,I.cell,I.free,I.freeC,I.pin,I.hok,I.len⟩
def SP.unwish {D:Ends} {f:Flow} {s':Shared} (h:SP (X.wish E) pins D f s'):SP X pins D f s':=by
 cases f with
 | next=>obtain⟨σ',H',I,q⟩:=h;exact⟨σ',H',I.unwish,q⟩
 | brk=>obtain⟨σ',H',I,q⟩:=h;exact⟨σ',H',I.unwish,q⟩
 | cont=>obtain⟨σ',H',I,q⟩:=h;exact⟨σ',H',I.unwish,q⟩
 | ret u=>obtain⟨v,σ',H',I,r,q⟩:=h;exact⟨v,σ',H',I.unwish,r,q⟩
def PE.nox {e:Expr} {t:TE} (h:PE X.nox e t):PE X e t:=λpins s σ H Q I hw=>
 wH4 (h pins s σ H Q (I.wish _) hw) (λ_ _ ⟨v,H',I',r,q⟩=>⟨v,H',I'.unwish,r,q⟩) λ_ _ z=>wIh z
def PT.nox {e:Expr} {t:TT} (h:PT X.nox e t):PT X e t:=λpins s σ H Q I hw=>
 wH4 (h pins s σ H Q (I.wish _) hw) (λ_ _ ⟨H',I',q⟩=>⟨H',I'.unwish,q⟩) λ_ _ z=>wIh z
def PSs.nox {st:List Stmt} {t:TS} (h:PSs X.nox st t):PSs X st t:=λpins s σ H D I hw=>
 wH4 (h pins s σ H D (I.wish _) hw) (λ_ _ q=>q.unwish) λ_ _ z=>wIh z
end
section
variable {X:Cx} {st:Stmt} {rest:List Stmt} {t u:TS} {e:Expr} {te:TE} {pos:Pos}
def zOJ:TS:=λD σ H=>D.nx σ H
def zLw (t u:TS):TS:=λD σ H=>t { D with nx:=u D } σ H
def zR:PSs X [] zOJ:=λ_ _ σ H _ I h=>wpAny_execs_nil ⟨σ,H,I,h⟩
def zD (h1:PS X st t) (h2:PSs X rest u):PSs X (st::rest) (zLw t u):=by
 intro pins s σ H D I h;refine wpAny_execs_cons (thn (h1 pins s σ H { D with nx:=u D } I h) λf s1 q=>?_);cases f with
 | next=>
  obtain⟨σ',H',I',q⟩:=q;exact h2 pins s1 σ' H' D I' q
 | ret v=>exact q
 | brk=>exact q
 | cont=>exact q
def zH (h1:PS X st t):PSs X [st] t:=by
 intro pins s σ H D I h;refine wpAny_execs_cons (thn (h1 pins s σ H D I h) λf s1 q=>?_);cases f with
 | next=>exact wpAny_execs_nil q
 | ret v=>exact q
 | brk=>exact q
 | cont=>exact q
def Inv.quiet {pins:List (Addr × Obj)} {σ:St} {H:Hp} {s:Shared} (I:Inv X pins σ H s):interactive X.env=false:=by simp[interactive,I.ok.kind]
def zQm (te:TE):TS:=λD σ H=>te σ H λ_ H1=>D.nx σ H1
def zAe (he:PE X e te) (hs:swapsWith e none pos.line X.env=pure false:=by rfl):PS X (.Expr e pos) (zQm te):=by intro pins s σ H D I h;exact wpAny_Expr_any (thn (he pins s σ H _ I h) λv s1 ⟨x,H1,I1,r1,q1⟩=>⟨σ,H1,I1,q1⟩) I.quiet hs
def zQR (te:TE):TS:=λD σ H=>te σ H D.rt
def zX (he:PE X e te):PS X (.Return (some e) pos) (zQR te):=by intro pins s σ H D I h;exact wpAny_Return_some (thn (he pins s σ H _ I h) λv s1 ⟨x,H1,I1,r1,q1⟩=>⟨x,σ,H1,I1,r1,q1⟩)
def zRk (c:TT) (t u:TS):TS:=λD σ H=>c σ H λb H1=>if b=true then t D σ H1 else u D σ H1
def zAm {c:Expr} {a b:List Stmt} {tc:TT} (hc:PT X c tc) (ha:PSs X a t) (hb:PSs X b u):PS X (.If c a b pos) (zRk tc t u):=by
 intro pins s σ H D I h;refine wpAny_If (thn (hc pins s σ H _ I h) λd s1 aA=>?_);obtain⟨H1,I1,q1⟩:=aA;cases d with
 | true=>exact ha pins s1 σ H1 D I1 q1
 | false=>exact hb pins s1 σ H1 D I1 q1
def zOK:TS:=λ_ _ _=>False
def zKe {sts:List Stmt}:PSs X sts zOK:=λ_ _ _ _ _ _ h=>h.elim
end
abbrev TG:=V->St->Hp->(St->Hp->Prop)->Prop
abbrev TGs:=List V->St->Hp->(St->Hp->Prop)->Prop
def PG (X:Cx) (target:Expr) (t:TG):Prop:=
 ∀(pins:List (Addr × Obj)) (s:Shared) (σ:St) (H:Hp) (v:V) (u:Value) (Q:St->Hp->Prop),Inv X pins σ H s->zAV v u->t v σ H Q->
  wpAny (model X.prog X.w) X.A (assign target X.env u) (λ_ s'=>∃σ' H',Inv X pins σ' H' s'/\Q σ' H') X.xe s
def PGs (X:Cx) (ts:List Expr) (t:TGs):Prop:=
 ∀(pins:List (Addr × Obj)) (s:Shared) (σ:St) (H:Hp) (vs:List V) (us:List Value) (Q:St->Hp->Prop),Inv X pins σ H s->zAv vs us->t vs σ H Q->
  wpAny (model X.prog X.w) X.A (assignInOrder ((assignEach ts X.env).map (·.2)) us) (λ_ s'=>∃σ' H',Inv X pins σ' H' s'/\Q σ' H') X.xe s
abbrev zPU:=V->V->V->Hp->(Hp->Prop)->Prop
def zQN (X:Cx) (t:zPU):Prop:=
 ∀(pins:List (Addr × Obj)) (s:Shared) (σ:St) (H:Hp) (o i v:V) (ov iv u:Value) (Q:Hp->Prop),Inv X pins σ H s->zAV o ov->zAV i iv->zAV v u->t o i v H Q->
  wpAny (model X.prog X.w) X.A (setItem ov iv u) (λ_ s'=>∃H',Inv X pins σ H' s'/\Q H') X.xe s
abbrev TIp:=V->V->Hp->VK->Prop
def PIp (X:Cx) (op:Operator) (t:TIp):Prop:=
 ∀(pins:List (Addr × Obj)) (s:Shared) (σ:St) (H:Hp) (x y:V) (v u:Value) (Q:VK),Inv X pins σ H s->zAV x v->zAV y u->t x y H Q->
  wpAny (model X.prog X.w) X.A (inplaceOp op v u) (EP X pins σ Q) X.xe s
section
variable {X:Cx} {pos:Pos}
def zKQ (i:Nat):TG:=λv σ H Q=>Q (σ.set i (some v)) H
def zN {i:Nat} {x:Str} (hN:X.N.Nodup) (hi:X.N[i]?=some x) (hx:Loc X.env.scope x) (hf:X.fn x=true∨X.env.scope.names.lookup x=some .local:=by first | exact .inl rfl | exact .inr rfl | assumption):PG X (.Name x pos) (zKQ i):=by intro pins s σ H v u Q I r h;exact wpAny_assign_Name (zDP I hN hi hx r (λs' I'=>⟨_,H,I',h⟩) hf)
def zR8:TGs:=λvs σ H Q=>vs=[]/\Q σ H
inductive GCons (t:TG) (u:TGs) (vs:List V) (σ:St) (H:Hp) (Q:St->Hp->Prop):Prop
 | mk (v:_) (r:_):(vs=v::r)->(t v σ H λσ' H'=>u r σ' H' Q)->GCons t u vs σ H Q
def zQC (t:TG) (u:TGs):TGs:=λvs σ H Q=>GCons t u vs σ H Q
def zAA:PGs X [] zR8:=by intro pins s σ H vs us Q I r h;obtain⟨e,h⟩:=h;subst e;cases r;exact assignInOrder_nil ⟨σ,H,I,h⟩
def zO {e:Expr} {es:List Expr} {t:TG} {u:TGs} (h1:PG X e t) (h2:PGs X es u)
  (hs:(assignEach (e::es) X.env).map (·.2)=assign e X.env::(assignEach es X.env).map (·.2):=by rfl):PGs X (e::es) (zQC t u):=by
 intro pins s σ H vs us Q I r h;obtain⟨v,vr,e1,h⟩:=h;subst e1;cases r with
 | cons r rr=>
  rw[hs];refine assignInOrder_cons (thn (h1 pins s σ H _ _ _ I r h) λ_ s1 aA=>?_);obtain⟨σ1,H1,I1,q1⟩:=aA;exact h2 pins s1 σ1 H1 _ _ Q I1 rr q1
inductive GTup (K:W.Frag) (n:Nat) (t:TGs) (v:V) (σ:St) (H:Hp) (Q:St->Hp->Prop):Prop
 | mk (a:_) (xs:_):(v=.ref a)->SqT K H a xs->(xs.length=n)->t xs σ H Q->GTup K n t v σ H Q
def zQZ (K:W.Frag) (n:Nat) (t:TGs):TG:=λv σ H Q=>GTup K n t v σ H Q
def zPi {es:List Expr} {k:Nat} {t:TGs} {n:Nat} (hc:X.calm=true) (h:PGs X es t)
  (hn:(assignEach es X.env).length=n:=by rfl) (aF:(assignEach es X.env).findIdx? (·.1)=none:=by rfl):PG X (.Tuple es k pos) (zQZ X.K n t):=by
 intro pins s σ H v u Q I r hw;obtain⟨a,xs,e1,hq,hl,hw⟩:=hw;subst e1;cases r;obtain⟨its,rv,ht,hz⟩:=I.tuple hq;refine assign_Tuple_tuple (I.ok.hd hc) ht (by simp[hn,← hl,rv.length]) aF λh' hx=>?_;have I1:Inv X pins σ H { s with heap:=h' }:=I.kept (t':=s.toks) λb o e=>hx b o (wHO (wHH e)) e;exact h pins _ σ H xs _ Q I1 (by simpa using rv) hw
def zR7 (to ti:TE) (t:zPU):TG:=λv σ H Q=>to σ H λo H1=>ti σ H1 λi H2=>t o i v H2 λH3=>Q σ H3
def zKj {o i:Expr} {to ti:TE} {t:zPU} (ho:PE X o to) (hi:PE X i ti) (hs:zQN X t)
  (ha:∀v,assign (.Subscript o i pos) X.env v=(do
   let ov ← holding [v] (eval o X.env)
   let iv ← holding [v,ov] (eval i X.env)
   standAt pos
   holding [v,ov,iv] (setItem ov iv v)
   release [v,ov,iv] []):=by intro _;rfl):PG X (.Subscript o i pos) (zR7 to ti t):=by
 intro pins s σ H v u Q I r h;rw[ha];refine wHu (wIn (thn (ho pins s σ H _ I h) λov s1 aA=>?_));obtain⟨x,H1,I1,r1,q1⟩:=aA;refine wHu (wIn (thn (hi pins s1 σ H1 _ I1 q1) λiv s2 aA=>?_));obtain⟨y,H2,I2,r2,q2⟩:=aA;refine wHu (wpAny_standAt (wHu (wIn (thn (hs pins s2 σ H2 x y v ov iv u _ I2 r1 r2 r q2) λ_ s3 aA=>?_))));obtain⟨H3,I3,q3⟩:=aA;exact wpAny_release ⟨σ,H3,I3,q3⟩
def zQq (te:TE) (g:TG):TS:=λD σ H=>te σ H λx H1=>g x σ H1 D.nx
def zG5 {tg e:Expr} {te:TE} {g:TG} (he:PE X e te) (hg:PG X tg g) (hs:swapsWithSole [tg] e pos.line X.env=pure false:=by rfl) (hw:swappedStores [tg] e X.env=pure none:=by rfl)
  (h1:(assignEach [tg] X.env).map (·.2)=[assign tg X.env]:=by rfl):PS X (.Assign [tg] e pos) (zQq te g):=by
 intro pins s σ H D I h;refine wpAny_Assign_stores (thn (he pins s σ H _ I h) λv s1 ⟨x,H1,I1,r1,q1⟩=>?_) hs hw;rw[h1];exact thn (hg pins s1 σ H1 x v _ I1 r1 q1) λ_ s2 q=>q
def zFj {i:Nat} {x:Str} {e:Expr} {te:TE} {pos':Pos} (hN:X.N.Nodup) (hi:X.N[i]?=some x) (hx:Loc X.env.scope x) (he:PE X e te) (hs:swapsWith e (some (.Name x pos')) pos.line X.env=pure false:=by rfl) (hf:X.fn x=true∨X.env.scope.names.lookup x=some .local:=by first | exact .inl rfl | exact .inr rfl | assumption) :
  PS X (.Assign [.Name x pos'] e pos) (zQq te (zKQ i)):=by
 intro pins s σ H D I h;refine wpAny_Assign_Name (thn (he pins s σ H _ I h) λv s1 ⟨y,H1,I1,r1,q1⟩=>?_) hs;exact zDP I1 hN hi hx r1 (λs2 I2=>⟨_,H1,I2,q1⟩) hf
def zRo (i:Nat) (te:TE) (ti:TIp):TS:=λD σ H=>∃x,σ[i]?=some (some x)/\te σ H λy H1=>ti x y H1 λz H2=>D.nx (σ.set i (some z)) H2
def zPe {i:Nat} {x:Str} {e:Expr} {te:TE} {op:Operator} {ti:TIp} {pos':Pos} (hN:X.N.Nodup) (hi:X.N[i]?=some x) (hx:Loc X.env.scope x) (he:PE X e te) (ho:PIp X op ti) (hf:X.fn x=true∨X.env.scope.names.lookup x=some .local:=by first | exact .inl rfl | exact .inr rfl | assumption) :
  PS X (.AugAssign (.Name x pos') op e pos) (zRo i te ti):=by
 intro pins s σ H D I h;obtain⟨v,e1,h⟩:=h;obtain⟨m,hn,hl⟩:=I.loc;have vis:Vis X.env.scope x:=by rcases hx with k | k;exact .inl k;exact .inr (.inl k)
 obtain⟨u,r,l⟩:=hl i x v hi e1 vis;refine wpAny_AugAssign_Name ?_;have go:wpAny (model X.prog X.w) X.A (eval e X.env) (λw s₂=>wpAny (model X.prog X.w) X.A (inplaceOp op u w) (λr s₃=>wpAny (model X.prog X.w) X.A (storeName X.env x r) (λ_=>SP X pins D .next) X.xe s₃) X.xe s₂) X.xe s:=by refine thn (he pins s σ H _ I h) λw s1 aA=>?_;obtain⟨y,H1,I1,r1,q1⟩:=aA;refine thn (ho pins s1 σ H1 v y u w _ I1 r r1 q1) λz s2 aA=>?_;obtain⟨zv,H2,I2,r2,q2⟩:=aA;exact zDP I2 hN hi hx r2 (λs3 I3=>⟨_,H2,I3,q2⟩) hf
 rcases l with ⟨hk,hm⟩ | ⟨hk,c,hc,aV⟩
 ·exact wpAny_loadName_local I.ok.kind hk hn hm go
 rcases hk with hk | hk
 ·exact wpAny_loadName_cell I.ok.kind hk hc aV go
 rcases hx with k | k
 ·have:X.env.scope.names.lookup x=some .free:=hk;rw[k] at this;cases this
 have:X.env.scope.names.lookup x=some .free:=hk;rw[k] at this;cases this
def zQp (to ti te:TE) (cP:V->V->Hp->VK->Prop) (hJ:TIp) (cO:zPU):TS:=λD σ H=>to σ H λo H1=>ti σ H1 λi H2=>cP o i H2 λx H3=>te σ H3 λy H4=>hJ x y H4 λz H5=>cO o i z H5 λH6=>D.nx σ H6
def zRe (X:Cx) (t:V->V->Hp->VK->Prop):Prop:=
 ∀(pins:List (Addr × Obj)) (s:Shared) (σ:St) (H:Hp) (o i:V) (ov iv:Value) (Q:VK),Inv X pins σ H s->zAV o ov->zAV i iv->t o i H Q->
  wpAny (model X.prog X.w) X.A (getItem ov iv) (EP X pins σ Q) X.xe s
def zKg {o i e:Expr} {to ti te:TE} {cP:V->V->Hp->VK->Prop} {hJ:TIp} {cO:zPU} {op:Operator} {fC:Pos} (ho:PE X o to) (hi:PE X i ti) (hg:zRe X cP) (he:PE X e te) (hp:PIp X op hJ) (hs:zQN X cO)
  (ha:∀ov iv new,augStore i ov iv new=(do holding [new,ov,iv] (setItem ov iv new);release [new,ov,iv] [];pure .next):=by intros;rfl):PS X (.AugAssign (.Subscript o i fC) op e pos) (zQp to ti te cP hJ cO):=by
 intro pins s σ H D I h;refine wpAny_AugAssign_SubscriptAny (thn (ho pins s σ H _ I h) λov s1 ⟨x1,H1,I1,r1,q1⟩=>?_) ha;refine thn (hi pins s1 σ H1 _ I1 q1) λiv s2 aA=>?_;obtain⟨x2,H2,I2,r2,q2⟩:=aA;refine thn (hg pins s2 σ H2 x1 x2 ov iv _ I2 r1 r2 q2) λold s3 aA=>?_;obtain⟨x3,H3,I3,r3,q3⟩:=aA;refine thn (he pins s3 σ H3 _ I3 q3) λv s4 aA=>?_;obtain⟨x4,H4,I4,r4,q4⟩:=aA;refine thn (hp pins s4 σ H4 x3 x4 old v _ I4 r3 r4 q4) λnew s5 aA=>?_;obtain⟨x5,H5,I5,r5,q5⟩:=aA;exact thn (hs pins s5 σ H5 x1 x2 x5 ov iv new _ I5 r1 r2 r5 q5) λ_ s6 ⟨H6,I6,q6⟩=>⟨σ,H6,I6,q6⟩
def ipI (f:Int->Int->Int):TIp:=λx y H Q=>∃i j,x=.int i/\y=.int j/\Q (.int (f i j)) H
def zP9:PIp X .Add (ipI λi j=>i+j):=by intro pins s σ H x y v u Q I r1 r2 h;obtain⟨i,j,e1,e2,q⟩:=h;subst e1;subst e2;obtain⟨t,rfl⟩:=r1;obtain⟨t',rfl⟩:=r2;exact iadd_int ⟨.int _,H,I.tok _,⟨_,rfl⟩,q⟩
def zMU:PIp X .Sub (ipI λi j=>i-j):=by intro pins s σ H x y v u Q I r1 r2 h;obtain⟨i,j,e1,e2,q⟩:=h;subst e1;subst e2;obtain⟨t,rfl⟩:=r1;obtain⟨t',rfl⟩:=r2;exact isub_int ⟨.int _,H,I.tok _,⟨_,rfl⟩,q⟩
def zOH (c:TT) (tb:TS):TS:=λD σ H=>∃W:Nat->St->Hp->Prop,(∃m,W m σ H)/\∀m σ H,W m σ H->
 c σ H λb H1=>if b=true then ∃N:St->Hp->Prop,(∀σ' H',N σ' H'->∃m',m' < m/\W m' σ' H')/\tb { D with nx:=N,ct:=N,bk:=D.nx } σ H1 else D.nx σ H1
def zLS {c:Expr} {body:List Stmt} {tc:TT} {tb:TS} (hp:PassesOwn (model X.prog X.w) X.A X.env X.xe) (hc:PT X c tc) (hb:PSs X body tb):PS X (.While c body [] pos) (zOH tc tb):=by
 intro pins s σ H D I h;obtain⟨W,⟨m0,w0⟩,turn⟩:=h;refine wpAny_While (codeAny_whileLoop (λn s'=>∃σ' H',Inv X pins σ' H' s'/\W n σ' H') ?_ m0 ⟨σ,H,I,w0⟩);rintro n s1 ⟨σ1,H1,I1,w1⟩;refine wpAny_passesOwn hp (thn (hc pins s1 σ1 H1 _ I1 (turn n σ1 H1 w1)) λb s2 aA=>?_);obtain⟨H2,I2,q2⟩:=aA;cases b with
 | true=>
  obtain⟨N,hN,q2⟩:=q2;rw[wHF rfl];refine wpAny_passesOwn hp (thn (hb pins s2 σ1 H2 _ I2 q2) λf s3 q3=>?_);cases f with
  | next=>
   obtain⟨σ3,H3,I3,n3⟩:=q3;obtain⟨m',hm,w3⟩:=hN σ3 H3 n3;exact⟨m',hm,σ3,H3,I3,w3⟩
  | cont=>
   obtain⟨σ3,H3,I3,n3⟩:=q3;obtain⟨m',hm,w3⟩:=hN σ3 H3 n3;exact⟨m',hm,σ3,H3,I3,w3⟩
  | brk=>exact q3
  | ret v=>exact q3
 | false=>
  rw[wHD wHM];exact wpAny_execs_nil ⟨σ1,H2,I2,q2⟩
end
structure It where
 go:Nat->Hp->Prop
 yld:Nat->Hp->V->Hp->Prop
 stop:Nat->Hp->Prop
def zGm (X:Cx) (pins:List (Addr × Obj)) (H:Hp) (b:Addr):Prop:=
 H b=none/\b≠X.env.locals/\b∉X.fs/\(b∈X.ex∨X.s₀.heap.objs.size<=b)/\(∀x c,X.env.cells.lookup x=some c->c≠b)/\∀p∈X.pn++pins,p.1≠b
def Inv.fpOk {X:Cx} {pins:List (Addr × Obj)} {σ:St} {H H':Hp} {s:Shared} {b:Addr} (I:Inv X pins σ H s) (hb:s.heap.objs.size<=b) (hn:H' b=none):zGm X pins H' b:=by
 refine⟨hn,Nat.ne_of_gt (wHT I.lt hb),I.nofs hb,.inr (wHI I.sz hb),λx c e z=>?_,λp hp z=>?_⟩
 ·obtain⟨v,q⟩:=I.cell x c e;exact absurd (wHT q.lt (by rw[z];exact hb)) (Nat.lt_irrefl _)
 exact absurd (wHT (wHH (I.pin p hp).1) (by rw[z];exact hb)) (Nat.lt_irrefl _)
structure Turn (P:Program) (w:World) (K:W.Frag) (tg:Expr) (J:It) (fp:List Addr) (it:Addr) (tn:Nat->Heap->Prop):Prop where
 mem:it∈fp
 obj:∀i h,tn i h->∀b∈fp,∃o,h.get? b=some o/\∀v,o.data≠.cell v
 keep:∀i h h',tn i h->(∀b∈fp,∀o,h.get? b=some o->h'.get? b=some o)->tn i h'
 item:∀(X:Cx),X.prog=P->X.w=w->X.K=K->X.calm=true->∀(i:Nat) (pins:List (Addr × Obj)) (s:Shared) (σ:St) (H:Hp) (E:Value->Shared->Prop),Inv X pins σ H s->(∀b∈fp,zGm X pins H b)->tn i s.heap->J.go i H->
  wpAny (model P w) X.A (pyNext (.ref it)) (λr s1=>∃u,r=some u/\
   wpAny (model P w) X.A (letOwnedTupleGo tg (.ref it) u) (λ_ s2=>∃x H',Inv X pins σ H' s2/\zAV x u/\J.yld i H x H'/\tn (i+1) s2.heap/\∀b∈fp,H' b=none) E s1) E s
 done:∀(X:Cx),X.prog=P->X.w=w->X.K=K->X.calm=true->∀(i:Nat) (pins:List (Addr × Obj)) (s:Shared) (σ:St) (H:Hp) (E:Value->Shared->Prop),Inv X pins σ H s->(∀b∈fp,zGm X pins H b)->tn i s.heap->J.stop i H->
  wpAny (model P w) X.A (pyNext (.ref it)) (λr s1=>r=none/\Inv X pins σ H s1) E s
 self:∀(A:Around) (i:Nat) (s:Shared) (Q:Value->Shared->Prop) (E:Value->Shared->Prop),tn i s.heap->Q (.ref it) s->wpAny (model P w) A (pyIter (.ref it)) Q E s
abbrev TI:=St->Hp->(It->Hp->Prop)->Prop
def PIE (X:Cx) (pins:List (Addr × Obj)) (σ:St) (tg:Expr) (R:It->Hp->Prop) (lh:Value) (s2:Shared):Prop:=
 ∃(it:Addr) (fp:List Addr) (tn:Nat->Heap->Prop) (J:It) (H':Hp),lh=.ref it/\Inv X pins σ H' s2/\Turn X.prog X.w X.K tg J fp it tn/\tn 0 s2.heap/\(∀b∈fp,zGm X pins H' b)/\R J H'
def PI (X:Cx) (tg iter:Expr) (wi:TI):Prop:=
 ∀(pins:List (Addr × Obj)) (s:Shared) (σ:St) (H:Hp) (R:It->Hp->Prop),Inv X pins σ H s->wi σ H R->
  wpAny (model X.prog X.w) X.A (eval iter X.env) (λv s1=>wpAny (model X.prog X.w) X.A (pyIter v) (PIE X pins σ tg R) X.xe s1) X.xe s
def zKP {M:Model} {A:Around} {E:Value->Shared->Prop} {s:Shared} {tg:Expr} {it:Addr} {u:Value} {o:Obj} {n:String} {vs:Array Value} {Q:Unit->Shared->Prop} (ho:s.heap.get? it=some o) (hc:o.cls=.type n) (hd:o.data=.fields vs)
  (hn:["enumerate","zip","dict_itemiterator","dict_reverseitemiterator","odict_iterator","itertools.zip_longest","itertools.pairwise"].contains n=false) (hQ:Q PUnit.unit s):wpAny M A (letOwnedTupleGo tg (.ref it) u) Q E s:=by
 unfold letOwnedTupleGo;cases tg<;>first
  | exact wHx hQ
  | (cases u<;>first
    | exact wHx hQ
    | (refine wHu (wpAny_load ho ?_)
       rw[hc,hd];show wpAny M A (if (["enumerate","zip","dict_itemiterator","dict_reverseitemiterator","odict_iterator","itertools.zip_longest","itertools.pairwise"].contains n && vs[0]? == some (rawInt _))=true then _ else _) Q E s;rw[wHD (by intro h;rw[hn,Bool.false_and] at h;cases h)];exact wHx hQ))
def Itl (K:W.Frag) (a:Addr):It:=
 ⟨λi H=>∃xs x,SqL K H a xs/\xs[i]?=some x,λi H x H'=>H'=H/\∀xs,SqL K H a xs->xs[i]?=some x,λi H=>∃xs,SqL K H a xs/\xs.length<=i⟩
def Itt (K:W.Frag) (a:Addr):It:=
 ⟨λi H=>∃xs x,SqT K H a xs/\xs[i]?=some x,λi H x H'=>H'=H/\∀xs,SqT K H a xs->xs[i]?=some x,λi H=>∃xs,SqT K H a xs/\xs.length<=i⟩
def Itr (lo:Int) (n:Nat):It:=⟨λi _=>i < n,λi H x H'=>H'=H/\x=.int (lo+i),λi _=>n<=i⟩
def zJ4 {P:Program} {w:World} {K:W.Frag} {tg:Expr} (a it:Addr):Turn P w K tg (Itl K a) [it] it (λi h=>h.IsListIter it a i) where
 mem:=by simp
 obj:=λi h st b hb=>by
  have e:b=it:=by simpa using hb
  subst e;obtain⟨o,e,c,d⟩:=st;exact⟨o,e,λv z=>by rw[d] at z;cases z⟩
 keep:=λi h h' st k=>st.at λo e=>k it (by simp) o e
 item:=by intro X hP hw hK hc i pins s σ H E I hf st hg;subst hP hw hK;obtain⟨xs,x,hq,hx⟩:=hg;obtain⟨its,rv,p,hz⟩:=I.list hq;obtain⟨u,hu,ru⟩:=rv.get hx;obtain⟨f0,f1,f2,f3,f4,f5⟩:=hf it (by simp);refine wpAny_pyNext_list_item st p.isList (x:=u) (by simpa using hu) λh' bA sb=>?_;have I1:Inv X pins σ H { s with heap:=h' }:=I.turned (t':=s.toks) (λb o hb e=>(sb.2 b hb).trans e) f0 f1 f3 f4 f5;obtain⟨o,e,c,d⟩:=id bA;exact⟨u,rfl,zKP (s:={ s with heap:=h' }) e c d ⋯ ⟨x,H,I1,ru,⟨rfl,λys hy=>by rw[I.list_inj hy hq];exact hx⟩,bA,λb hb=>(hf b hb).1⟩⟩
 done:=by intro X hP hw hK hc i pins s σ H E I hf st hg;subst hP hw hK;obtain⟨xs,hq,hx⟩:=hg;obtain⟨its,rv,p,hz⟩:=I.list hq;obtain⟨f0,f1,f2,f3,f4,f5⟩:=hf it (by simp);have hl:=rv.length;exact wpAny_pyNext_list_end (I.ok.hd hc) st p.isList (by simp;omega) λh' eb=>⟨rfl,I.turned (t':=s.toks) (λb o hb e=>eb b o hb e) f0 f1 f3 f4 f5⟩
 self:=λ_ _ _ _ _ st h=>wpAny_pyIter_listiter st h
def zIG {P:Program} {w:World} {K:W.Frag} {tg:Expr} (a it:Addr):Turn P w K tg (Itt K a) [it] it (λi h=>h.IsTupleIter it a i) where
 mem:=by simp
 obj:=λi h st b hb=>by
  have e:b=it:=by simpa using hb
  subst e;obtain⟨o,e,c,d⟩:=st;exact⟨o,e,λv z=>by rw[d] at z;cases z⟩
 keep:=λi h h' st k=>st.at λo e=>k it (by simp) o e
 item:=by intro X hP hw hK hc i pins s σ H E I hf st hg;subst hP hw hK;obtain⟨xs,x,hq,hx⟩:=hg;obtain⟨its,rv,p,hz⟩:=I.tuple hq;obtain⟨u,hu,ru⟩:=rv.get hx;obtain⟨f0,f1,f2,f3,f4,f5⟩:=hf it (by simp);refine wpAny_pyNext_tuple_item st (show s.heap.IsTuple a its.toArray from p) (x:=u) (by simpa using hu) λh' bA sb=>?_;have I1:Inv X pins σ H { s with heap:=h' }:=I.turned (t':=s.toks) (λb o hb e=>(sb.2 b hb).trans e) f0 f1 f3 f4 f5;obtain⟨o,e,c,d⟩:=id bA;exact⟨u,rfl,zKP (s:={ s with heap:=h' }) e c d ⋯ ⟨x,H,I1,ru,⟨rfl,λys hy=>by rw[I.tuple_inj hy hq];exact hx⟩,bA,λb hb=>(hf b hb).1⟩⟩
 done:=by intro X hP hw hK hc i pins s σ H E I hf st hg;subst hP hw hK;obtain⟨xs,hq,hx⟩:=hg;obtain⟨its,rv,p,hz⟩:=I.tuple hq;obtain⟨f0,f1,f2,f3,f4,f5⟩:=hf it (by simp);have hl:=rv.length;exact wpAny_pyNext_tuple_end (I.ok.hd hc) st (show s.heap.IsTuple a its.toArray from p) (by simp;omega) λh' eb=>⟨rfl,I.turned (t':=s.toks) (λb o hb e=>eb b o hb e) f0 f1 f3 f4 f5⟩
 self:=λ_ _ _ _ _ st h=>wpAny_pyIter_tupleiter st h
def zIH {P:Program} {w:World} {K:W.Frag} {tg:Expr} (it:Addr) (lo:Int) (n:Nat):Turn P w K tg (Itr lo n) [it] it (λi h=>IsRangeIter h it (lo+(i:Nat)*1) ((n:Int)-(i:Nat)) 1) where
 mem:=by simp
 obj:=λi h st b hb=>by
  have e:b=it:=by simpa using hb
  subst e;exact⟨_,st,λv z=>by have z':Data.fields _=Data.cell v:=z;cases z'⟩
 keep:=λi h h' st k=>k it (by simp) _ st
 item:=by intro X hP hw hK hc i pins s σ H E I hf st hg;subst hP hw hK;obtain⟨f0,f1,f2,f3,f4,f5⟩:=hf it (by simp);have W:=Walks.range (prog:=X.prog) (w:=X.w) (I.ok.hd hc) it lo 1 n;refine W.item i s _ _ hg st λv h' tk hv bA kk=>?_;obtain⟨t,rfl⟩:=hv;have I1:Inv X pins σ H { s with heap:=h',toks:=tk }:=I.turned (λb o hb e=>kk b o (by simpa using hb) e) f0 f1 f3 f4 f5;refine⟨_,rfl,zKP (s:={ s with heap:=h',toks:=tk }) (n:="range_iterator") bA rfl rfl ⋯ ⟨.int (lo+i),H,I1,⟨t,?_⟩,⟨rfl,rfl⟩,bA,λb hb=>(hf b hb).1⟩⟩;rw[Int.mul_one]
 done:=by intro X hP hw hK hc i pins s σ H E I hf st hg;subst hP hw hK;obtain⟨f0,f1,f2,f3,f4,f5⟩:=hf it (by simp);exact wpAny_pyNext_range_end (I.ok.hd hc) st (by have:n<=i:=hg;omega) λh' eb=>⟨rfl,I.turned (t':=s.toks) (λb o hb e=>eb b o hb e) f0 f1 f3 f4 f5⟩
 self:=λ_ _ _ _ _ st h=>wpAny_pyIter_rangeiter st h
section
variable {X:Cx} {tg:Expr}
inductive IList (K:W.Frag) (x:V) (H1:Hp) (R:It->Hp->Prop):Prop
 | mk (a:_):(x=.ref a)->((∃xs,SqL K H1 a xs))->(R (Itl K a) H1)->IList K x H1 R
def zPD (K:W.Frag) (tl:TE):TI:=λσ H R=>tl σ H λx H1=>IList K x H1 R
inductive ITup (K:W.Frag) (x:V) (H1:Hp) (R:It->Hp->Prop):Prop
 | mk (a:_):(x=.ref a)->((∃xs,SqT K H1 a xs))->(R (Itt K a) H1)->ITup K x H1 R
def zR4 (K:W.Frag) (tl:TE):TI:=λσ H R=>tl σ H λx H1=>ITup K x H1 R
def zNI {l:Expr} {tl:TE} (hl:PE X l tl):PI X tg l (zPD X.K tl):=by
 intro pins s σ H R I h;refine thn (hl pins s σ H _ I h) λv s1 aA=>?_;obtain⟨x,H1,I1,r1,q1⟩:=aA;obtain⟨a,e,⟨xs,hq⟩,q⟩:=q1;subst e;cases r1;obtain⟨its,rv,p,hz⟩:=I1.list hq;refine wpAny_pyIter_list p.isList ?_;refine⟨s1.heap.objs.size,[s1.heap.objs.size],_,_,H1,rfl,I1.kept (t':=s1.toks) λb o e=>wHz _ e,zJ4 a _,⟨_,wHG _ rfl,rfl,rfl⟩,λb hb=>?_,q⟩;have e:b=s1.heap.objs.size:=by simpa using hb
 subst e;exact I1.fpOk (wHA _) (I1.hok.fresh (wHA _))
def zPh {l:Expr} {tl:TE} (hl:PE X l tl):PI X tg l (zR4 X.K tl):=by
 intro pins s σ H R I h;refine thn (hl pins s σ H _ I h) λv s1 aA=>?_;obtain⟨x,H1,I1,r1,q1⟩:=aA;obtain⟨a,e,⟨xs,hq⟩,q⟩:=q1;subst e;cases r1;obtain⟨its,rv,p,hz⟩:=I1.tuple hq;refine wpAny_pyIter_tuple (show s1.heap.IsTuple a its.toArray from p) ?_;refine⟨s1.heap.objs.size,[s1.heap.objs.size],_,_,H1,rfl,I1.kept (t':=s1.toks) λb o e=>wHz _ e,zIG a _,⟨_,wHG _ rfl,rfl,rfl⟩,λb hb=>?_,q⟩;have e:b=s1.heap.objs.size:=by simpa using hb
 subst e;exact I1.fpOk (wHA _) (I1.hok.fresh (wHA _))
def zLP {pins:List (Addr × Obj)} {σ:St} {H:Hp} {s:Shared} {R:It->Hp->Prop} {E:Value->Shared->Prop} {lo hi:Int} {t u v:Tok} {tk:Nat} (I:Inv X pins σ H s) (h1:-(2 ^ 62)<=lo) (h2:lo < 2 ^ 62) (h3:-(2 ^ 62)<=hi) (h4:hi < 2 ^ 62)
  (q:R (Itr lo (hi-lo).toNat) H):wpAny (model X.prog X.w) X.A (pyIter (.ref s.heap.objs.size)) (PIE X pins σ tg R) E { s with heap:=s.heap.push { cls:=.type "range",data:=.fields #[.int lo t,.int hi u,.int 1 v] },toks:=tk }:=by
 refine wpAny_pyIter_range (IsRange.new ..) (small_one h1 h2 h3 h4) ?_;have I1:Inv X pins σ H { s with heap:=s.heap.push { cls:=.type "range",data:=.fields #[.int lo t,.int hi u,.int 1 v] },toks:=tk }:=I.kept λb o e=>wHz _ e;refine⟨(s.heap.push { cls:=.type "range",data:=.fields #[.int lo t,.int hi u,.int 1 v] }).objs.size,[(s.heap.push { cls:=.type "range",data:=.fields #[.int lo t,.int hi u,.int 1 v] }).objs.size],_,_,H,rfl,
  I1.kept (t':=tk) λb o e=>wHz _ e,zIH _ lo (hi-lo).toNat,?_,λb hb=>?_,q⟩
 ·have e1:lo+((0:Nat):Int)*1=lo:=by simp
  have e2:(((hi-lo).toNat:Nat):Int)-((0:Nat):Int)=Builtin.Range.rangeSize lo hi 1:=by rw[rangeSize_one];split<;>omega
  show IsRangeIter _ _ (lo+((0:Nat):Int)*1) ((((hi-lo).toNat:Nat):Int)-((0:Nat):Int)) 1;rw[e1,e2];exact wHG _ rfl
 have e:b=(s.heap.push { cls:=.type "range",data:=.fields #[.int lo t,.int hi u,.int 1 v] }).objs.size:=by simpa using hb
 subst e;exact I1.fpOk (wHA _) (I1.hok.fresh (wHA _))
inductive IRng1 (vs:List V) (H1:Hp) (R:It->Hp->Prop):Prop
 | mk (j:Int):(vs=[.int j])->(-(2 ^ 62)<=j)->(j < 2 ^ 62)->(R (Itr 0 j.toNat) H1)->IRng1 vs H1 R
def zQ6 (ta:TA):TI:=λσ H R=>ta σ H λvs H1=>IRng1 vs H1 R
def zBu {a:Expr} {ta:TA} {p pos:Pos} (hg:Gl X "range") (hm:X.mg "range"=none) (ha:PA X [a] ta) (hs:starEach [a] X.env=[(false,eval a X.env)]:=by rfl):PI X tg (.Call (.Name "range" p) [a] [] pos) (zQ6 ta):=by
 intro pins s σ H R I h;refine Call_ (zE7 I hg hm boot_range (PyProof.Rows.callWith_type1 (thn (ha pos pins s σ H _ I h) λus s1 ⟨vs,H1,I1,r1,q1⟩=>?_) hs rfl));obtain⟨j,e,q1,q2,q⟩:=q1;subst e;cases r1 with
 | cons r rr=>
  cases rr;obtain⟨t,rfl⟩:=r;exact call_range_1 (zLP I1 ∅ ∅ q1 q2 (by simpa using q))
def zRl (wi:TI) (g:TG) (tb:TS):TS:=λD σ H=>wi σ H λJ H1=>∃W:Nat->Nat->St->Hp->Prop,(∃m,W 0 m σ H1)/\∀i m σ H,W i m σ H->
 (J.stop i H/\D.nx σ H)∨(J.go i H/\∃N:St->Hp->Prop,(∀σ' H',N σ' H'->∃m',m' < m/\W (i+1) m' σ' H')/\∀x H',J.yld i H x H'->g x σ H' λσ2 H2=>tb { D with nx:=N,ct:=N,bk:=D.nx } σ2 H2)
def zG8 (fp:List Addr) (h:Heap):List (Addr × Obj):=fp.filterMap λb=>(h.get? b).map λo=>(b,o)
def zDw {fp:List Addr} {h:Heap} {b:Addr} {o:Obj} (hb:b∈fp) (e:h.get? b=some o):(b,o)∈zG8 fp h:=List.mem_filterMap.mpr ⟨b,hb,by rw[e];rfl⟩
def zK1 {fp:List Addr} {h:Heap} {p:Addr × Obj} (hp:p∈zG8 fp h):p.1∈fp/\h.get? p.1=some p.2:=by
 obtain⟨b,hb,e⟩:=List.mem_filterMap.mp hp;cases q:h.get? b with
 | none=>rw[q] at e;cases e
 | some o=>
  rw[q] at e;have e':(b,o)=p:=wHE e;subst e';exact⟨hb,q⟩
def Inv.pinned {pins:List (Addr × Obj)} {σ:St} {H:Hp} {s:Shared} {fp:List Addr} (I:Inv X pins σ H s) (hf:∀b∈fp,zGm X pins H b) (ho:∀b∈fp,∃o,s.heap.get? b=some o/\∀v,o.data≠.cell v):Inv X (pins++zG8 fp s.heap) σ H s:=
 I.pins_of λp hp=>(wIP hp).elim (λz=>I.pin p (wIf _ z)) λz=>by obtain⟨hb,e⟩:=zK1 z;obtain⟨f0,f1,f2,_⟩:=hf p.1 hb;obtain⟨o,e',d⟩:=ho p.1 hb;rw[e] at e';cases e';exact⟨e,f0,f1,f2,d⟩
def Inv.unpinned {pins pl:List (Addr × Obj)} {σ:St} {H:Hp} {s:Shared} (I:Inv X (pins++pl) σ H s):Inv X pins σ H s:=I.pins_of λp hp=>I.pin p (wIf _ (List.mem_append_left _ hp))
def zAW {iter:Expr} {body:List Stmt} {wi:TI} {g:TG} {tb:TS} {pos:Pos} (hp:PassesOwn (model X.prog X.w) X.A X.env X.xe) (hc:X.calm=true) (hi:PI X tg iter wi) (hg:PG X tg g) (hb:PSs X body tb)
  (hs:∀x,foldedSetIterable iter X.env x=pure x:=by intro _;rfl):PS X (.For tg iter body [] pos) (zRl wi g tb):=by
 intro pins s σ H D I h;refine wpAny_For (thn (hi pins s σ H _ I h) λv s1 h1=>thn h1 λlh s2 h2=>?_) hs;obtain⟨it,fp,tn,J,H2,e,I2,T,fD,f2,W,⟨m0,w0⟩,turn⟩:=h2;subst e;have eD:∀{H':Hp},(∀b∈fp,H' b=none)->∀b∈fp,zGm X pins H' b:=λhn b hb=>⟨hn b hb,(f2 b hb).2⟩;refine codeAny_forLoop_any (λn s'=>∃i σ' H',Inv X pins σ' H' s'/\tn i s'.heap/\(∀b∈fp,H' b=none)/\W i n σ' H') ?_ m0 ⟨0,σ,H2,I2,fD,λb hb=>(f2 b hb).1,w0⟩;rintro n s3 ⟨i,σ3,H3,I3,st3,fr3,w3⟩;rcases turn i n σ3 H3 w3 with ⟨stop,qn⟩ | ⟨go,N,hN,step⟩
 ·refine wpAny_passesOwn hp (thn (T.done X rfl rfl rfl hc i pins s3 σ3 H3 X.xe I3 (eD fr3) st3 stop) λr s4 aA=>?_);obtain⟨hr,I4⟩:=aA;subst hr;exact wpAny_execs_nil ⟨σ3,H3,I4,qn⟩
 refine wpAny_passesOwn hp (thn (T.item X rfl rfl rfl hc i pins s3 σ3 H3 X.xe I3 (eD fr3) st3 go) λr s4 aA=>?_);obtain⟨u,hr,h4⟩:=aA;subst hr;refine wpAny_passesOwn hp (thn h4 λ_ s5 aA=>?_);obtain⟨x,H5,I5,r5,y5,kE,fr5⟩:=aA;have I5':=I5.pinned (eD fr5) (T.obj _ _ kE);refine wpAny_passesOwn hp (thn (hg _ s5 σ3 H5 x u _ I5' r5 (step x H5 y5)) λ_ s6 aA=>?_);obtain⟨σ6,H6,I6,q6⟩:=aA;refine wpAny_passesOwn hp (thn (hb _ s6 σ6 H6 _ I6 q6) λf s7 q7=>?_);have again:∀{σ7:St} {H7:Hp},Inv X (pins++zG8 fp s5.heap) σ7 H7 s7->N σ7 H7->∃m,m < n/\∃i σ' H',Inv X pins σ' H' s7/\tn i s7.heap/\(∀b∈fp,H' b=none)/\W i m σ' H':=λ{σ7 H7} I7 n7=>by obtain⟨m',hm,w7⟩:=hN σ7 H7 n7;refine⟨m',hm,i+1,σ7,H7,I7.unpinned,T.keep _ _ _ kE λb hb o e=>(I7.pin (b,o) (wIf _ (wIf _ (zDw hb e)))).1,λb hb=>?_,w7⟩;obtain⟨o,e,d⟩:=T.obj _ _ kE b hb;exact (I7.pin (b,o) (wIf _ (wIf _ (zDw hb e)))).2.1
 cases f with
 | next=>obtain⟨σ7,H7,I7,n7⟩:=q7;exact again I7 n7
 | cont=>obtain⟨σ7,H7,I7,n7⟩:=q7;exact again I7 n7
 | brk=>obtain⟨σ7,H7,I7,q7⟩:=q7;exact⟨σ7,H7,I7.unpinned,q7⟩
 | ret v=>obtain⟨x7,σ7,H7,I7,r7,q7⟩:=q7;exact⟨x7,σ7,H7,I7.unpinned,r7,q7⟩
end
def zAH {K:W.Frag} {a:Addr} {xs:List V} {g:TG} {tb:TS} {D:Ends} {σ:St} {H:Hp} (Pv:Nat->St->Hp->Prop) (h0:Pv 0 σ H) (hl:∀i σ H,i<=xs.length->Pv i σ H->SqL K H a xs)
  (hs:∀i x σ H,xs[i]?=some x->Pv i σ H->g x σ H λσ2 H2=>tb { D with nx:=Pv (i+1),ct:=Pv (i+1),bk:=D.nx } σ2 H2) (hd:∀σ H,Pv xs.length σ H->D.nx σ H) :
  ∃W:Nat->Nat->St->Hp->Prop,(∃m,W 0 m σ H)/\∀i m σ H,W i m σ H->
   ((Itl K a).stop i H/\D.nx σ H)∨((Itl K a).go i H/\∃N:St->Hp->Prop,(∀σ' H',N σ' H'->∃m',m' < m/\W (i+1) m' σ' H')/\∀x H',(Itl K a).yld i H x H'->g x σ H' λσ2 H2=>tb { D with nx:=N,ct:=N,bk:=D.nx } σ2 H2):=by
 refine⟨λi m σ H=>m=xs.length-i/\i<=xs.length/\Pv i σ H,⟨xs.length,by simp,wIp _,h0⟩,?_⟩;rintro i m σ H ⟨rfl,hi,p⟩;have q:=hl i σ H hi p;by_cases aE:i < xs.length
 ·refine .inr ⟨⟨xs,xs[i],q,by simp[aE]⟩,Pv (i+1),λσ' H' p'=>⟨xs.length-(i+1),by omega,rfl,aE,p'⟩,λx H' y=>?_⟩;obtain⟨e,y⟩:=y;subst e;exact hs i x σ _ (y xs q) p
 have e:i=xs.length:=by omega
 subst e;exact .inl ⟨⟨xs,q,wHA _⟩,hd σ H p⟩
def zDc {lo:Int} {n:Nat} {g:TG} {tb:TS} {D:Ends} {σ:St} {H:Hp} (Pv:Nat->St->Hp->Prop) (h0:Pv 0 σ H)
  (hs:∀i σ H,i < n->Pv i σ H->g (.int (lo+i)) σ H λσ2 H2=>tb { D with nx:=Pv (i+1),ct:=Pv (i+1),bk:=D.nx } σ2 H2) (hd:∀σ H,Pv n σ H->D.nx σ H) :
  ∃W:Nat->Nat->St->Hp->Prop,(∃m,W 0 m σ H)/\∀i m σ H,W i m σ H->
   ((Itr lo n).stop i H/\D.nx σ H)∨((Itr lo n).go i H/\∃N:St->Hp->Prop,(∀σ' H',N σ' H'->∃m',m' < m/\W (i+1) m' σ' H')/\∀x H',(Itr lo n).yld i H x H'->g x σ H' λσ2 H2=>tb { D with nx:=N,ct:=N,bk:=D.nx } σ2 H2):=by
 refine⟨λi m σ H=>m=n-i/\i<=n/\Pv i σ H,⟨n,by simp,wIp _,h0⟩,?_⟩;rintro i m σ H ⟨rfl,hi,p⟩;by_cases aE:i < n
 ·refine .inr ⟨aE,Pv (i+1),λσ' H' p'=>⟨n-(i+1),by omega,rfl,aE,p'⟩,λx H' y=>?_⟩;obtain⟨e,y⟩:=y;subst e y;exact hs i σ _ aE p
 have e:i=n:=by omega
 subst e;exact .inl ⟨wHA _,hd σ H p⟩
abbrev R2:=V->V->Hp->VK->Prop
def OpR (X:Cx) (f:Value->Value->Sem Value) (r:R2):Prop:=
 ∀(pins:List (Addr × Obj)) (s:Shared) (σ:St) (H:Hp) (x y:V) (v u:Value) (Q:VK),Inv X pins σ H s->zAV x v->zAV y u->r x y H Q->
  wpAny (model X.prog X.w) X.A (f v u) (EP X pins σ Q) X.xe s
def zBp (X:Cx) (f:Value) (r:List V->Hp->VK->Prop):Prop:=
 ∀(pins:List (Addr × Obj)) (s:Shared) (σ:St) (H:Hp) (xs:List V) (us:List Value) (Q:VK),Inv X pins σ H s->zAv xs us->r xs H Q->
  wpAny (model X.prog X.w) X.A (call f us) (EP X pins σ Q) X.xe s
def zRB (X:Cx) (r:V->Hp->(Bool->Hp->Prop)->Prop):Prop:=
 ∀(pins:List (Addr × Obj)) (s:Shared) (σ:St) (H:Hp) (x:V) (v:Value) (Q:Bool->Hp->Prop),Inv X pins σ H s->zAV x v->r x H Q->
  wpAny (model X.prog X.w) X.A (truthy v) (TP X pins σ Q) X.xe s
def tOp (r:R2) (ta tb:TE):TE:=λσ H Q=>ta σ H λx H1=>tb σ H1 λy H2=>r x y H2 Q
inductive RI (C:Int->Int->Prop) (g:Int->Int->V) (x:V) (y:V) (H:Hp) (Q:VK):Prop
 | mk (i:_) (j:_):(x=.int i)->(y=.int j)->C i j->(Q (g i j) H)->RI C g x y H Q
def rI (C:Int->Int->Prop) (g:Int->Int->V):R2:=λx y H Q=>RI C g x y H Q
inductive RI0 (g:Int->Int->V) (x:V) (y:V) (H:Hp) (Q:VK):Prop
 | mk (i:_) (j:_):(x=.int i)->(y=.int j)->(Q (g i j) H)->RI0 g x y H Q
def rI0 (g:Int->Int->V):R2:=λx y H Q=>RI0 g x y H Q
section
variable {X:Cx} {a b:Expr} {ta tb:TE} {pos:Pos}
def zQE (ha:PE X a ta) (hb:PE X b tb) {pins:List (Addr × Obj)} {s:Shared} {σ:St} {H:Hp} {R:V->V->Hp->Prop} (I:Inv X pins σ H s)
  (h:ta σ H λx H1=>tb σ H1 λy H2=>R x y H2) {Q:Value->Shared->Prop} {f:Value->Value->Sem Value}
  (hf:∀v u s2 x y H2,Inv X pins σ H2 s2->zAV x v->zAV y u->R x y H2->wpAny (model X.prog X.w) X.A (f v u) Q X.xe s2) :
  wpAny (model X.prog X.w) X.A (eval a X.env) (λv s₁=>wpAny (model X.prog X.w) X.A (eval b X.env) (λu s₂=>wpAny (model X.prog X.w) X.A (f v u) Q X.xe s₂) X.xe s₁) X.xe s:=by
 refine thn (ha pins s σ H _ I h) λv s1 aA=>?_;obtain⟨x,H1,I1,r1,q1⟩:=aA;refine thn (hb pins s1 σ H1 _ I1 q1) λu s2 aA=>?_;obtain⟨y,H2,I2,r2,q2⟩:=aA;exact hf v u s2 x y H2 I2 r1 r2 q2
def zP {op:Operator} {r:R2} (ho:OpR X (binaryOp op) r) (ha:PE X a ta) (hb:PE X b tb):PE X (.BinOp a op b pos) (tOp r ta tb):=by intro pins s σ H Q I h;exact wpAny_BinOp (zQE ha hb I h λv u s2 x y H2 I2 rx ry q=>ho pins s2 σ H2 x y v u Q I2 rx ry q)
def opI {f:Value->Value->Sem Value} {C:Int->Int->Prop} {g:Int->Int->Int}
  (rule:∀(i j:Int) (t u:Tok) (s:Shared) (Q:Value->Shared->Prop) (E:Value->Shared->Prop),C i j->Q (.int (g i j) s.toks) { s with toks:=s.toks+1 }->wpAny (model X.prog X.w) X.A (f (.int i t) (.int j u)) Q E s) :
  OpR X f (rI C λi j=>.int (g i j)):=by
 intro pins s σ H x y v u Q I rx ry h;obtain⟨i,j,rfl,rfl,hc,q⟩:=h;obtain⟨t,rfl⟩:=rx;obtain⟨t',rfl⟩:=ry;exact rule i j t t' s _ _ hc ⟨.int (g i j),H,I.tok _,⟨_,rfl⟩,q⟩
def zQX {f:Value->Value->Sem Value} {g:Int->Int->Int}
  (rule:∀(i j:Int) (t u:Tok) (s:Shared) (Q:Value->Shared->Prop) (E:Value->Shared->Prop),Q (.int (g i j) s.toks) { s with toks:=s.toks+1 }->wpAny (model X.prog X.w) X.A (f (.int i t) (.int j u)) Q E s) :
  OpR X f (rI0 λi j=>.int (g i j)):=by
 intro pins s σ H x y v u Q I rx ry h;obtain⟨i,j,rfl,rfl,q⟩:=h;obtain⟨t,rfl⟩:=rx;obtain⟨t',rfl⟩:=ry;exact rule i j t t' s _ _ ⟨.int (g i j),H,I.tok _,⟨_,rfl⟩,q⟩
def zPY {f:Value->Value->Sem Value} {g:Int->Int->Bool}
  (rule:∀(i j:Int) (t u:Tok) (s:Shared) (Q:Value->Shared->Prop) (E:Value->Shared->Prop),Q (.bool (g i j)) s->wpAny (model X.prog X.w) X.A (f (.int i t) (.int j u)) Q E s) :
  OpR X f (rI0 λi j=>.bl (g i j)):=by
 intro pins s σ H x y v u Q I rx ry h;obtain⟨i,j,rfl,rfl,q⟩:=h;obtain⟨t,rfl⟩:=rx;obtain⟨t',rfl⟩:=ry;exact rule i j t t' s _ _ ⟨.bl (g i j),H,I,rfl,q⟩
def zRF (i j:Int):Prop:=0 < j/\j < 1073741824
def zRE (i j:Int):Prop:=0<=j/\j<=1000000/\i.natAbs < 2 ^ 64
def zQQ (i j:Int):Prop:=(-(2 ^ 64) < i/\i < 2 ^ 64)∨(-(2 ^ 64) < j/\j < 2 ^ 64)
def zQQ.ok {i j:Int} (h:zQQ i j):IntMulOk i j:=by
 rcases h with ⟨h1,h2⟩ | ⟨h1,h2⟩
 ·exact .of_left (intBits_le_64 h1 h2)
 exact .of_right (intBits_le_64 h1 h2)
def zBj:OpR X (binaryOp .Add) (rI0 λi j=>.int (i+j)):=zQX λ_ _ _ _ _ _ _ q=>add_int q
def zIo:OpR X (binaryOp .Sub) (rI0 λi j=>.int (i-j)):=zQX λ_ _ _ _ _ _ _ q=>sub_int q
def zFn:OpR X (binaryOp .Mult) (rI zQQ λi j=>.int (i*j)):=opI λ_ _ _ _ _ _ _ hc q=>mul_int q hc.ok
def zAK:OpR X (binaryOp .FloorDiv) (rI zRF λi j=>.int (i / j)):=opI λi j _ _ _ _ _ hc q=>by have h1:(0:Int) < j:=hc.1;have h2:j < 1073741824:=hc.2;exact floordiv_int ∅ (by rw[Int.fdiv_eq_ediv_of_nonneg i ∅];exact q) (.inl (PyProof.noPylong_small ∅))
def zAl:OpR X (binaryOp .Mod) (rI (λ_ j=>0 < j) λi j=>.int (i%j)):=opI λi j _ _ _ _ _ hc q=>by have h1:(0:Int) < j:=hc;exact mod_int' ∅ (by rw[Int.fmod_eq_emod_of_nonneg i ∅];exact q)
def zKq:OpR X (binaryOp .Pow) (rI zRE λi j=>.int (i ^ j.toNat)):=opI λ_ _ _ _ _ _ _ hc q=>pow_int_small hc.1 hc.2.1 hc.2.2 q
end
def zQT:V->V->Bool
 | .non,.non=>true | .non,.int _=>true | .int _,.non=>true | .non,.bl _=>true | .bl _,.non=>true | .non,.str _=>true | .str _,.non=>true
 | .int _,.int _=>true | .bl _,.bl _=>true | .str _,.str _=>true | .byt _,.byt _=>true
 | .int _,.str _=>true | .str _,.int _=>true | .bl _,.str _=>true | .str _,.bl _=>true
 | _,_=>false
def rEq:R2:=λx y H Q=>zQT x y=true/\Q (.bl (decide (x=y))) H
def rNe:R2:=λx y H Q=>zQT x y=true/\Q (.bl (!decide (x=y))) H
def zKY {i j:Int}:decide (V.int i=V.int j)=(i == j):=by rw[Bool.eq_iff_iff];simp
def zNe {i j:Bool}:decide (V.bl i=V.bl j)=(i == j):=by rw[Bool.eq_iff_iff];simp
def zKX {i j:Str}:decide (V.str i=V.str j)=(i == j):=by rw[Bool.eq_iff_iff];simp
def zKZ {i j:Array UInt8}:decide (V.byt i=V.byt j)=(i.toList == j.toList):=by rw[Bool.eq_iff_iff];cases i;cases j;simp
section
variable {X:Cx} {a b c:Expr} {ta tb tc:TE} {pos:Pos}
def zAw {pins:List (Addr × Obj)} {σ:St} {H:Hp} {s:Shared} {Q:VK} {k k':Bool} (I:Inv X pins σ H s) (q:Q (.bl k) H) (e:k=k'):EP X pins σ Q (.bool k') s:=by subst e;exact⟨.bl k,H,I,rfl,q⟩
def zCb:OpR X (compareOp .Eq) rEq:=by
 intro pins s σ H x y v u Q I rx ry h;obtain⟨hs,q⟩:=h;cases x with
 | non=>
  cases rx;cases y with
  | non=>cases ry;exact PySem.EqNone.eq_none_none (zAw I q (by simp))
  | bl j=>cases ry;exact PySem.EqNone.eq_none_bool (zAw I q (by simp))
  | int j=>obtain⟨t',rfl⟩:=ry;exact PySem.EqNone.eq_none_int (zAw I q (by simp))
  | str j=>obtain⟨t',rfl⟩:=ry;exact PySem.EqNone.eq_none_str (zAw I q (by simp))
  | _=>exact absurd (show false=true from hs) wHM
 | bl i=>
  cases rx;cases y with
  | non=>cases ry;exact PySem.EqNone.eq_bool_none (zAw I q (by simp))
  | bl j=>cases ry;exact eq_bool (zAw I q zNe)
  | str j=>obtain⟨t',rfl⟩:=ry;exact PySem.EqMixed.eq_bool_str (zAw I q (by simp))
  | _=>exact absurd (show false=true from hs) wHM
 | int i=>
  obtain⟨t,rfl⟩:=rx;cases y with
  | non=>cases ry;exact PySem.EqNone.eq_int_none (zAw I q (by simp))
  | int j=>obtain⟨t',rfl⟩:=ry;exact eq_int (zAw I q zKY)
  | str j=>obtain⟨t',rfl⟩:=ry;exact PySem.EqMixed.eq_int_str (zAw I q (by simp))
  | _=>exact absurd (show false=true from hs) wHM
 | str i=>
  obtain⟨t,rfl⟩:=rx;cases y with
  | non=>cases ry;exact PySem.EqNone.eq_str_none (zAw I q (by simp))
  | bl j=>cases ry;exact PySem.EqMixed.eq_str_bool (zAw I q (by simp))
  | int j=>obtain⟨t',rfl⟩:=ry;exact PySem.EqMixed.eq_str_int (zAw I q (by simp))
  | str j=>obtain⟨t',rfl⟩:=ry;exact eq_str (zAw I q zKX)
  | _=>exact absurd (show false=true from hs) wHM
 | byt i=>
  obtain⟨t,rfl⟩:=rx;cases y with
  | byt j=>obtain⟨t',rfl⟩:=ry;exact W.eq_bytes (zAw I q zKZ)
  | _=>exact absurd (show false=true from hs) wHM
 | _=>cases y<;>exact absurd (show false=true from hs) wHM
def zNO:OpR X (compareOp .NotEq) rNe:=by
 intro pins s σ H x y v u Q I rx ry h;obtain⟨hs,q⟩:=h;cases x with
 | non=>
  cases rx;cases y with
  | non=>cases ry;exact PySem.EqNone.ne_none_none (zAw I q (by simp))
  | bl j=>cases ry;exact PySem.EqNone.ne_none_bool (zAw I q (by simp))
  | int j=>obtain⟨t',rfl⟩:=ry;exact PySem.EqNone.ne_none_int (zAw I q (by simp))
  | str j=>obtain⟨t',rfl⟩:=ry;exact PySem.EqNone.ne_none_str (zAw I q (by simp))
  | _=>exact absurd (show false=true from hs) wHM
 | bl i=>
  cases rx;cases y with
  | non=>cases ry;exact PySem.EqNone.ne_bool_none (zAw I q (by simp))
  | bl j=>cases ry;exact ne_bool (zAw I q (congrArg not zNe))
  | str j=>obtain⟨t',rfl⟩:=ry;exact PySem.EqMixed.ne_bool_str (zAw I q (by simp))
  | _=>exact absurd (show false=true from hs) wHM
 | int i=>
  obtain⟨t,rfl⟩:=rx;cases y with
  | non=>cases ry;exact PySem.EqNone.ne_int_none (zAw I q (by simp))
  | int j=>obtain⟨t',rfl⟩:=ry;exact ne_int (zAw I q (congrArg not zKY))
  | str j=>obtain⟨t',rfl⟩:=ry;exact PySem.EqMixed.ne_int_str (zAw I q (by simp))
  | _=>exact absurd (show false=true from hs) wHM
 | str i=>
  obtain⟨t,rfl⟩:=rx;cases y with
  | non=>cases ry;exact PySem.EqNone.ne_str_none (zAw I q (by simp))
  | bl j=>cases ry;exact PySem.EqMixed.ne_str_bool (zAw I q (by simp))
  | int j=>obtain⟨t',rfl⟩:=ry;exact PySem.EqMixed.ne_str_int (zAw I q (by simp))
  | str j=>obtain⟨t',rfl⟩:=ry;exact ne_str (zAw I q (congrArg not zKX))
  | _=>exact absurd (show false=true from hs) wHM
 | byt i=>
  obtain⟨t,rfl⟩:=rx;cases y with
  | byt j=>obtain⟨t',rfl⟩:=ry;exact W.ne_bytes (zAw I q (congrArg not zKZ))
  | _=>exact absurd (show false=true from hs) wHM
 | _=>cases y<;>exact absurd (show false=true from hs) wHM
def zDH:OpR X (compareOp .Lt) (rI0 λi j=>.bl (decide (i < j))):=zPY λ_ _ _ _ _ _ _ q=>lt_int q
def zDt:OpR X (compareOp .LtE) (rI0 λi j=>.bl (decide (i<=j))):=zPY λ_ _ _ _ _ _ _ q=>le_int q
def zKu:OpR X (compareOp .Gt) (rI0 λi j=>.bl (decide (j < i))):=zPY λ_ _ _ _ _ _ _ q=>gt_int q
def zNP:OpR X (compareOp .GtE) (rI0 λi j=>.bl (decide (j<=i))):=zPY λ_ _ _ _ _ _ _ q=>ge_int q
def zKs:OpR X (compareOp .In) (λx y H Q=>∃i j,x=.str i/\y=.str j/\Q (.bl (!(Builtin.Str.occurrences j i 0 j.length 1).isEmpty)) H):=by intro pins s σ H x y v u Q I rx ry h;obtain⟨i,j,rfl,rfl,q⟩:=h;obtain⟨t,rfl⟩:=rx;obtain⟨t',rfl⟩:=ry;exact in_str (zAw I q rfl)
def zNN:OpR X (compareOp .IsNot) (λx y H Q=>y=.non/\Q (.bl (!decide (x=.non))) H):=by
 intro pins s σ H x y v u Q I rx ry h;obtain⟨rfl,q⟩:=h;cases ry;refine isnot_none_gen (zAw I q ?_);cases x<;>first
  | (cases rx;rfl)
  | (obtain⟨t,rfl⟩:=rx;rfl)
def zAc (b:Expr) {op:CmpOp} (h:op≠.In:=by decide) (h2:op≠.NotIn:=by decide):behindInMarks op b=false:=by
 have e1:(op == CmpOp.In)=false:=by cases op<;>first | rfl | exact absurd rfl h
 have e2:(op == CmpOp.NotIn)=false:=by cases op<;>first | rfl | exact absurd rfl h2
 cases b<;>simp[behindInMarks,e1,e2]
theorem zDs {op:CmpOp} {r:R2} (ho:OpR X (compareOp op) r) (ha:PE X a ta) (hb:PE X b tb) (hm:behindInMarks op b=false):PE X (.Compare a [op] [b] pos) (tOp r ta tb):=by intro pins s σ H Q I h;exact wpAny_Compare1 (zQE ha hb I h λv u s2 x y H2 I2 rx ry q=>ho pins s2 σ H2 x y v u Q I2 rx ry q) hm
inductive IsT (Q:Bool->Hp->Prop) (x:V) (H':Hp):Prop
 | mk (k:_):(x=.bl k)->Q k H'->IsT Q x H'
def zOI (t:TE):TT:=λσ H Q=>t σ H λx H'=>IsT Q x H'
def zS {op:CmpOp} {r:R2} (ho:OpR X (compareOp op) r) (ha:PE X a ta) (hb:PE X b tb) (hm:behindInMarks op b=false):PT X (.Compare a [op] [b] pos) (zOI (tOp r ta tb)):=by
 intro pins s σ H Q I h;refine wpAny_isTrue_Compare1 (thn (ha pins s σ H _ I h) λv s1 ⟨x,H1,I1,r1,q1⟩=>thn (hb pins s1 σ H1 _ I1 q1) λu s2 ⟨y,H2,I2,r2,q2⟩=>
  thn (ho pins s2 σ H2 x y v u _ I2 r1 r2 q2) λc s3 ⟨z,H3,I3,r3,k,e,q3⟩=>?_) hm
 subst e;cases r3;exact wpAny_truthy_bool ⟨H3,I3,q3⟩
def zON (r r':R2) (ta tb tc:TE):TE:=λσ H Q=>ta σ H λx H1=>tb σ H1 λy H2=>r x y H2 λz H3=>∃k,z=.bl k/\
 (if k=true then tc σ H3 λw' H4=>r' y w' H4 Q else Q (.bl false) H3)
def zDS {op kQ:CmpOp} {r r':R2} (ho:OpR X (compareOp op) r) (bS:OpR X (compareOp kQ) r') (ha:PE X a ta) (hb:PE X b tb) (hc:PE X c tc)
  (hm:lastMarks [op,kQ] [b,c]=false:=by with_unfolding_all rfl):PT X (.Compare a [op,kQ] [b,c] pos) (zOI (zON r r' ta tb tc)):=by
 intro pins s σ H Q I h;refine isTrue_chain (thn (ha pins s σ H _ I h) λv s1 ⟨x,H1,I1,r1,q1⟩=>test_link (thn (hb pins s1 σ H1 _ I1 q1) λu s2 ⟨y,H2,I2,r2,q2⟩=>
  thn (ho pins s2 σ H2 x y v u _ I2 r1 r2 q2) λd s3 ⟨z,H3,I3,r3,k,e,q3⟩=>?_)) hm
 subst e;cases r3;refine wpAny_truthy_bool ?_;cases k with
 | false=>
  obtain⟨k',e',q'⟩:=q3;cases e';exact ite_ff ⟨H3,I3,q'⟩
 | true=>
  refine ite_tt (test_last (thn (hc pins s3 σ H3 _ I3 q3) λw' s4 ⟨z',H4,I4,r4,q4⟩=>thn (bS pins s4 σ H4 y z' u w' _ I4 r2 r4 q4) λd' s5 aA=>?_));obtain⟨z2,H5,I5,r5,k2,e2,q5⟩:=aA;subst e2;cases r5;exact wpAny_truthy_bool ⟨H5,I5,q5⟩
def zRc (K:W.Frag) (x:V) (H:Hp) (k:Bool):Prop:=
 match x with
 | .non=>k=false
 | .bl b=>k=b
 | .int i=>k=(i != 0)
 | .str y=>y.length<=sizeLine/\k=((y.length:Int) != 0)
 | .byt y=>y.size<=sizeLine/\k=((y.size:Int) != 0)
 | .ref p=>(∃xs,SqL K H p xs/\k=!xs.isEmpty)∨(∃xs,SqT K H p xs/\k=!xs.isEmpty)∨∃kvs,H p=some (.dK kvs)/\k=!kvs.isEmpty
 | _=>False
def zJg {κ:Type} {kvs:List (κ × V)} {vs:List (κ × Value)} (r:KV kvs vs):(!vs.isEmpty)=!kvs.isEmpty:=by cases r<;>rfl
def zFt {xs:List V} {its:List Value} (r:zAv xs its):(!its.toArray.isEmpty)=!xs.isEmpty:=by cases r<;>simp
def zD8:(sizeLine:Nat) < 2 ^ 63:=by rw[sizeLine_eq];decide
def zOE:zRB X (λx H Q=>∃k,zRc X.K x H k/\Q k H):=by
 intro pins s σ H x v Q I rx h;obtain⟨k,e,q⟩:=h;have hl:=zD8;have hs:sizeLine=16777216:=sizeLine_eq;cases x with
 | non=>
  cases rx;have e':k=false:=e;subst e';exact truthy_none ⟨H,I,q⟩
 | bl b=>
  cases rx;have e':k=b:=e;subst e';exact wpAny_truthy_bool ⟨H,I,q⟩
 | int i=>
  obtain⟨t,rfl⟩:=rx;have e':k=(i != 0):=e;subst e';exact PySem.P.truthy_int ⟨H,I,q⟩
 | str y=>
  obtain⟨t,rfl⟩:=rx;obtain⟨hy,e'⟩:y.length<=sizeLine/\k=((y.length:Int) != 0):=e;subst e';exact PySem.P.truthy_str ∅ ⟨H,I.tok _,q⟩
 | byt y=>
  obtain⟨t,rfl⟩:=rx;obtain⟨hy,e'⟩:y.size<=sizeLine/\k=((y.size:Int) != 0):=e;subst e';exact W.truthy_bytes ∅ ⟨H,I.tok _,q⟩
 | ref p=>
  cases rx;have e':(∃xs,SqL X.K H p xs/\k=!xs.isEmpty)∨(∃xs,SqT X.K H p xs/\k=!xs.isEmpty)∨∃kvs,H p=some (.dK kvs)/\k=!kvs.isEmpty:=e;rcases e' with ⟨xs,hx,e'⟩ | ⟨xs,hx,e'⟩ | ⟨kvs,hx,e'⟩
  ·subst e';obtain⟨its,r,pl,hz⟩:=I.list hx;have aD:=r.length;exact wpAny_truthy_list pl.isList (by simp only[wHL];omega) ⟨H,I.tok _,by rw[zFt r];exact q⟩
  ·subst e';obtain⟨its,r,pl,hz⟩:=I.tuple hx;have aD:=r.length;exact truthy_tuple pl (by simp only[wHL];omega) ⟨H,I.tok _,by rw[zFt r];exact q⟩
  subst e';obtain⟨hz,hS,vs,r,m⟩:kvs.length<=sizeLine/\(p == sysModules)=false/\∃vs,KV kvs vs/\s.heap.DictOf (zHL X.prog X.w) p vs:=I.hok p _ hx;have aD:kvs.length=vs.length:=Paired.length r;exact wpAny_truthy_dict hS m ∅ ⟨H,I.tok _,by rw[zJg r];exact q⟩
 | _=>exact (show False from e).elim
def zIi (ha:PE X a ta) (he:∀whole,isTrue a X.env whole=(do let v ← whole;standAt a.pos;holding [v] (truthy v))) :
  PT X a (λσ H Q=>ta σ H λx H'=>∃k,zRc X.K x H' k/\Q k H'):=by
 intro pins s σ H Q I h;exact isTrue_plain (thn (ha pins s σ H _ I h) λv s1 ⟨x,H1,I1,r1,q1⟩=>zOE pins s1 σ H1 x v Q I1 r1 q1) (he _)
inductive RAddS (x:V) (y:V) (H:Hp) (Q:VK):Prop
 | mk (i:_) (j:_):(x=.str i)->(y=.str j)->(i.length+j.length<=sizeLine)->(Q (.str (i++j)) H)->RAddS x y H Q
def zW:OpR X (binaryOp .Add) (λx y H Q=>RAddS x y H Q):=by intro pins s σ H x y v u Q I rx ry h;obtain⟨i,j,rfl,rfl,hz,q⟩:=h;obtain⟨t,rfl⟩:=rx;obtain⟨t',rfl⟩:=ry;exact add_str (λt' tk=>⟨.str (i++j),H,I.tok _,⟨_,rfl⟩,q⟩) hz
def zIF {x:V} {us:List Value} (r:zAv [x] us):∃u,us=[u]/\zAV x u:=by
 cases r with
 | cons r1 r2=>cases r2;exact⟨_,rfl,r1⟩
def zL2 {x y:V} {us:List Value} (r:zAv [x,y] us):∃u w',us=[u,w']/\zAV x u/\zAV y w':=by
 cases r with
 | cons r1 r2=>
  cases r2 with
  | cons r3 r4=>cases r4;exact⟨_,_,rfl,r1,r3⟩
inductive RMax2 (xs:List V) (H:Hp) (Q:VK):Prop
 | mk (i:_) (j:_):(xs=[.int i,.int j])->(Q (.int (if j > i then j else i)) H)->RMax2 xs H Q
def zLm (hc:X.calm=true):zBp X (.builtin "max") (λxs H Q=>RMax2 xs H Q):=by
 intro pins s σ H xs us Q I r h;obtain⟨i,j,rfl,q⟩:=h;obtain⟨u,w',rfl,⟨t,rfl⟩,⟨t',rfl⟩⟩:=zL2 r;refine max_two_ints (I.ok.hd hc) λh' tk k=>⟨_,H,I.kept k,?_,q⟩;by_cases hj:j > i
 ·rw[wHF hj,wHF hj];exact⟨_,rfl⟩
 rw[wHD hj,wHD hj];exact⟨_,rfl⟩
inductive RMin2 (xs:List V) (H:Hp) (Q:VK):Prop
 | mk (i:_) (j:_):(xs=[.int i,.int j])->(Q (.int (if j < i then j else i)) H)->RMin2 xs H Q
def zLk (hc:X.calm=true):zBp X (.builtin "min") (λxs H Q=>RMin2 xs H Q):=by
 intro pins s σ H xs us Q I r h;obtain⟨i,j,rfl,q⟩:=h;obtain⟨u,w',rfl,⟨t,rfl⟩,⟨t',rfl⟩⟩:=zL2 r;refine min_two_ints (I.ok.hd hc) λh' tk k=>⟨_,H,I.kept k,?_,q⟩;by_cases hj:j < i
 ·rw[wHF hj,wHF hj];exact⟨_,rfl⟩
 rw[wHD hj,wHD hj];exact⟨_,rfl⟩
def zHb:zBp X (.type "int") (λxs H Q=>(∃i,xs=[.int i]/\Q (.int i) H)∨∃k,xs=[.bl k]/\Q (.int (if k then 1 else 0)) H):=by
 intro pins s σ H xs us Q I r h;rcases h with ⟨i,rfl,q⟩ | ⟨k,rfl,q⟩
 ·obtain⟨u,rfl,t,rfl⟩:=zIF r;exact call_int_int ⟨.int i,H,I,⟨_,rfl⟩,q⟩
 obtain⟨u,rfl,r1⟩:=zIF r;cases r1;exact call_int_bool ⟨.int (if k then 1 else 0),H,I.tok _,⟨_,rfl⟩,q⟩
inductive RStrI (xs:List V) (H:Hp) (Q:VK):Prop
 | mk (i:_):(xs=[.int i])->(i.natAbs.log2 < 1920)->(Q (.str (toString i)) H)->RStrI xs H Q
def zAu:zBp X (.type "str") (λxs H Q=>RStrI xs H Q):=by intro pins s σ H xs us Q I r h;obtain⟨i,rfl,hz,q⟩:=h;obtain⟨u,rfl,t,rfl⟩:=zIF r;exact PySem.P.str_of_int hz ⟨.str _,H,I.tok _,⟨_,rfl⟩,q⟩
end
structure ObjM (h:Heap) (x dx C:Addr) (mA:Str->Option Value):Prop where
 obj:h.get? x=some (W.instObj C dx)
 ns:h.Ns1 dx mA
 ne:dx≠x
def zGJ {h:Heap} {dx:Addr} {mA:Str->Option Value} (n:h.Ns1 dx mA):∃od,h.get? dx=some od/\∀name,W.lookIn name od=some (mA name):=by
 obtain⟨o,es,ep,ho,hd,hk,_,hm⟩:=n;refine⟨o,ho,λname=>?_⟩;have e:=hm name;unfold nsFind findBy at e;rw[← Array.find?_toList] at e;unfold W.lookIn;rw[hd];dsimp only
 split
 ·rename_i y q
  rw[q] at e;exact congrArg some e
 rename_i q
 rw[q] at e;have a:es.toList.any (·.refKey)=false:=by rw[List.any_eq_false];intro y hy;obtain⟨z,t,eN⟩:=hk y (Array.mem_toList_iff.mp hy);simp[DictEntry.refKey,eN]
 have a':¬es.toList.any (·.refKey)=true:=by rw[a];exact wHM
 rw[wHD a'];exact congrArg some e
def ObjM.look {h:Heap} {x dx C:Addr} {mA:Str->Option Value} (I:ObjM h x dx C mA):∃od,W.InstAt h x (W.instObj C dx) C (some od)/\∀name,W.lookIn name od=some (mA name):=
 let ⟨od,ho,hl⟩:=zGJ I.ns
 ⟨od,⟨I.obj,rfl,rfl,ho⟩,hl⟩
section
variable {prog:Program} {w:World} {A:Around} {E:Value->Shared->Prop} {s:Shared} {K:W.Frag} {x dx C f:Addr} {mA:Str->Option Value} {name:Str} {v:Value}
def zOn {expr:Bool} {Q:Value->Shared->Prop} (X:K.In s.heap) (I:ObjM s.heap x dx C mA) (hg:W.plainGet K C name=true) (hh:W.hasDictIn K C=true)
  (ha:W.findIn K (.ref C) name=some none) (hv:mA name=some v) (bU:W.handedIn v=true) (h:Q v { s with toks:=s.toks+1 }) :
  wpAny (model prog w) A (getAttr (.ref x) name expr) Q E s:=by
 obtain⟨od,J,hl⟩:=I.look;exact W.get_value X J (W.plainGet_of hg).1 (W.findObj_own hh ha rfl (by rw[hl,hv])) bU h
def zMx {pl:Sem Bool} {Q:Value × List Value->Shared->Prop} (X:K.In s.heap) (I:ObjM s.heap x dx C mA) (hg:W.plainGet K C name=true)
  (hf:W.findIn K (.ref C) name=some (some (.ref f))) (ht:W.isFn K (.ref f)=true) (hv:mA name=none) (h:Q (.ref f,[.ref x]) s) :
  wpAny (model prog w) A (getMethod (.ref x) name pl) Q E s:=by
 obtain⟨od,J,hl⟩:=I.look;exact W.method_fn X J (W.plainGet_of hg).1 (W.plainGet_of hg).2 hf (beq_iff_eq.mp ht) (by show (W.lookIn name od).map (·.isSome)=some false;rw[hl,hv];rfl) h
def zN2 {ns:List Str} {Q:Unit->Shared->Prop} (X:K.In s.heap) (I:ObjM s.heap x dx C mA)
  (hs:W.findIn K (.ref C) "__setattr__"=some (some (.builtin "object.__setattr__"))) (hp:W.plainOver K C=true) (ht:W.takerIn K C name=some none) (hh:W.hasDictIn K C=true)
  (hw:PySem.Within mA ns) (cT:ns.length<=sizeLine)
  (h:∀h',ObjM h' x dx C (λy=>if y=name then some v else mA y)->Heap.SameBut dx s.heap h'->Q PUnit.unit { s with heap:=h',toks:=s.toks+2 }) :
  wpAny (model prog w) A (setAttr (.ref x) name v) Q E s:=by
 obtain⟨od,J,hl⟩:=I.look;refine W.set_plain X J hs (W.osa_open (s:={ s with toks:=s.toks+1 }) (r:=none) X J hp ht λb=>?_);obtain⟨cd,hc,bQ⟩:=W.any_some hh;have hx:s.heap.get? x=some ⟨.ref C,some dx,.plain,#[]⟩:=I.obj;refine wHu (wHx (wHu (wHu (wpAny_loadPart hx (wHu (PySem.W.Looks.here (s:={ s with toks:=s.toks+1 }) (W.looks_clsIn X hc) ?_))))));rw[bQ];refine wHx (a:=some dx) (wHu (wHx (wHu ?_)));refine wpAny_nsSet1 (s:={ s with toks:=s.toks+1 }) I.ns λh' iI dU=>?_;obtain⟨oD,esD,epD,fV,gG,gH⟩:=iI.count (PySem.Within.cons name v hw);refine wHu (wpAny_lookBehind fV (by rw[gG];exact pastItsLine_dict (wHI gH (by rw[wH3];omega))) ?_);exact wHx (h _ ⟨(dU.2 _ (Ne.symm I.ne)).trans I.obj,iI,I.ne⟩ dU)
def zMn {R:Result->Shared->Prop} {vs:List Value} {kw:List (Str × Value)} (X:K.In s.heap) (hm:W.makesIn K C=true)
  (hi:W.findIn K (.ref C) "__init__"=some (some (.ref f))) (hf:W.typeIn K (.ref f)=some (.type "function"))
  (h:codeAny (model prog w) (A.under (.builtin "type.__call__" ⟨.ref C::vs,kw⟩)) (.call (.ref f) ⟨.ref (s.heap.objs.size+1)::vs,kw⟩) (W.InitBack (s.heap.objs.size+1) R)
   { s with heap:=(s.heap.push W.emptyDict).push (W.instObj C s.heap.objs.size) }) :
  codeAny (model prog w) A (.call (.ref C) ⟨vs,kw⟩) R s:=by
 obtain⟨hh,g,d,t,os⟩:=s;exact W.make_core (W.makes_of X hm) (W.looks_findIn X hi) (λself=>W.bind_fn X self hf) (.inl rfl) h
end
def zHo (f:Str) (v:V):List (Str × V)->List (Str × V)
 | []=>[(f,v)]
 | (g,x)::r=>if g=f then (g,v)::r else (g,x)::zHo f v r
theorem zE4 (f g:Str) (v:V):∀fs:List (Str × V),(zHo f v fs).lookup g=if g=f then some v else fs.lookup g
 | []=>by
  show List.lookup g [(f,v)]=_;by_cases h:g=f
  ·have hb:(g == f)=true:=beq_iff_eq.mpr h;simp only[List.lookup,hb,wHF h]
  have hb:(g == f)=false:=beq_eq_false_iff_ne.mpr h;simp only[List.lookup,hb,wHD h]
 | (k,x)::r=>by
  have ih:=zE4 f g v r;rw[show zHo f v ((k,x)::r)=(if k=f then (k,v)::r else (k,x)::zHo f v r) from rfl];by_cases hk:k=f
  ·rw[wHF hk];by_cases h:g=k
   ·have hb:(g == k)=true:=beq_iff_eq.mpr h;simp only[List.lookup,hb,wHF (h.trans hk)]
   have hb:(g == k)=false:=beq_eq_false_iff_ne.mpr h;simp only[List.lookup,hb,wHD (λe:g=f=>h (e.trans hk.symm))]
  rw[wHD hk];by_cases h:g=k
  ·have hb:(g == k)=true:=beq_iff_eq.mpr h;simp only[List.lookup,hb,wHD (λe:g=f=>hk (h.symm.trans e))]
  have hb:(g == k)=false:=beq_eq_false_iff_ne.mpr h;simp only[List.lookup,hb];exact ih
theorem zE8 (f:Str) (v:V):∀fs:List (Str × V),f∈(zHo f v fs).map (·.1)/\∀g,g∈fs.map (·.1)->g∈(zHo f v fs).map (·.1)
 | []=>⟨by simp[zHo],λg h=>by simp at h⟩
 | (k,x)::r=>by
  obtain⟨i1,i2⟩:=zE8 f v r;rw[show zHo f v ((k,x)::r)=(if k=f then (k,v)::r else (k,x)::zHo f v r) from rfl];by_cases hk:k=f
  ·rw[wHF hk];subst hk;exact⟨by simp,λg h=>by simpa using h⟩
  rw[wHD hk];refine⟨?_,λg h=>?_⟩
  ·rw[wH6];exact wHV _ i1
  rw[wH6] at h ⊢;rcases wIQ h with e | e
  ·exact List.mem_cons.mpr (.inl e)
  exact wHV _ (i2 g e)
theorem zE6 (f:Str) (v:V):∀fs:List (Str × V),(zHo f v fs).length<=fs.length+1
 | []=>by simp[zHo]
 | (k,x)::r=>by
  have ih:=zE6 f v r;rw[show zHo f v ((k,x)::r)=(if k=f then (k,v)::r else (k,x)::zHo f v r) from rfl];by_cases hk:k=f
  ·rw[wHF hk,wH3,wH3];omega
  rw[wHD hk,wH3,wH3];omega
def zHk.some_of {v:V} {o:Option Value} (r:zHk (some v) o):∃u,o=some u/\zAV v u:=by
 cases o with
 | none=>exact (show False from r).elim
 | some u=>exact⟨u,rfl,r⟩
def zHk.none_of {o:Option Value} (r:zHk none o):o=none:=by
 cases o with
 | none=>rfl
 | some u=>exact (show False from r).elim
def zGU {v:V} {u:Value} (r:zAV v u):W.handedIn u=true:=by
 cases v with
 | non=>cases (show u=Value.none from r);rfl
 | bl b=>cases (show u=Value.bool b from r);rfl
 | int i=>obtain⟨t,e⟩:=(show ∃t,u=Value.int i t from r);cases e;rfl
 | str x=>obtain⟨t,e⟩:=(show ∃t,u=Value.str x t from r);cases e;rfl
 | byt b=>obtain⟨t,e⟩:=(show ∃t,u=Value.bytes b t from r);cases e;rfl
 | flt b=>obtain⟨t,e⟩:=(show ∃t,u=Value.float b t from r);cases e;rfl
 | ref a=>cases (show u=Value.ref a from r);rfl
 | ty n=>cases (show u=Value.type n from r);rfl
section
variable {P:Program} {w:World} {H:Hp} {h:Heap} {a C dx:Addr} {fs:List (Str × V)}
def zFV (hok:HOk P w H h) (e:H a=some (.ins C dx fs)):∃mA,ObjM h a dx C mA/\(∀f,zHk (fs.lookup f) (mA f))/\PySem.Within mA (fs.map (·.1))/\fs.length<=1000/\H dx=some (.own a):=by obtain⟨d,z,ne,ob,mA,n,r,q⟩:=(show ObjOk P w H h a (.ins C dx fs) from hok a _ e);exact⟨mA,⟨ob,n,ne⟩,r,q,z,d⟩
end
structure Cls (K:W.Frag) (C:Addr):Prop where
 pg:W.plainGet K C Str.empty=true
 hd:W.hasDictIn K C=true
 po:W.plainOver K C=true
 sa:W.findIn K (.ref C) "__setattr__"=some (some (.builtin "object.__setattr__"))
def Cls.get {K:W.Frag} {C:Addr} (c:Cls K C) (f:Str):W.plainGet K C f=true:=c.pg
def zDB (K:W.Frag) (C:Addr) (f:Str):Prop:=W.findIn K (.ref C) f=some none
def zDB.taker {K:W.Frag} {C:Addr} {f:Str} (n:zDB K C f):W.takerIn K C f=some none:=by
 unfold W.takerIn;rw[show W.findIn K (.ref C) f=some none from n]
 rfl
structure Meth (K:W.Frag) (C:Addr) (m:Str) (f:Addr):Prop where
 at_:W.findIn K (.ref C) m=some (some (.ref f))
 fn:W.isFn K (.ref f)=true
 kp:W.keepIn K (.ref f)=true
section
variable {X:Cx} {pins:List (Addr × Obj)} {σ:St} {H:Hp} {s:Shared} {a C dx:Addr} {fs:List (Str × V)} {f:Str} {v:V} {A:Around} {E:Value->Shared->Prop}
def zJi {b:Bool} {Q:Value->Shared->Prop} (I:Inv X pins σ H s) (e:H a=some (.ins C dx fs)) (c:Cls X.K C) (n:zDB X.K C f) (l:fs.lookup f=some v)
  (h:∀u s',Inv X pins σ H s'->zAV v u->Q u s'):wpAny (model X.prog X.w) A (getAttr (.ref a) f b) Q E s:=by
 obtain⟨mA,O,r,_,_,_⟩:=zFV I.hok e;obtain⟨u,hu,ru⟩:=zHk.some_of (v:=v) (o:=mA f) (by rw[← l];exact r f);exact zOn I.kIn O (c.get f) c.hd n hu (zGU ru) (h u _ (I.tok _) ru)
def zFv {m:Str} {g:Addr} {pl:Sem Bool} {Q:Value × List Value->Shared->Prop} (I:Inv X pins σ H s) (e:H a=some (.ins C dx fs)) (c:Cls X.K C) (k:Meth X.K C m g) (l:fs.lookup m=none)
  (h:Q (.ref g,[.ref a]) s):wpAny (model X.prog X.w) A (getMethod (.ref a) m pl) Q E s:=by
 obtain⟨mA,O,r,_,_,_⟩:=zFV I.hok e;have hn:mA m=none:=zHk.none_of (by rw[← l];exact r m);exact zMx I.kIn O (c.get m) k.at_ k.fn hn h
def zIQ {y:V} {u:Value} {Q:Unit->Shared->Prop} (I:Inv X pins σ H s) (e:H a=some (.ins C dx fs)) (c:Cls X.K C) (n:zDB X.K C f) (hl:fs.length < 1000) (ry:zAV y u)
  (h:∀s',Inv X pins σ (upd H a (.ins C dx (zHo f y fs))) s'->Q PUnit.unit s'):wpAny (model X.prog X.w) A (setAttr (.ref a) f u) Q E s:=by
 obtain⟨mA,O,r,wi,_,ho⟩:=zFV I.hok e;have hz:(fs.map (·.1)).length<=sizeLine:=by rw[wHt,sizeLine_eq];omega
 refine zN2 I.kIn O c.sa c.po n.taker c.hd wi hz λh' O' sb=>h _ ?_;have hd:∃o,h'.get? dx=some o:=let ⟨o,_,_,e',_⟩:=O'.ns;⟨o,e'⟩;refine I.write (x:=a) (e:=dx) (by rw[e];exact True.intro) (.inr ho) (λb q hb z=>(sb.2 b hb).trans z) hd ?_;refine⟨by rw[zJ O.ne];exact ho,?_,O.ne,O'.obj,_,O'.ns,λg=>?_,λg hg=>?_⟩
 ·have:=zE6 f y fs;omega
 ·show zHk ((zHo f y fs).lookup g) (if g=f then some u else mA g);rw[zE4];by_cases q:g=f
  ·rw[wHF q,wHF q];exact ry
  rw[wHD q,wHD q];exact r g
 by_cases q:g=f
 ·rw[q];exact (zE8 f y fs).1
 refine (zE8 f y fs).2 g (wi g λz=>hg ?_);show (if g=f then some u else mA g)=none;rw[wHD q];exact z
def Inv.made (I:Inv X pins σ H s):Inv X pins σ (upd (upd H s.heap.objs.size (.own (s.heap.objs.size+1))) (s.heap.objs.size+1) (.ins C s.heap.objs.size []))
  { s with heap:=(s.heap.push W.emptyDict).push (W.instObj C s.heap.objs.size) }:=by
 have e1:(s.heap.push W.emptyDict).get? s.heap.objs.size=some W.emptyDict:=wHG s.heap rfl;have e2:((s.heap.push W.emptyDict).push (W.instObj C s.heap.objs.size)).get? (s.heap.objs.size+1)=some (W.instObj C s.heap.objs.size):=by
  have:=wHG (s.heap.push W.emptyDict) (o:=W.instObj C s.heap.objs.size) rfl
  rwa [wIk] at this
 have e3:(s.heap.push W.emptyDict).Ns s.heap.objs.size (λ_=>none):=⟨W.emptyDict,#[],_,e1,rfl,(λe he=>absurd he (by simp)),λ_=>rfl⟩;have I1:=I.laid (a:=s.heap.objs.size) (o:=.own (s.heap.objs.size+1)) (h':=s.heap.push W.emptyDict) (t':=s.toks) (λb u q=>wHz _ q) (wHA _) ⟨_,e1⟩;refine I1.laid (a:=s.heap.objs.size+1) (o:=.ins C s.heap.objs.size []) (t':=s.toks) (λb u q=>wHz _ q) (wIG (wIk _ _)) ?_;have ne:s.heap.objs.size≠s.heap.objs.size+1:=wHO (wIv _);refine⟨by rw[zJ ne,zB],wIp _,ne,e2,λ_=>none,(Heap.Ns1.of_empty e3).at λo q=>wHz _ q,λ_=>True.intro,λy hy=>absurd rfl hy⟩
def zLr {prog:Program} {w:World} {env:Env} {e:Expr} {f:Str} {pos:Pos} {s:Shared} {Q:Value->Shared->Prop} (hb:attributeBase e f env (eval e env)=eval e env)
  (h:wpAny (model prog w) A (eval e env) (λo s₁=>wpAny (model prog w) A (getAttr o f true) Q E s₁) E s):wpAny (model prog w) A (eval (.Attribute e f pos) env) Q E s:=
 Attribute_any_ h (by rw[arm_eval_Attribute,hb])
end
def zRm (K:W.Frag) (ta:TE) (f:Str):TE:=λσ H Q=>ta σ H λx H1=>∃a C dx fs v,x=.ref a/\H1 a=some (.ins C dx fs)/\Cls K C/\zDB K C f/\fs.lookup f=some v/\Q v H1
def zRq (K:W.Frag) (ta tv:TE) (f:Str):TS:=λD σ H=>tv σ H λy H1=>ta σ H1 λx H2=>∃a C dx fs,x=.ref a/\H2 a=some (.ins C dx fs)/\Cls K C/\zDB K C f/\fs.length < 1000/\
 D.nx σ (upd H2 a (.ins C dx (zHo f y fs)))
section
variable {X:Cx} {o e value:Expr} {f:Str} {pos pos':Pos} {ta tv:TE}
def zC9 (he:PE X e ta) (hb:attributeBase e f X.env (eval e X.env)=eval e X.env):PE X (.Attribute e f pos) (zRm X.K ta f):=by intro pins s σ H Q I h;refine zLr hb (thn (he pins s σ H _ I h) λu s1 aA=>?_);obtain⟨x,H1,I1,rx,a,C,dx,fs,v,ex,ea,c,n,l,q⟩:=aA;subst ex;obtain rfl:u=Value.ref a:=rx;exact zJi I1 ea c n l λu' s2 I2 ru=>⟨v,H1,I2,ru,q⟩
def zML (ha:PE X o ta) (hv:PE X value tv) (hs:swapsWith value (some (.Attribute o f pos')) pos.line X.env=pure false):PS X (.Assign [.Attribute o f pos'] value pos) (zRq X.K ta tv f):=by intro pins s σ H D I h;refine plainObj_wpAny_Assign_Attribute (thn (hv pins s σ H _ I h) λu s1 ⟨y,H1,I1,ry,q⟩=>thn (ha pins s1 σ H1 _ I1 q) λov s2 ⟨x,H2,I2,rx,a,C,dx,fs,ex,ea,c,n,l,q2⟩=>?_) hs;subst ex;obtain rfl:ov=Value.ref a:=rx;exact zIQ I2 ea c n l ry λs3 I3=>⟨σ,_,I3,q2⟩
end
section
variable {X:Cx} {pins:List (Addr × Obj)} {σ:St} {H:Hp} {s:Shared} {A:Around} {E:Value->Shared->Prop} {Q:Value->Shared->Prop} {c:Value} {b:Bool}
inductive TyOf (K:W.Frag) (H:Hp):V->Value->Prop where
 | non:TyOf K H .non (.type "NoneType")
 | bl (x:Bool):TyOf K H (.bl x) (.type "bool")
 | int (i:Int):TyOf K H (.int i) (.type "int")
 | str (x:Str):TyOf K H (.str x) (.type "str")
 | flt (x:UInt64):TyOf K H (.flt x) (.type "float")
 | lst {a:Addr} {xs:List V} (e:H a=some (.lst xs)):TyOf K H (.ref a) (.type "list")
 | frz {a:Addr} {o:Obj} {xs:List V} (e:H a=some (.frz o (.lst xs))):TyOf K H (.ref a) (.type "list")
 | tup {a:Addr} {xs:List V} (e:H a=some (.tup xs)):TyOf K H (.ref a) (.type "tuple")
 | dK {a:Addr} {kvs:List (Key × V)} (e:H a=some (.dK kvs)):TyOf K H (.ref a) (.type "dict")
 | dT {a:Addr} {kvs:List (List Key × V)} (e:H a=some (.dT kvs)):TyOf K H (.ref a) (.type "dict")
 | ins {a C dx:Addr} {fs:List (Str × V)} (e:H a=some (.ins C dx fs)) (cl:Cls K C) (ha:W.findIn K (.ref C) "__class__"=some (some (.builtin "object.__class__")))
   (hn:W.specialIn K (.builtin "object.__class__") "__get__"=some (some (.builtin "getset_descriptor.__get__"))) (htk:W.takesIn K (.builtin "object.__class__")=some true)
   (hm:W.mroIn K C (.type "object")=some true):TyOf K H (.ref a) (.ref C)
def zKI {x:V} {u t:Value} (I:Inv X pins σ H s) (rx:zAV x u) (ty:TyOf X.K H x t) (e:W.kitOne X.K t c=some b) (h:∀tk,Q (.bool b) { s with toks:=tk }) :
  wpAny (model X.prog X.w) A (call (.builtin "isinstance") [u,c]) Q E s:=by
 cases ty with
 | non=>cases (show u=Value.none from rx);exact W.kia_one W.kitx_none I.kIn True.intro e (λz=>nomatch z) h
 | bl y=>cases (show u=Value.bool y from rx);exact W.kia_one W.kitx_bool I.kIn True.intro e (λz=>nomatch z) h
 | int i=>obtain⟨t,q⟩:=(show ∃t,u=Value.int i t from rx);cases q;exact W.kia_one W.kitx_int I.kIn True.intro e (λz=>nomatch z) h
 | str y=>obtain⟨t,q⟩:=(show ∃t,u=Value.str y t from rx);cases q;exact W.kia_one W.kitx_str I.kIn True.intro e (λz=>nomatch z) h
 | flt y=>obtain⟨t,q⟩:=(show ∃t,u=Value.float y t from rx);cases q;exact W.kia_one W.kitx_float I.kIn True.intro e (λz=>nomatch z) h
 | @lst a xs ea=>
  cases (show u=Value.ref a from rx);obtain⟨_,_,n,_,h1⟩:=(show ObjOk X.prog X.w H s.heap a (.lst xs) from I.hok a _ ea);exact W.kia_one W.kitx_list I.kIn ⟨_,h1,rfl⟩ e (λz=>nomatch z) h
 | @frz a ob xs ea=>
  cases (show u=Value.ref a from rx);obtain⟨_,_,_,n,_,h1⟩:=(show ObjOk X.prog X.w H s.heap a (.frz ob (.lst xs)) from I.hok a _ ea);exact W.kia_one W.kitx_list I.kIn ⟨_,h1,rfl⟩ e (λz=>nomatch z) h
 | @tup a xs ea=>
  cases (show u=Value.ref a from rx);obtain⟨_,_,_,p⟩:=(show ObjOk X.prog X.w H s.heap a (.tup xs) from I.hok a _ ea);obtain⟨o,h1,h2,_⟩:=p;exact W.kia_one W.kitx_tuple I.kIn ⟨o,h1,h2⟩ e (λz=>nomatch z) h
 | @dK a kvs ea=>
  cases (show u=Value.ref a from rx);obtain⟨_,_,vs,_,p⟩:=(show ObjOk X.prog X.w H s.heap a (.dK kvs) from I.hok a _ ea);obtain⟨o,es,ep,h1,h2,_⟩:=p;exact W.kia_one W.kitx_dict I.kIn ⟨o,h1,h2.1⟩ e (λz=>nomatch z) h
 | @dT a kvs ea=>
  cases (show u=Value.ref a from rx);obtain⟨_,_,xs,_,o,es,ep,h1,h2,_⟩:=(show ObjOk X.prog X.w H s.heap a (.dT kvs) from I.hok a _ ea);exact W.kia_one W.kitx_dict I.kIn ⟨o,h1,h2.1⟩ e (λz=>nomatch z) h
 | @ins a C dx fs ea cl ha hn htk hm=>
  cases (show u=Value.ref a from rx);obtain⟨mA,O,_⟩:=zFV I.hok ea;obtain⟨od,J,_⟩:=O.look;exact W.kia_one (W.kitx_own (cl.get _) cl.hd ha hn htk hm) I.kIn J e (λz=>nomatch z) h
end
structure Room (k:Nat) (A:Around):Prop where
 hd:A.handled=none
 dp:A.depth+3*k+5 < recursionLimit
 un:A.units+16*k+200 < cLine
def Room.mono {j k:Nat} {A:Around} (r:Room k A) (h:j<=k):Room j A:=⟨r.hd,by have:=r.dp;omega,by have:=r.un;omega⟩
def Room.deeper {k:Nat} {A:Around} (r:Room (k+1) A) (env:Env):Room k (A.deeper env):=
 ⟨r.hd,by have:=r.dp;show A.depth+1+3*k+5 < _;omega,by have:=r.un;show A.units+3+16*k+200 < _;omega⟩
def Room.in1 {k:Nat} {A:Around} (r:Room (k+1) A):Room k A.in1:=
 ⟨r.hd,by have:=r.dp;show A.depth+3*k+5 < _;omega,by have:=r.un;show A.units+1+16*k+200 < _;omega⟩
def zJe {A:Around} {C:Addr} {us:List Value} {kw:List (Str × Value)}:(A.under (.builtin "type.__call__" ⟨.ref C::us,kw⟩)).depth=A.depth+1:=by first | rfl | simp[Around.under,Code.weight,Code.isCreation,Code.isGuard,Code.isCaller,Code.frames,Code.isFrame,guardIds]
theorem zJd {A:Around} {C:Addr} {us:List Value} {kw:List (Str × Value)}:(A.under (.builtin "type.__call__" ⟨.ref C::us,kw⟩)).units=A.units+1:=by first | rfl | simp[Around.under,Code.cUnits,Code.frames,Code.isFrame]
theorem Room.make {k:Nat} {A:Around} (r:Room (k+1) A) (C:Addr) (us:List Value) (kw:List (Str × Value)):Room k (A.under (.builtin "type.__call__" ⟨.ref C::us,kw⟩)):=
 ⟨r.hd,by have:=r.dp;rw[zJe];omega,by have:=r.un;rw[zJd];omega⟩
def Room.depth {k:Nat} {A:Around} (r:Room k A):A.depth < recursionLimit:=by have:=r.dp;omega
def Room.units {k:Nat} {A:Around} (r:Room k A):A.units+64 < cLine:=by have:=r.un;omega
def zMC:TA:=λ_ H Q=>Q [] H
def zAx (ta:TE) (tr:TA):TA:=λσ H Q=>ta σ H λx H1=>tr σ H1 λxs H2=>Q (x::xs) H2
section
variable {X:Cx} {e:Expr} {es:List Expr} {te:TE} {t:TA} {pos:Pos}
def zE:PA X [] zMC:=λ_ _ _ _ H Q I h=>Calls.spliced_nil ⟨[],H,I,.nil,h⟩
def zG (ha:PE X e te) (hr:PA X es t) (hs:starEach (e::es) X.env=(false,eval e X.env)::starEach es X.env:=by rfl):PA X (e::es) (zAx te t):=by intro pos pins s σ H Q I h;rw[hs];show wpAny _ _ (spliced ((false,eval e X.env)::backTo pos (starEach es X.env))) _ _ s;refine Calls.spliced_cons (thn (ha pins s σ H _ I h) λu s1 aA=>?_);obtain⟨x,H1,I1,r1,q1⟩:=aA;exact thn (hr pos pins s1 σ H1 _ I1 q1) λus s2 ⟨xs,H2,I2,r2,q2⟩=>⟨x::xs,H2,I2,.cons r1 r2,q2⟩
def zRh (t:TA):TE:=λσ H Q=>t σ H λxs H1=>xs.length<=sizeLine/\∀p,H1 p=none->Q (.ref p) (upd H1 p (.tup xs))
def zOM (t:TA):TE:=λσ H Q=>t σ H λxs H1=>xs.length<=sizeLine/\∀p,H1 p=none->Q (.ref p) (upd H1 p (.lst xs))
def zAT {x1} (h:PA X es t):PE X (.Tuple es x1 pos) (zRh t):=by intro pins s σ H Q I hq;refine wpAny_Tuple_spliced (thn (h pos pins s σ H _ I hq) λus s1 ⟨xs,H1,I1,r,z,q⟩=>⟨by rw[← r.length];exact z,?_⟩);have hf:H1 s1.heap.objs.size=none:=I1.hok.fresh (wHA _);refine⟨.ref s1.heap.objs.size,upd H1 s1.heap.objs.size (.tup xs),I1.laid (t':=s1.toks) (λb u e=>wHz _ e) (wHA _) ?_,rfl,q _ hf⟩;exact⟨z,us,r,⟨_,wHG _ rfl,rfl,_,rfl⟩⟩
def zAd (h:PA X es t):PE X (.List es pos) (zOM t):=by intro pins s σ H Q I hq;refine wpAny_List_spliced (thn (h pos pins s σ H _ I hq) λus s1 ⟨xs,H1,I1,r,z,q⟩=>⟨by rw[← r.length];exact z,?_⟩);have hf:H1 s1.heap.objs.size=none:=I1.hok.fresh (wHA _);refine⟨.ref s1.heap.objs.size,upd H1 s1.heap.objs.size (.lst xs),I1.laid (t':=s1.toks) (λb u e=>wHz _ e) (wHA _) ?_,rfl,q _ hf⟩;exact⟨z,us,0,r,wHG _ rfl⟩
end
abbrev Sp:=List V->Hp->VK->XK->Prop
abbrev CXT:=List Env->Hp->Shared->XK->Value->Shared->Prop
structure Env0 (P:Program) (w:World) (K:W.Frag) (mg:Str->Option Value) (base:Heap) (A:Around) (outer:List Env) (s:Shared) (H:Hp):Prop where
 frames:A.frames=some outer
 mod:Mod K mg base
 bs:∀b o,base.get? b=some o->s.heap.get? b=some o/\H b=none
 bsz:base.objs.size<=s.heap.objs.size
 funs:s.heap.FunFrames base outer
 frf:∀b∈frs outer,H b=none
 hok:HOk P w H s.heap
 bare:AllBare s.gens
def CE (outer:List Env) (P:Program) (w:World) (H:Hp) (s:Shared) (Q:VK) (u:Value) (s':Shared):Prop:=
 ∃v H',s'.os=s.os/\AllBare s'.gens/\Un (frs outer) [] H H' s.heap s'.heap/\HOk P w H' s'.heap/\zAV v u/\Q v H'
def CR (CX:CXT) (outer:List Env) (P:Program) (w:World) (H:Hp) (s:Shared) (Q:VK) (E:XK) (r:Result) (s':Shared):Prop:=
 match r with
 | .ok (.ret u)=>CE outer P w H s Q u s'
 | .ok _=>False
 | .error e=>CX outer H s E e s'
structure FnOk (P:Program) (w:World) (K:W.Frag) (mg:Str->Option Value) (base:Heap) (CX:CXT) (k:Nat) (f:Addr) (fd:FuncData) (ps:List Str) (sp:Sp):Prop where
 len:∀vs H Q E,sp vs H Q E->vs.length=ps.length
 run:∀(A:Around) (outer:List Env) (s:Shared) (H:Hp) (args:Args) (us:List Value) (vs:List V) (Q:VK) (E:XK),Room k A->Env0 P w K mg base A outer s H->BindsTo s fd args (ps.zip us)->zAv vs us->sp vs H Q E->
  codeAny (model P w) A (.call (.ref f) args) (CR CX outer P w H s Q E) s
def FnOk.mono {P:Program} {w:World} {K:W.Frag} {mg:Str->Option Value} {base:Heap} {CX:CXT} {j k:Nat} {f:Addr} {fd:FuncData} {ps:List Str} {sp:Sp} (F:FnOk P w K mg base CX j f fd ps sp) (h:j<=k) :
  FnOk P w K mg base CX k f fd ps sp:=⟨F.len,λA outer s H args us vs Q E hr=>F.run A outer s H args us vs Q E (hr.mono h)⟩
def FnOk.imp {P:Program} {w:World} {K:W.Frag} {mg:Str->Option Value} {base:Heap} {CX:CXT} {k:Nat} {f:Addr} {fd:FuncData} {ps:List Str} {sp sp':Sp} (F:FnOk P w K mg base CX k f fd ps sp)
  (h:∀vs H Q E,sp' vs H Q E->sp vs H Q E):FnOk P w K mg base CX k f fd ps sp':=
 ⟨λvs H Q E q=>F.len vs H Q E (h _ _ _ _ q),λA outer s H args us vs Q E hr he hb hv hs=>F.run A outer s H args us vs Q E hr he hb hv (h _ _ _ _ hs)⟩
def Env0.make {P:Program} {w:World} {K:W.Frag} {mg:Str->Option Value} {base:Heap} {A:Around} {outer:List Env} {s:Shared} {H:Hp} (e:Env0 P w K mg base A outer s H) (C:Addr) (us:List Value) (kw:List (Str × Value)) :
  Env0 P w K mg base (A.under (.builtin "type.__call__" ⟨.ref C::us,kw⟩)) outer s H:=⟨by first | exact e.frames | (simpa [Around.under,Code.envs,Code.isFrame,pushEnvs] using e.frames),e.mod,e.bs,e.bsz,e.funs,e.frf,e.hok,e.bare⟩
def Env0.in1 {P:Program} {w:World} {K:W.Frag} {mg:Str->Option Value} {base:Heap} {A:Around} {outer:List Env} {s:Shared} {H:Hp} (e:Env0 P w K mg base A outer s H) :
  Env0 P w K mg base A.in1 outer s H:=⟨e.frames,e.mod,e.bs,e.bsz,e.funs,e.frf,e.hok,e.bare⟩
section
variable {X:Cx} {pins:List (Addr × Obj)} {σ:St} {H:Hp} {s s':Shared}
def Inv.env0 (I:Inv X pins σ H s):Env0 X.prog X.w X.K X.mg X.base X.A X.stack s H:=
 ⟨I.ok.frames,I.ok.mod,I.bs,wHI I.ok.bsz I.sz,I.stack,I.stkFree,I.hok,I.bare⟩
def Inv.after {Q:VK} {u:Value} (I:Inv X pins σ H s) (h:CE X.stack X.prog X.w H s Q u s'):EP X pins σ Q u s':=by obtain⟨v,H',os,bare,un,hok,r,q⟩:=h;obtain⟨hh,g,d,t,kP⟩:=s';obtain rfl:kP=s.os:=os;exact⟨v,H',I.call (h':=hh) (g':=g) (d':=d) (t':=t) (ch:=[]) un hok bare (λb z=>absurd z (by simp)),r,q⟩
end
def zOP (sp:Sp) (aG:List V) (E:XK) (t:TA):TE:=λσ H Q=>t σ H λvs H1=>sp (vs++aG) H1 Q E
inductive TMeth (C:Addr) (m:Str) (sp:Sp) (aG:List V) (E:XK) (t:TA) (σ:St) (Q:VK) (x:V) (H1:Hp):Prop
 | mk (a:_) (dx:_) (fs:_):(x=.ref a)->(H1 a=some (.ins C dx fs))->(fs.lookup m=none/\
 t σ H1 λvs H2=>sp (x::(vs++aG)) H2 Q E)->TMeth C m sp aG E t σ Q x H1
def zOL (C:Addr) (m:Str) (sp:Sp) (aG:List V) (E:XK) (ta:TE) (t:TA):TE:=λσ H Q=>ta σ H λx H1=>TMeth C m sp aG E t σ Q x H1
def zQk (C:Addr) (sp:Sp) (aG:List V) (E:XK) (t:TA):TE:=λσ H Q=>t σ H λvs H1=>∀x dx,H1 x=none->H1 dx=none->dx≠x->
 sp (.ref x::(vs++aG)) (upd (upd H1 dx (.own x)) x (.ins C dx [])) (λv H2=>v=.non/\Q (.ref x) H2) E
def zAg (K:W.Frag) (fd:FuncData) (ps:List Str) (ds:List Value):Prop:=
 ∀(s:Shared) (us:List Value),K.In s.heap->(us++ds).length=ps.length->BindsTo s fd ⟨us,[]⟩ (ps.zip (us++ds))
def zAg.all {K:W.Frag} {fd:FuncData} {ps:List Str} (h:∀us:List Value,us.length=ps.length->bindArgs fd ⟨us,[]⟩=pure (ps.zip us)):zAg K fd ps []:=λs us _ hl=>by rw[wHQ] at hl ⊢;exact .of_eq (h us hl)
def zDg (CX:CXT) (X:Cx) (E:XK):Prop:=∀(pins:List (Addr × Obj)) (σ:St) (H:Hp) (s:Shared) (e:Value) (s':Shared),Inv X pins σ H s->CX X.stack H s E e s'->X.xe e s'
section
variable {X:Cx} {CX:CXT} {k:Nat} {f C:Addr} {fd:FuncData} {ps:List Str} {sp:Sp} {aG:List V} {ds:List Value} {E:XK} {x m:Str} {p pos apos:Pos} {e o:Expr} {es:List Expr} {ta:TE} {t:TA}
def zJW {pins:List (Addr × Obj)} {σ:St} {H:Hp} {s:Shared} {Q:VK} {us:List Value} {vs:List V} (F:FnOk X.prog X.w X.K X.mg X.base CX k f fd ps sp) (hr:Room k X.A) (hb:zAg X.K fd ps ds) (hd:zAv aG ds) (hx:zDg CX X E)
  (I:Inv X pins σ H s) (r:zAv vs us) (h:sp (vs++aG) H Q E):wpAny (model X.prog X.w) X.A (call (.ref f) us) (EP X pins σ Q) X.xe s:=by
 have r2:zAv (vs++aG) (us++ds):=r.append hd;have hl:(us++ds).length=ps.length:=by rw[← r2.length];exact F.len _ _ _ _ h
 refine wpAny_call (codeAny_mono (F.run X.A X.stack s H ⟨us,[]⟩ (us++ds) (vs++aG) Q E hr I.env0 (hb s us I.kIn hl) r2 h) λr s' hq=>?_);cases r with
 | error e=>exact hx pins σ H s e s' I hq
 | ok fl=>
  cases fl with
  | ret u=>exact I.after hq
  | next=>exact wIh hq
  | brk=>exact wIh hq
  | cont=>exact wIh hq
def zAB (F:FnOk X.prog X.w X.K X.mg X.base CX k f fd ps sp) (hr:Room k X.A) (hg:Gl X x) (hm:X.mg x=some (.ref f)) (hk:W.keepIn X.K (.ref f)=true) (hb:zAg X.K fd ps ds) (hd:zAv aG ds) (hx:zDg CX X E)
  (ha:PA X (e::es) t) (bG:(x == ("__debug__":Str))=false:=by decide) (he:starEach (e::es) X.env=(false,eval e X.env)::starEach es X.env:=by rfl) (aM:(backTo pos (starEach es X.env)).any (·.1)=false:=by rfl) :
  PE X (.Call (.Name x p) (e::es) [] pos) (zOP sp aG E t):=by
 intro pins s σ H Q I h;refine wpAny_Call_Name_kw (zBA I hg hm ?_ bG);refine W.callWith_K (h₀:=X.base) I.ok.mod.kin hk (thn (ha pos pins s σ H _ I h) λus s1 ⟨vs,H1,I1,r,q⟩=>⟨I1.kIn,?_⟩) he aM;exact zJW F hr hb hd hx I1 r q
def zEw {pl:Sem Bool} (he:PE X o ta) (c:Cls X.K C) (hm:Meth X.K C m f) (F:FnOk X.prog X.w X.K X.mg X.base CX k f fd ps sp) (hr:Room k X.A) (hb:zAg X.K fd ps ds) (hd:zAv aG ds) (hx:zDg CX X E) (ha:PA X (e::es) t)
  (aF:starEach (e::es) X.env=(false,eval e X.env)::starEach es X.env:=by rfl) (aM:(backTo pos (starEach es X.env)).any (·.1)=false:=by rfl)
  (ht:eval (.Call (.Attribute o m apos) (e::es) [] pos) X.env=(do
   let ov ← eval o X.env
   standAt apos.atName
   let (f,first) ← holding [ov] (getMethod ov m pl)
   callWith pos f first (backTo pos (starEach (e::es) X.env)) (backToKw pos (keywordEach [] X.env))):=by rfl) :
  PE X (.Call (.Attribute o m apos) (e::es) [] pos) (zOL C m sp aG E ta t):=by
 intro pins s σ H Q I h;refine W.methodCall_KW (pl:=pl) (thn (he pins s σ H _ I h) λu s1 ⟨x,H1,I1,rx,a,dx,fs,ex,ea,l,q⟩=>?_) ht;subst ex;obtain rfl:u=Value.ref a:=rx;refine zFv I1 ea c hm l ?_;refine W.callWith_K (first:=[.ref a]) (h₀:=X.base) I.ok.mod.kin hm.kp (thn (ha pos pins s1 σ H1 _ I1 q) λus s2 ⟨vs,H2,I2,r,q2⟩=>⟨I2.kIn,?_⟩) aF aM;exact zJW (us:=.ref a::us) (vs:=.ref a::vs) F hr hb hd hx I2 (.cons rfl r) q2
def zBd {pl:Sem Bool} (he:PE X o ta) (c:Cls X.K C) (hm:Meth X.K C m f) (F:FnOk X.prog X.w X.K X.mg X.base CX k f fd ps sp) (hr:Room k X.A) (hb:zAg X.K fd ps ds) (hd:zAv aG ds) (hx:zDg CX X E)
  (ht:eval (.Call (.Attribute o m apos) [] [] pos) X.env=(do
   let ov ← eval o X.env
   standAt apos.atName
   let (f,first) ← holding [ov] (getMethod ov m pl)
   callWith pos f first (backTo pos (starEach [] X.env)) (backToKw pos (keywordEach [] X.env))):=by rfl) :
  PE X (.Call (.Attribute o m apos) [] [] pos) (zOL C m sp aG E ta zMC):=by
 intro pins s σ H Q I h;refine W.methodCall_KW (pl:=pl) (thn (he pins s σ H _ I h) λu s1 ⟨x,H1,I1,rx,a,dx,fs,ex,ea,l,q⟩=>?_) ht;subst ex;obtain rfl:u=Value.ref a:=rx;refine zFv I1 ea c hm l ?_;exact W.callWith_K0 (first:=[.ref a]) I1.kIn hm.kp (zJW (us:=[.ref a]) (vs:=[.ref a]) F hr hb hd hx I1 (.cons rfl .nil) q)
structure Mk (K:W.Frag) (C f:Addr):Prop where
 makes:W.makesIn K C=true
 init:W.findIn K (.ref C) "__init__"=some (some (.ref f))
 fn:W.isFn K (.ref f)=true
 kp:W.keepIn K (.ref C)=true
def zLI {pins:List (Addr × Obj)} {σ:St} {H:Hp} {s:Shared} {Q:VK} {us:List Value} {vs:List V} (M:Mk X.K C f) (F:FnOk X.prog X.w X.K X.mg X.base CX k f fd ps sp) (hr:Room (k+1) X.A) (hb:zAg X.K fd ps ds) (hd:zAv aG ds)
  (hx:zDg CX X E) (I:Inv X pins σ H s) (r:zAv vs us)
  (h:∀x dx,H x=none->H dx=none->dx≠x->sp (.ref x::(vs++aG)) (upd (upd H dx (.own x)) x (.ins C dx [])) (λv H2=>v=.non/\Q (.ref x) H2) E) :
  wpAny (model X.prog X.w) X.A (call (.ref C) us) (EP X pins σ Q) X.xe s:=by
 have hq:=h (s.heap.objs.size+1) s.heap.objs.size (I.hok.fresh (Nat.le_succ _)) (I.hok.fresh (wHA _)) (wHO (wIv _));have I2:=Inv.made (C:=C) I;have r2:zAv (V.ref (s.heap.objs.size+1)::(vs++aG)) (Value.ref (s.heap.objs.size+1)::(us++ds)):=.cons rfl (r.append hd);have hl:(Value.ref (s.heap.objs.size+1)::us++ds).length=ps.length:=by have e:=r2.length;rw[F.len _ _ _ _ hq] at e;exact e.symm
 refine wpAny_call (zMn (f:=f) I.kIn M.makes M.init (beq_iff_eq.mp M.fn) (codeAny_mono (F.run _ X.stack _ _ ⟨Value.ref (s.heap.objs.size+1)::us,[]⟩ (Value.ref (s.heap.objs.size+1)::(us++ds)) _ _ E (hr.make C us [])
  (I2.env0.make C us []) (hb _ (Value.ref (s.heap.objs.size+1)::us) I2.kIn hl) r2 hq) λr s' bV=>?_))
 cases r with
 | error e=>exact hx pins σ _ _ e s' I2 bV
 | ok fl=>
  cases fl with
  | ret u=>
   obtain⟨v,H',I3,rv,ev,q3⟩:=I2.after bV;subst ev;exact⟨rv,⟨V.ref (s.heap.objs.size+1),H',I3,rfl,q3⟩⟩
  | next=>exact wIh bV
  | brk=>exact wIh bV
  | cont=>exact wIh bV
def zIj (M:Mk X.K C f) (F:FnOk X.prog X.w X.K X.mg X.base CX k f fd ps sp) (hr:Room (k+1) X.A) (hg:Gl X x) (hm:X.mg x=some (.ref C)) (hb:zAg X.K fd ps ds) (hd:zAv aG ds) (hx:zDg CX X E)
  (bG:(x == ("__debug__":Str))=false:=by decide):PE X (.Call (.Name x p) [] [] pos) (zQk C sp aG E zMC):=by
 intro pins s σ H Q I h;refine wpAny_Call_Name_kw (zBA I hg hm ?_ bG);exact W.callWith_K0 I.kIn M.kp (zLI (us:=[]) M F hr hb hd hx I .nil h)
end
structure FnScope (N P:List Str) (sc:Scope):Prop where
 kind:sc.kind=.function
 co:sc.isCoroutine=false
 gen:sc.isGenerator=false
 nd:N.Nodup
 pre:N.take P.length=P
 par:∀x∈P,sc.names.lookup x=some .local∨sc.names.lookup x=some .cell
 nofree:∀y∈sc.names,y.2≠.free
theorem zHe {kindOf:Str->Option NameKind} {x:Str}:∀{binds:List (Str × Value)} {m:Str->Option Value},(∀v,(x,v)∉binds)->bindL kindOf binds m x=m x
 | [],_,_=>rfl
 | (n,v)::r,m,h=>by
  unfold bindL;rw[zHe λw hw=>h w (wHV _ hw)]
  split
  ·have:x≠n:=by rintro rfl;exact h v wIg
   simp[this]
  rfl
theorem zHg {kindOf:Str->Option NameKind} {x:Str}:∀{binds:List (Str × Value)} {m:Str->Option Value},(∀v,(x,v)∉binds)->bindC kindOf binds m x=m x
 | [],_,_=>rfl
 | (n,v)::r,m,h=>by
  unfold bindC;rw[zHg λw hw=>h w (wHV _ hw)]
  split
  ·rfl
  have:x≠n:=by rintro rfl;exact h v wIg
  simp[this]
theorem zHf {kindOf:Str->Option NameKind} {x:Str} {v:Value}:∀{P:List Str} {vs:List Value} {i:Nat} {m:Str->Option Value},P.Nodup->P[i]?=some x->vs[i]?=some v->kindOf x=some .local->
  bindL kindOf (P.zip vs) m x=some v
 | [],_,_,_,_,h,_,_=>by simp at h
 | _::_,[],_,_,_,_,h,_=>by simp at h
 | p::P,w::vs,0,m,nd,h1,h2,hk=>by simp at h1 h2;subst h1;subst h2;show bindL kindOf ((p,w)::P.zip vs) m p=_;unfold bindL;rw[zHe λv hv=>(List.nodup_cons.mp nd).1 (List.of_mem_zip hv).1,wHF hk];simp
 | p::P,w::vs,i+1,m,nd,h1,h2,hk=>by show bindL kindOf ((p,w)::P.zip vs) m x=_;unfold bindL;exact zHf (i:=i) (List.nodup_cons.mp nd).2 (by simpa using h1) (by simpa using h2) hk
theorem zHh {kindOf:Str->Option NameKind} {x:Str} {v:Value}:∀{P:List Str} {vs:List Value} {i:Nat} {m:Str->Option Value},P.Nodup->P[i]?=some x->vs[i]?=some v->kindOf x≠some .local->
  bindC kindOf (P.zip vs) m x=some v
 | [],_,_,_,_,h,_,_=>by simp at h
 | _::_,[],_,_,_,_,h,_=>by simp at h
 | p::P,w::vs,0,m,nd,h1,h2,hk=>by simp at h1 h2;subst h1;subst h2;show bindC kindOf ((p,w)::P.zip vs) m p=_;unfold bindC;rw[zHg λv hv=>(List.nodup_cons.mp nd).1 (List.of_mem_zip hv).1,wHD hk];simp
 | p::P,w::vs,i+1,m,nd,h1,h2,hk=>by show bindC kindOf ((p,w)::P.zip vs) m x=_;unfold bindC;exact zHh (i:=i) (List.nodup_cons.mp nd).2 (by simpa using h1) (by simpa using h2) hk
def zCP (N:List Str) (vs:List V):St:=vs.map some++List.replicate (N.length-vs.length) none
def zD9 (CX:CXT) (P:Program) (w:World) (K:W.Frag) (mg:Str->Option Value) (base:Heap) (N:List Str) (qual:Str) (scope:Scope) (f:Addr) (cd:Value) (A:Around) (outer:List Env) (s:Shared) (H:Hp) (E:XK):Cx where
 prog:=P
 w:=w
 K:=K
 mg:=mg
 base:=base
 A:=A.deeper (envOfC qual scope s.heap.objs.size f cd)
 N:=N
 s₀:=s
 H₀:=H
 env:=envOfC qual scope s.heap.objs.size f cd
 outer:=outer
 stack:=envOfC qual scope s.heap.objs.size f cd::outer
 ex:=[]
 calm:=true
 fn:=λ_=>true
 pn:=[]
 xe:=λe s'=>wpAny (model P w) (A.deeper (envOfC qual scope s.heap.objs.size f cd)) (leaving (envOfC qual scope s.heap.objs.size f cd) e) (λ_ s''=>CX outer H s E e s'') (λe' s''=>CX outer H s E e' s'') s'
def zI7 {sc:Scope} {n:Nat} {x:Str} (h:sc.names.lookup x=some .cell):∃c,(cellsFrom n sc.names []).lookup x=some c:=by have q:=W.cellsFrom_some sc.names n [] (.inl h);exact Option.isSome_iff_exists.mp q
def zGR {CX:CXT} {P:Program} {w:World} {K:W.Frag} {mg:Str->Option Value} {base:Heap} {N ps:List Str} {qual:Str} {scope:Scope} {f:Addr} {cd:Value} {A:Around} {outer:List Env} {s s1:Shared} {H:Hp} {E:XK} {us:List Value} {vs:List V}
  (S:FnScope N ps scope) (hd:A.handled=none) (e0:Env0 P w K mg base A outer s H) (hl:vs.length=ps.length) (r:zAv vs us)
  (x:InCallC s s.heap.objs.size (bindL (envOfC qual scope s.heap.objs.size f cd).kindOf (ps.zip us) λ_=>none) (cellsFrom (s.heap.objs.size+1) scope.names []) (bindC (envOfC qual scope s.heap.objs.size f cd).kindOf (ps.zip us) λ_=>none) s1) :
  Inv (zD9 CX P w K mg base N qual scope f cd A outer s H E) [] (zCP N vs) H s1:=by
 have aM:ps.length<=N.length:=by have:=congrArg List.length S.pre;rw[wHS] at this;omega
 obtain⟨h1,tk,rfl,hk⟩:=x.done;have fP:∀b:Addr,b∉(zD9 CX P w K mg base N qual scope f cd A outer s H E).ex:=λb z=>absurd (show b∈([]:List Addr) from z) (by simp);refine⟨⟨e0.mod,S.kind,rfl,rfl,wHA _,λy z c h1 h2=>?_,λy hy=>?_,λy c _ h=>?_,λ_=>hd,Around.frames_deeper e0.frames,.inr ⟨rfl,rfl⟩,λb z=>absurd z (fP b),e0.bs,e0.bsz,λb _ _=>fP b,λb z=>absurd z (fP b),e0.funs,e0.frf⟩,
  rfl,e0.bare,Un.kept hk,⟨_,x.toInCall.ns,λi y v h1 h2 h3=>?_⟩,λy c h=>⟨_,x.cell y c h⟩,e0.hok.fresh (wHA _),λy c h=>?_,λp hp=>absurd (show p∈([]:List (Addr × Obj)) from hp) (by simp),e0.hok.kept hk,?_⟩
 ·exact name_of_addr x.apart (PySem.mem_of_lookup h1) (PySem.mem_of_lookup h2)
 ·have hy:scope.names.lookup y=some .cell∨scope.names.lookup y=some .free:=hy;rcases hy with hy | hy
  ·exact zI7 hy
  exact absurd rfl (S.nofree _ (PySem.mem_of_lookup hy))
 ·exact wIC (x.above y c (PySem.mem_of_lookup h))
 ·have hi:i < vs.length:=by
   unfold zCP at h2;by_cases hi:i < vs.length
   ·exact hi
   rw[wHK (by simpa using hi)] at h2;rw[List.getElem?_replicate] at h2
   split at h2<;>cases h2
  have ha:vs[i]?=some v:=by
   unfold zCP at h2;rw[wHJ (by simpa using hi),wHB] at h2;cases e:vs[i]? with
   | none=>rw[e] at h2;cases h2
   | some a=>rw[e] at h2;cases h2;rfl
  obtain⟨u,hu,rv⟩:=r.get ha;have hp:ps[i]?=some y:=by rw[← S.pre,List.getElem?_take_of_lt ∅];exact h1
  have ndP:ps.Nodup:=by rw[← S.pre];exact S.nd.sublist (List.take_sublist _ _)
  refine⟨u,rv,?_⟩;rcases S.par y (wIe hp) with k | k
  ·exact .inl ⟨k,zHf ndP hp hu k⟩
  obtain⟨c,e⟩:=zI7 (n:=s.heap.objs.size+1) k;refine .inr ⟨.inl k,c,e,?_⟩;have q:=x.cell y c e;rw[zHh ndP hp hu (by show scope.names.lookup y≠_;rw[k];decide)] at q;exact q
 ·exact e0.hok.fresh (wIC (x.above y c (PySem.mem_of_lookup h)))
 unfold zCP;show _=N.length;rw[wHy,wHt,wIB];omega
def zPJ {CX:CXT} {P:Program} {w:World} {K:W.Frag} {mg:Str->Option Value} {base:Heap} {k:Nat} {f:Addr} {name qual:Str} {params:Arguments} {body:List Stmt} {scope:Scope} {dV kV doc pm cdv ct oc:Value} {an od:Option Addr}
  {cI:Array (Option Value)} {N ps:List Str} {sp:Sp} (lk:K.lookup f=some ⟨oc,od,.func (W.fnOf name qual params body scope dV kV doc pm an cdv ct),cI⟩) (aO:W.codeIn K cdv qual=true) (S:FnScope N ps scope)
  (len:∀vs H Q E,sp vs H Q E->vs.length=ps.length)
  (aR:∀(A:Around) (outer:List Env) (s:Shared) (H:Hp) (vs:List V) (Q:VK) (E:XK),Room k (A.deeper (envOfC qual scope s.heap.objs.size f cdv))->sp vs H Q E->
   ∃t,PSs (zD9 CX P w K mg base N qual scope f cdv A outer s H E) body t/\t { nx:=λ_ H'=>Q .non H',rt:=Q } (zCP N vs) H) :
  FnOk P w K mg base CX (k+1) f (W.fnOf name qual params body scope dV kV doc pm an cdv ct) ps sp:=by
 refine⟨len,λA outer s H args us vs Q E hr e0 hb r bL=>?_⟩;have hl:=len _ _ _ _ bL;have KX:K.In s.heap:=e0.mod.kin.keeps λb o e=>(e0.bs b o e).1;have lim:s.heap.NoLimit:=e0.mod.nolimit.keeps λb o e=>(e0.bs b o e).1;have fZ:∀y∈ps.zip us,scope.names.lookup y.1=some .local∨(scope.names.lookup y.1=some .cell/\((cellsFrom (s.heap.objs.size+1) scope.names []).lookup y.1).isSome=true):=λ⟨n,v⟩ hy=>by
  rcases S.par n (List.of_mem_zip hy).1 with q | q
  ·exact .inl q
  exact .inr ⟨q,W.cellsFrom_some _ _ _ (.inl q)⟩
 refine codeAny_call_function hr.depth (KX _ _ lk) rfl S.co S.gen rfl (W.codeRec_of KX aO) (hb _ _ _ _ ?_);refine wpAny_newFunctionEnv_cells S.kind fZ λenv he s1 x=>?_;subst he;refine⟨lim.keeps x.toInCall.keep,codeAny_func ?_⟩;obtain⟨t,ht,hq⟩:=aR A outer s H vs Q E (hr.deeper _) bL;have I:Inv (zD9 CX P w K mg base N qual scope f cdv A outer s H E) [] (zCP N vs) H s1:=zGR S hr.hd e0 hl r x;refine wH4 (ht [] s1 (zCP N vs) H _ I hq) (λfl s' hs=>?_) λe s' hs=>hs;have fin:∀{σ':St} {H':Hp} {v:V} {u:Value},Inv (zD9 CX P w K mg base N qual scope f cdv A outer s H E) [] σ' H' s'->zAV v u->Q v H'->CE outer P w H s Q u s':=
  λ{σ' H' v u} J rv q=>⟨v,H',J.os,J.bare,J.base,J.hok,rv,q⟩
 cases fl with
 | ret u=>
  obtain⟨v,σ',H',J,rv,q⟩:=hs;exact fin J rv q
 | next=>
  obtain⟨σ',H',J,q⟩:=hs;exact fin (v:=V.non) (u:=Value.none) J rfl q
 | brk=>
  obtain⟨_,_,_,q⟩:=hs;exact wIh q
 | cont=>
  obtain⟨_,_,_,q⟩:=hs;exact wIh q
section
variable {X:Cx} {x:Str} {p pos:Pos} {e:Expr} {es:List Expr} {t:TA} {id T:String} {r:List V->Hp->VK->Prop}
def tCB (r:List V->Hp->VK->Prop) (t:TA):TE:=λσ H Q=>t σ H λvs H1=>r vs H1 Q
def zU (hc:zBp X (.builtin id) r) (hg:Gl X x) (hm:X.mg x=none) (hv:bootBuiltins x=some (.builtin id)) (ha:PA X (e::es) t) (hn:x≠"__name__":=by decide) (bG:(x == ("__debug__":Str))=false:=by decide)
  (he:starEach (e::es) X.env=(false,eval e X.env)::starEach es X.env:=by rfl) (aM:(backTo pos (starEach es X.env)).any (·.1)=false:=by rfl):PE X (.Call (.Name x p) (e::es) [] pos) (tCB r t):=by
 intro pins s σ H Q I h;refine wpAny_Call_Name_kw (zE7 I hg hm hv ?_ hn bG);exact PyProof.Rows.callWith_builtin1 (thn (ha pos pins s σ H _ I h) λus s1 ⟨vs,H1,I1,r1,q1⟩=>hc pins s1 σ H1 vs us Q I1 r1 q1) he aM
def zAt (hc:zBp X (.type T) r) (hg:Gl X x) (hm:X.mg x=none) (hv:bootBuiltins x=some (.type T)) (ha:PA X (e::es) t) (hn:x≠"__name__":=by decide) (bG:(x == ("__debug__":Str))=false:=by decide)
  (he:starEach (e::es) X.env=(false,eval e X.env)::starEach es X.env:=by rfl) (aM:(backTo pos (starEach es X.env)).any (·.1)=false:=by rfl):PE X (.Call (.Name x p) (e::es) [] pos) (tCB r t):=by
 intro pins s σ H Q I h;refine wpAny_Call_Name_kw (zE7 I hg hm hv ?_ hn bG);exact PyProof.Rows.callWith_type1 (thn (ha pos pins s σ H _ I h) λus s1 ⟨vs,H1,I1,r1,q1⟩=>hc pins s1 σ H1 vs us Q I1 r1 q1) he aM
end
end L2
namespace HT
open PySem PyProof.Rows
section
open PySem.SeqAt
open PySem.AutoSeq1 (wpAny_loadPart')
open PySem.MeetsSeq PySem.MeetsSeq2 PySem.MeetsSeq3
end
section
variable {prog:Program} {w:World} {A:Around} {E:Value->Shared->Prop} {s:Shared}
def sIx (n d:Nat):Option Int->Nat
 | none=>d
 | some v=>if v < 0 then (v+(n:Int)).toNat else min v.toNat n
def sIx_none (n d:Nat):sIx n d none=d:=rfl
def sIx_nat (n d k:Nat):sIx n d (some (k:Int))=min k n:=by show (if (k:Int) < 0 then ((k:Int)+(n:Int)).toNat else min (k:Int).toNat n)=min k n;rw[wHD ∅,wIs]
theorem zOY (n d:Nat) (hd:d<=n) (o:Option Int):sIx n d o<=n:=by
 cases o with
 | none=>exact hd
 | some v=>
  show (if v < 0 then (v+(n:Int)).toNat else min v.toNat n)<=n;by_cases hv:v < 0
  ·rw[wHF hv];omega
  rw[wHD hv];exact Nat.min_le_right _ _
def zLh (v:Int) (n d:Nat):(if v < 0 then max (v+(n:Int)) 0 else min v (n:Int))=((sIx n d (some v):Nat):Int):=by
 show (if v < 0 then max (v+(n:Int)) 0 else min v (n:Int))=(((if v < 0 then (v+(n:Int)).toNat else min v.toNat n):Nat):Int);by_cases hv:v < 0
 ·simp only[wHF hv];omega
 simp only[wHD hv];omega
def zJn (lo hi:Option Int) (n:Nat):Builtin.Slice.sliceAdjust lo hi 1 (n:Int)=(((sIx n 0 lo:Nat):Int),((sIx n n hi:Nat):Int)):=by
 have h1:¬((1:Int) < 0):=by omega
 unfold Builtin.Slice.sliceAdjust;simp only[h1,if_false];refine Prod.ext ?_ ?_
 ·cases lo with
  | none=>rfl
  | some v=>exact zLh v n 0
 cases hi with
 | none=>rfl
 | some v=>exact zLh v n n
def zIV (i j:Nat):Builtin.Slice.slicePlaces (i:Int) (j:Int) 1=j-i:=by
 unfold Builtin.Slice.slicePlaces;have h1:(1:Int) > 0:=by omega
 simp only[h1,if_true,Int.ediv_one]
 split<;>omega
def zFf {v:Value} {o:Option Int} {Q:Option Int->Shared->Prop} (p:IsPart v o) (h:Q o s):wpAny (model prog w) A (Builtin.Slice.slicePartIndex v) Q E s:=by
 cases p with
 | none=>exact slicePart_none h
 | int i t=>exact slicePart_int h
def zDD {sl:Addr} {vl vu:Value} {lo hi:Option Int} {n:Nat} {Q:Int × Int × Nat->Shared->Prop} (hs:s.heap.IsSliceOf sl vl vu .none) (pl:IsPart vl lo) (pu:IsPart vu hi)
  (h:Q (((sIx n 0 lo:Nat):Int),1,sIx n n hi-sIx n 0 lo) s):wpAny (model prog w) A (Builtin.Slice.sliceApplied (.ref sl) (pure (n:Int))) Q E s:=by
 obtain⟨os,fU,hcs,iM⟩:=id hs;unfold Builtin.Slice.sliceApplied Builtin.Slice.sliceFields;refine wHu (wHu (wIq fU iM (x:=vl) rfl (wHu (wIq fU iM (x:=vu) rfl (wHu (wIq fU iM (x:=.none) rfl (wHx ?_)))))));refine wHu (slicePart_none ?_);show wpAny _ _ (if ((1:Int) == 0)=true then _ else _) _ _ s;rw[wHD ⋯];refine wHu (zFf pl (wHu (zFf pu (wHu (wHx ?_)))));show wpAny _ _ (match Builtin.Slice.sliceAdjust lo hi 1 (n:Int) with | (lo,hi)=>pure (lo,(1:Int),Builtin.Slice.slicePlaces lo hi 1)) _ _ s;rw[zJn lo hi n];show wpAny _ _ (pure (((sIx n 0 lo:Nat):Int),(1:Int),Builtin.Slice.slicePlaces ((sIx n 0 lo:Nat):Int) ((sIx n n hi:Nat):Int) 1)) _ _ s;rw[zIV];exact wHx h
def zLT (xs:Array Value) (i k:Nat):((List.range k).filterMap λ(m:Nat)=>xs[((i:Int)+(m:Int)*1).toNat]?).toArray=((xs.toList.drop i).take k).toArray:=by
 have e:(λ(m:Nat)=>xs[((i:Int)+(m:Int)*1).toNat]?)=λm=>xs[i+m]?:=by
  funext m
  have:((i:Int)+(m:Int)*1).toNat=i+m:=by omega
  rw[this]
 rw[e];have:=pick_run xs i k;rw[List.filterMap_map] at this;have e2:((λx=>xs[x]?)∘λx=>i+x)=λm=>xs[i+m]?:=rfl;rw[e2] at this;rw[this]
theorem getItem_tuple_cut {t sl:Addr} {items:Array Value} {vl vu:Value} {lo hi:Option Int} {Q:Value->Shared->Prop} (ht:IsTup s.heap t items) (hs:s.heap.IsSliceOf sl vl vu .none) (pl:IsPart vl lo) (pu:IsPart vu hi)
  (hw:¬(sIx items.size 0 lo=0/\sIx items.size items.size hi=items.size))
  (h:Q (.ref s.heap.objs.size) { s with heap:=s.heap.push { cls:=.type "tuple",data:=.seq ((items.toList.drop (sIx items.size 0 lo)).take (sIx items.size items.size hi-sIx items.size 0 lo)).toArray } })
  (cT:items.size<=sizeLine):wpAny (model prog w) A (getItem (.ref t) (.ref sl)) Q E s:=by
 have bI:sizeOk (.seq ((items.toList.drop (sIx items.size 0 lo)).take (sIx items.size items.size hi-sIx items.size 0 lo)).toArray):=by show ((items.toList.drop (sIx items.size 0 lo)).take (sIx items.size items.size hi-sIx items.size 0 lo)).toArray.size<=sizeLine;rw[wHL,wHS,wIu,wH2];omega
 have hj:sIx items.size items.size hi<=items.size:=zOY _ _ (wHA _) hi;obtain⟨os,fU,hcs,iM⟩:=id hs;have hTs:s.TypeIs (.ref sl) "slice":=⟨os,fU,hcs⟩;unfold getItem
 try with_reducible refine wIn ?_
 first | refine wHu (wHx ?_) | skip
 refine wHu (wpAny_sequenceKey ht.typeIs ⋯ ?_);refine wHu (wpAny_callSpecial?_slot (name:=Str.ofString "__getitem__") ht.typeIs PyProof.Rows.slot_tuple_getitem
  (wpAny_call_entry PyProof.Rows.slot_tuple_getitem ht.typeIs entry_tuple_getitem ?_ (args_tuple_getitem _ _)))
 show wpAny _ _ (Builtin.Tuple.tupleItemsOf (.ref t) >>= _) _ _ s;refine wHu (tupleItemsOf_ ht ?_);refine wHu (wpAny_typeOf hTs ?_);rw[wHF ⋯];refine wHu (zDD hs pl pu ?_);have hno:¬((((sIx items.size 0 lo:Nat):Int) == 0 && (1:Int) == 1 && (sIx items.size items.size hi-sIx items.size 0 lo) == items.size)=true):=by intro q;rw[wHR,wHR] at q;have q1:((sIx items.size 0 lo:Nat):Int)=0:=eq_of_beq q.1.1;have q2:sIx items.size items.size hi-sIx items.size 0 lo=items.size:=eq_of_beq q.2;exact hw ⟨by omega,by omega⟩
 show wpAny _ _ (if (((sIx items.size 0 lo:Nat):Int) == 0 && (1:Int) == 1 && (sIx items.size items.size hi-sIx items.size 0 lo) == items.size)=true then _ else _) _ _ s;rw[wHD hno,zLT]
 first
  | exact wHu (m:=Builtin.Tuple.tupleExact _) (wIj (wHx ⟨_,rfl,wHx h⟩) bI)
  | exact wHu (m:=Builtin.Tuple.tupleExact _) (wIj (wHu (wHx (wHx ⟨_,rfl,wHx h⟩))) bI)
  | exact wHu (wHu (m:=Builtin.Tuple.tupleExact _) (wIj (wHx (wHx ⟨_,rfl,wHx h⟩)) bI))
  | exact wHu (wHu (m:=Builtin.Tuple.tupleExact _) (wIj (wHx ⟨_,rfl,wHx h⟩) bI))
end
end HT
namespace L2
open PySem PySem.Spec PyProof.Rows
abbrev TO:=St->Hp->(Option Int->Hp->Prop)->Prop
def PO (X:Cx) (e:Option Expr) (t:TO):Prop:=
 ∀(pins:List (Addr × Obj)) (s:Shared) (σ:St) (H:Hp) (Q:Option Int->Hp->Prop),Inv X pins σ H s->t σ H Q->
  wpAny (model X.prog X.w) X.A (evalPart e X.env) (λu s'=>∃o H',Inv X pins σ H' s'/\IsPart u o/\Q o H') X.xe s
def zNs:TO:=λ_ H Q=>Q none H
inductive TPart (Q:Option Int->Hp->Prop) (x:V) (H1:Hp):Prop
 | mk (i:_):(x=.int i)->(Q (some i) H1)->TPart Q x H1
def zQj (t:TE):TO:=λσ H Q=>t σ H λx H1=>TPart Q x H1
def zBI {ns:List Int}:∀{us:List Value},zAv (ns.map V.int) us->IntsAre us ns:=by
 induction ns with
 | nil=>intro us r;rw[List.map_nil] at r;cases r;exact .nil
 | cons n ns ih=>
  intro us r;rw[wH6] at r;cases r with
  | cons r1 r2=>
   obtain⟨t,e⟩:=r1;subst e;exact .cons n t (ih r2)
section
variable {X:Cx} {e:Expr} {te:TE} {lo hi:Option Expr} {tl th:TO} {pos p2:Pos}
def zDr:PO X none zNs:=by intro pins s σ H Q I h;rw[evalPart_none];exact wHx ⟨none,H,I,.none,h⟩
def zCu (h:PE X e te):PO X (some e) (zQj te):=by intro pins s σ H Q I hw;rw[evalPart_some];refine thn (h pins s σ H _ I hw) λu s1 aA=>?_;obtain⟨x,H1,I1,r1,q1⟩:=aA;obtain⟨i,rfl,q⟩:=q1;obtain⟨t,rfl⟩:=r1;exact⟨some i,H1,I1,.int i t,q⟩
def SlR (X:Cx) (r:V->Option Int->Option Int->Hp->VK->Prop):Prop:=
 ∀(pins:List (Addr × Obj)) (s:Shared) (σ:St) (H:Hp) (x:V) (v vl vu:Value) (lo hi:Option Int) (sl:Addr) (Q:VK),Inv X pins σ H s->zAV x v->s.heap.IsSliceOf sl vl vu .none->IsPart vl lo->IsPart vu hi->r x lo hi H Q->
  ∃T id,typeLookup (.type T) "__getitem__"=pure (some (.builtin id))/\s.TypeIs v T/\wpAny (model X.prog X.w) X.A (getItem v (.ref sl)) (EP X pins σ Q) X.xe s
def tSl (r:V->Option Int->Option Int->Hp->VK->Prop) (te:TE) (tl th:TO):TE:=λσ H Q=>te σ H λx H1=>tl σ H1 λl H2=>th σ H2 λu H3=>r x l u H3 Q
def zBZ {r:V->Option Int->Option Int->Hp->VK->Prop} (hr:SlR X r) (he:PE X e te) (hl:PO X lo tl) (hu:PO X hi th):PE X (.Subscript e (.Slice lo hi none p2) pos) (tSl r te tl th):=by intro pins s σ H Q I h;refine Subscript_ (thn (he pins s σ H _ I h) λv s1 aA=>?_);obtain⟨x,H1,I1,r1,q1⟩:=aA;refine wpAny_Slice (thn (hl pins s1 σ H1 _ I1 q1) λvl s2 ⟨l,H2,I2,pl,q2⟩=>thn (hu pins s2 σ H2 _ I2 q2) λvu s3 aA=>?_);obtain⟨u,H3,I3,pu,q3⟩:=aA;rw[evalPart_none];refine wHx ?_;have I4:Inv X pins σ H3 { s3 with heap:=s3.heap.push { cls:=.type "slice",data:=.fields #[vl,vu,.none] } }:=I3.kept (t':=s3.toks) λb ob q=>wHz _ q;obtain⟨T,id,hT,ht,hg⟩:=hr pins { s3 with heap:=s3.heap.push { cls:=.type "slice",data:=.fields #[vl,vu,.none] } } σ H3 x v vl vu l u s3.heap.objs.size Q I4 r1 (Heap.IsSliceOf.new ..) pl pu q3;show wpAny (model X.prog X.w) X.A (subscriptTail e (.Slice lo hi none p2) v (.ref s3.heap.objs.size)) (EP X pins σ Q) X.xe { s3 with heap:=s3.heap.push { cls:=.type "slice",data:=.fields #[vl,vu,.none] } };exact tail_any (ops:=[.ref s3.heap.objs.size,v]) ht hT hg (by with_unfolding_all rfl)
def zGc (xs:List V) (lo hi:Option Int):List V:=(xs.drop (HT.sIx xs.length 0 lo)).take (HT.sIx xs.length xs.length hi-HT.sIx xs.length 0 lo)
def zED (xs:List V) (lo hi:Option Int):(zGc xs lo hi).length<=xs.length:=by unfold zGc;rw[wHS,wIu];omega
def zQU (K:W.Frag):V->Option Int->Option Int->Hp->VK->Prop:=λx lo hi H Q=>∃a xs,x=.ref a/\SqT K H a xs/\
 ¬(HT.sIx xs.length 0 lo=0/\HT.sIx xs.length xs.length hi=xs.length)/\∀p,H p=none->Q (.ref p) (upd H p (.tup (zGc xs lo hi)))
def zOQ:SlR X (zQU X.K):=by
 intro pins s σ H x v vl vu lo hi sl Q I rx hs pl pu h;obtain⟨a,xs,rfl,hx,hw,q⟩:=h;cases rx;obtain⟨its,r,ht,hz⟩:=I.tuple hx;have aD:its.toArray.size=xs.length:=by rw[wHL];exact r.length.symm
 refine⟨"tuple",_,PyProof.Rows.slot_tuple_getitem.lookup,ht.typeIs,?_⟩;refine HT.getItem_tuple_cut ht hs pl pu (by rw[aD];exact hw) ?_ (by rw[aD];exact hz);rw[aD];refine⟨.ref s.heap.objs.size,_,I.laid (t':=s.toks) (o:=.tup (zGc xs lo hi)) (λb ob q=>wHz _ q) (wHA _) ?_,rfl,q _ (I.hok.fresh (wHA _))⟩;exact⟨wHI (zED xs lo hi) hz,_,(r.drop (HT.sIx xs.length 0 lo)).take (HT.sIx xs.length xs.length hi-HT.sIx xs.length 0 lo),IsTup.new _ _⟩
end
def ixN (n:Nat) (i:Int):Option Nat:=if 0<=i then (if i < n then some i.toNat else none) else if -(n:Int)<=i then some (i+n).toNat else none
def atI {α:Type} (xs:List α) (i:Int):Option α:=(ixN xs.length i).bind λj=>xs[j]?
def zKG {n:Nat} {i:Int} {j:Nat} (h:ixN n i=some j):seqIndex? i n=some j/\j < n/\-(n:Int)<=i/\i < n:=by
 unfold ixN at h;by_cases h0:0<=i
 ·rw[wHF h0] at h;by_cases h1:i < n
  ·rw[wHF h1] at h;have e:i.toNat=j:=wHE h;exact⟨by rw[seqIndex_of h0 h1,e],by omega,by omega,h1⟩
  rw[wHD h1] at h;cases h
 rw[wHD h0] at h;by_cases h1:-(n:Int)<=i
 ·rw[wHF h1] at h;have e:(i+n).toNat=j:=wHE h;exact⟨by rw[seqIndex_neg ∅ h1,e],by omega,h1,by omega⟩
 rw[wHD h1] at h;cases h
def zGh {α:Type} {xs:List α} {i:Int} {v:α} (h:atI xs i=some v):∃j,seqIndex? i xs.length=some j/\xs[j]?=some v/\j < xs.length/\-(xs.length:Int)<=i/\i < xs.length:=by
 unfold atI at h;cases e:ixN xs.length i with
 | none=>rw[e] at h;cases h
 | some j=>
  rw[e] at h;obtain⟨h1,h2,h3,h4⟩:=zKG e;exact⟨j,h1,h,h2,h3,h4⟩
def zCy {α:Type} {xs:List α} {j:Nat} {v:α} (h:xs[j]?=some v):atI xs (j:Int)=some v:=by
 have hj:j < xs.length:=(wIL h).1;have e:ixN xs.length (j:Int)=some j:=by unfold ixN;rw[wHF ∅,wHF ∅];simp
 unfold atI;rw[e];exact h
def zHW (b:Expr):Prop:=∀o i,subscripted b false o i=operate [o,i] (getItem o i)
def IxR (X:Cx) (r:R2):Prop:=
 ∀(value slice:Expr) (pins:List (Addr × Obj)) (s:Shared) (σ:St) (H:Hp) (x y:V) (v u:Value) (Q:VK),Inv X pins σ H s->zAV x v->zAV y u->r x y H Q->
  subscripted slice false v u=operate [v,u] (getItem v u)->wpAny (model X.prog X.w) X.A (subscriptTail value slice v u) (EP X pins σ Q) X.xe s
def MtR (X:Cx) (id:String) (r:V->List V->Hp->VK->Prop):Prop:=
 ∀(pins:List (Addr × Obj)) (s:Shared) (σ:St) (H:Hp) (x:V) (xs:List V) (v:Value) (us:List Value) (Q:VK),Inv X pins σ H s->zAV x v->zAv xs us->r x xs H Q->
  wpAny (model X.prog X.w) X.A (call (.builtin id) (v::us)) (EP X pins σ Q) X.xe s
section
variable {X:Cx} {a b:Expr} {ta tb:TE} {pos:Pos}
def zHC {r:R2} (hr:IxR X r) (ha:PE X a ta) (hb:PE X b tb) (hs:zHW b):PE X (.Subscript a b pos) (tOp r ta tb):=by intro pins s σ H Q I h;exact Subscript_ (zQE ha hb I h λv u s2 x y H2 I2 rx ry q=>hr a b pins s2 σ H2 x y v u Q I2 rx ry q (hs _ _))
inductive RIxL (K:W.Frag) (x:V) (y:V) (H:Hp) (Q:VK):Prop
 | mk (p:_) (xs:_) (i:_) (v:_):(x=.ref p)->(y=.int i)->SqL K H p xs->(atI xs i=some v)->Q v H->RIxL K x y H Q
def zPX (K:W.Frag):R2:=λx y H Q=>RIxL K x y H Q
inductive RIxT (K:W.Frag) (x:V) (y:V) (H:Hp) (Q:VK):Prop
 | mk (p:_) (xs:_) (i:_) (v:_):(x=.ref p)->(y=.int i)->SqT K H p xs->(atI xs i=some v)->Q v H->RIxT K x y H Q
def zQx (K:W.Frag):R2:=λx y H Q=>RIxT K x y H Q
inductive RIxS (x:V) (y:V) (H:Hp) (Q:VK):Prop
 | mk (z:_) (i:_) (c:_):(x=.str z)->(y=.int i)->(z.length<=sizeLine)->(atI z.cps.toList i=some c)->(Q (.str ⟨#[c]⟩) H)->RIxS x y H Q
def zRu:R2:=λx y H Q=>RIxS x y H Q
def zOb:IxR X (zPX X.K):=by
 intro value slice pins s σ H x y v u Q I rx ry h hs;obtain⟨p,xs,i,z,rfl,rfl,hq,he,q⟩:=h;cases rx;obtain⟨t,rfl⟩:=ry;obtain⟨its,r,pl,hz⟩:=I.list hq;obtain⟨j,h1,h2,h3,h4,h5⟩:=zGh he;obtain⟨w,ew,fe⟩:=r.get h2;have hl:=r.length;have hn:=zD8;have fin:EP X pins σ Q w s:=⟨z,H,I,fe,q⟩;by_cases h0:0<=i
 ·have hj:i.toNat=j:=by rw[seqIndex_of h0 h5] at h1;exact wHE h1
  exact item_listR pl.isList h0 ∅ (by rw[hj];simpa using ew) fin hs
 have hj:(i+(its.toArray.size:Int)).toNat=j:=by rw[seqIndex_neg ∅ h4] at h1;rw[wHL,← hl];exact wHE h1
 exact subscriptTail_builtinR (x:=w) pl.isList.typeIs slot_list_getitem.lookup
  (wpAny_getItem_list_neg (Q:=λr s'=>r=w/\EP X pins σ Q r s') pl.isList ∅ (by rw[wHL]<;>omega) ∅ (by rw[hj];simpa using ew) ⟨rfl,fin⟩) hs
def zP7:IxR X (zQx X.K):=by
 intro value slice pins s σ H x y v u Q I rx ry h hs;obtain⟨p,xs,i,z,rfl,rfl,hq,he,q⟩:=h;cases rx;obtain⟨t,rfl⟩:=ry;obtain⟨its,r,pl,hz⟩:=I.tuple hq;obtain⟨j,h1,h2,h3,h4,h5⟩:=zGh he;obtain⟨w,ew,fe⟩:=r.get h2;have hl:=r.length;have hn:=zD8;have fin:EP X pins σ Q w s:=⟨z,H,I,fe,q⟩;exact subscriptTail_builtinR (x:=w) pl.typeIs slot_tuple_getitem.lookup
  (getItem_tuple (j:=j) (Q:=λr s'=>r=w/\EP X pins σ Q r s') pl ∅ ∅ (by rw[wHL,← hl];exact h1) (by simpa using ew) ⟨rfl,fin⟩) hs
def zIv:IxR X zRu:=by
 intro value slice pins s σ H x y v u Q I rx ry h hs;obtain⟨z,i,c,rfl,rfl,hz,he,q⟩:=h;obtain⟨t,rfl⟩:=rx;obtain⟨t',rfl⟩:=ry;obtain⟨j,h1,h2,h3,h4,h5⟩:=zGh he;have hl:z.cps.toList.length=z.length:=by simp[Str.length]
 rw[hl] at h1 h4 h5;have hn:=zD8;exact tail_any (typeIs_str s z t) slot_str_getitem.lookup (getItem_str (c:=c) (by have e1:decide (i < -(2 ^ 63:Int))=false:=wHX ∅;have e2:decide (i≥2 ^ 63)=false:=wHX ∅;rw[e1,e2,Bool.or_false]) (by rw[h1];simpa using h2) ⟨.str ⟨#[c]⟩,H,I.tok _,⟨_,rfl⟩,q⟩) hs
def zJc (its:List Value) (n j:Nat) (u:Value):Obj.mapSeq (·.setIfInBounds j u) { cls:=.type "list",data:=.seq its.toArray n }={ cls:=.type "list",data:=.seq (its.set j u).toArray n }:=by simp[Obj.mapSeq]
theorem Inv.lst {pins:List (Addr × Obj)} {σ:St} {H:Hp} {s:Shared} {p:Addr} {xs:List V} (I:Inv X pins σ H s) (h:H p=some (.lst xs)) :
  ∃(its:List Value) (n:Nat),zAv xs its/\s.heap.get? p=some { cls:=.type "list",data:=.seq its.toArray n }/\xs.length<=sizeLine:=by
 obtain⟨z,its,n,r,e⟩:=I.hok p _ h;exact⟨its,n,r,e,z⟩
def Inv.lstUpd {pins:List (Addr × Obj)} {σ:St} {H:Hp} {s:Shared} {p:Addr} {xs ys:List V} {its its':List Value} {n n':Nat} {f:Obj->Obj} (I:Inv X pins σ H s) (h:H p=some (.lst xs))
  (ho:s.heap.get? p=some { cls:=.type "list",data:=.seq its.toArray n }) (hf:f { cls:=.type "list",data:=.seq its.toArray n }={ cls:=.type "list",data:=.seq its'.toArray n' }) (r:zAv ys its') (hz:ys.length<=sizeLine) (t:Nat) :
  Inv X pins σ (upd H p (.lst ys)) { s with heap:=s.heap.update p f,toks:=t }:=by
 have e:(s.heap.update p f).get? p=some { cls:=.type "list",data:=.seq its'.toArray n' }:=by rw[wIc f ho (by rw[hf]<;>rfl),hf]
 refine I.write (x:=p) (e:=p) (by rw[h];trivial) (.inl rfl) (λb u hb q=>(wHN _ _ (Ne.symm hb)).trans q) ⟨_,e⟩ ?_;exact⟨hz,its',n',r,e⟩
inductive RSetL (o:V) (i:V) (v:V) (H:Hp) (Q:Hp->Prop):Prop
 | mk (p:_) (xs:_) (k:_) (j:_):(o=.ref p)->(i=.int k)->(H p=some (.lst xs))->(ixN xs.length k=some j)->(Q (upd H p (.lst (xs.set j v))))->RSetL o i v H Q
def zQw:V->V->V->Hp->(Hp->Prop)->Prop:=λo i v H Q=>RSetL o i v H Q
def zCQ:zQN X zQw:=by
 intro pins s σ H o i v ov iv u Q I ro ri rv h;obtain⟨p,xs,k,j,rfl,rfl,hp,hj,q⟩:=h;cases ro;obtain⟨t,rfl⟩:=ri;obtain⟨its,n,r,ho,hz⟩:=I.lst hp;obtain⟨h1,h2,h3,h4⟩:=zKG hj;have hl:=r.length;have hn:=zD8;have I':Inv X pins σ (upd H p (.lst (xs.set j v))) { s with heap:=s.heap.update p (Obj.mapSeq (·.setIfInBounds j u)) }:=
  I.lstUpd hp ho (zJc its n j u) (r.set rv j) (by rw[List.length_set];exact hz) s.toks
 by_cases h0:0<=k
 ·have hk:k.toNat=j:=by rw[seqIndex_of h0 h4] at h1;exact wHE h1
  exact W.ki_setAt ho h0 ∅ (by rw[wHL,← hl];exact h4) (by rw[hk];exact⟨_,I',q⟩)
 have hk:(k+(its.toArray.size:Int)).toNat=j:=by rw[seqIndex_neg ∅ h3] at h1;rw[wHL,← hl];exact wHE h1
 exact W.ki_setBack ho ∅ (by rw[wHL,← hl];exact h3) ∅ (by rw[hk];exact⟨_,I',q⟩)
def zGu (lo hi:Option Int) (n:Nat):(sliceBounds lo hi none n).1=((HT.sIx n 0 lo:Nat):Int)/\(sliceBounds lo hi none n).2.1=((HT.sIx n n hi:Nat):Int)/\(sliceBounds lo hi none n).2.2=1:=by
 refine⟨?_,?_,rfl⟩
 ·cases lo with
  | none=>simp[sliceBounds,HT.sIx]
  | some i=>
   simp only[sliceBounds,HT.sIx,Option.getD_none,show (1:Int) > 0 by decide,if_true];by_cases h:i < 0
   ·simp only[h,if_true]<;>omega
   simp only[h,if_false]<;>omega
 cases hi with
 | none=>simp[sliceBounds,HT.sIx]
 | some i=>
  simp only[sliceBounds,HT.sIx,Option.getD_none,show (1:Int) > 0 by decide,if_true];by_cases h:i < 0
  ·simp only[h,if_true]<;>omega
  simp only[h,if_false]<;>omega
def zF6 (its:List Value) (lo hi:Option Int):slicePick its.toArray lo hi none=((its.drop (HT.sIx its.length 0 lo)).take (HT.sIx its.length its.length hi-HT.sIx its.length 0 lo)).toArray:=by obtain⟨h1,h2,h3⟩:=zGu lo hi its.toArray.size;unfold slicePick;rw[h1,h2,h3];simp only[sliceRange_one,pick_run,wHL]<;>rfl
inductive RSlL (K:W.Frag) (x:V) (lo:Option Int) (hi:Option Int) (H:Hp) (Q:VK):Prop
 | mk (a:_) (xs:_):(x=.ref a)->SqL K H a xs->(∀p,H p=none->Q (.ref p) (upd H p (.lst (zGc xs lo hi))))->RSlL K x lo hi H Q
def zQV (K:W.Frag):V->Option Int->Option Int->Hp->VK->Prop:=λx lo hi H Q=>RSlL K x lo hi H Q
def zNy:SlR X (zQV X.K):=by intro pins s σ H x v vl vu lo hi sl Q I rx hs pl pu h;obtain⟨a,xs,rfl,hx,q⟩:=h;cases rx;obtain⟨its,r,ht,hz⟩:=I.list hx;have aD:=r.length;refine⟨"list",_,slot_list_getitem.lookup,ht.isList.typeIs,?_⟩;refine wpAny_getItem_list_slice ht.isList hs pl pu .none (by simp) ?_ (by rw[wHL]<;>omega);rw[zF6,← aD];refine⟨.ref s.heap.objs.size,_,I.laid (t':=s.toks) (o:=.lst (zGc xs lo hi)) (λb ob q=>wHz _ q) (wHA _) ?_,rfl,q _ (I.hok.fresh (wHA _))⟩;exact⟨wHI (zED xs lo hi) hz,_,0,(r.drop (HT.sIx xs.length 0 lo)).take (HT.sIx xs.length xs.length hi-HT.sIx xs.length 0 lo),wHG _ rfl⟩
def zEA:V->Bool
 | .non=>true
 | .bl _=>true
 | .int _=>true
 | .str _=>true
 | _=>false
def eqV:V->V->Bool
 | .non,.non=>true
 | .bl a,.bl b=>a == b
 | .bl a,.int b=>(if a then 1 else 0) == b
 | .int a,.bl b=>a == (if b then 1 else 0)
 | .int a,.int b=>a == b
 | .str a,.str b=>a == b
 | _,_=>false
def zPM {A:Around} {s:Shared} {y x:V} {u v:Value} (ry:zAV y u) (rx:zAV x v) (fy:zEA y=true) (fx:zEA x=true):SeqAt.EqAt A s u v (eqV y x):=by
 cases y with
 | non=>
  cases ry;cases x with
  | non=>cases rx;exact SeqAt.EqAt.same _
  | bl b=>cases rx;exact SeqAt.EqAt.none_bool b
  | int b=>obtain⟨t,rfl⟩:=rx;exact SeqAt.EqAt.none_int b t
  | str b=>obtain⟨t,rfl⟩:=rx;exact SeqAt.EqAt.none_str b t
  | _=>exact absurd (show false=true from fx) wHM
 | bl a=>
  cases ry;cases x with
  | non=>cases rx;exact SeqAt.EqAt.bool_none a
  | bl b=>cases rx;exact SeqAt.EqAt.bool_bool a b
  | int b=>obtain⟨t,rfl⟩:=rx;exact SeqAt.EqAt.bool_int a b t
  | str b=>obtain⟨t,rfl⟩:=rx;exact SeqAt.EqAt.bool_str a b t
  | _=>exact absurd (show false=true from fx) wHM
 | int a=>
  obtain⟨t',rfl⟩:=ry;cases x with
  | non=>cases rx;exact SeqAt.EqAt.int_none a t'
  | bl b=>cases rx;exact SeqAt.EqAt.int_bool a t' b
  | int b=>obtain⟨t,rfl⟩:=rx;exact SeqAt.EqAt.int_int a t' b t
  | str b=>obtain⟨t,rfl⟩:=rx;exact SeqAt.EqAt.int_str a t' b t
  | _=>exact absurd (show false=true from fx) wHM
 | str a=>
  obtain⟨t',rfl⟩:=ry;cases x with
  | non=>cases rx;exact SeqAt.EqAt.str_none a t'
  | bl b=>cases rx;exact SeqAt.EqAt.str_bool a t' b
  | int b=>obtain⟨t,rfl⟩:=rx;exact SeqAt.EqAt.str_int a t' b t
  | str b=>obtain⟨t,rfl⟩:=rx;exact SeqAt.EqAt.str_str a t' b t
  | _=>exact absurd (show false=true from fx) wHM
 | _=>exact absurd (show false=true from fy) wHM
def eqU (x:V) (u:Value):Bool:=match u with
 | .none=>eqV .non x
 | .bool b=>eqV (.bl b) x
 | .int i _=>eqV (.int i) x
 | .str z _=>eqV (.str z) x
 | _=>false
def zMZ {x y:V} {u:Value} (r:zAV y u) (f:zEA y=true):eqU x u=eqV y x:=by
 cases y with
 | non=>cases r;rfl
 | bl b=>cases r;rfl
 | int i=>obtain⟨t,rfl⟩:=r;rfl
 | str z=>obtain⟨t,rfl⟩:=r;rfl
 | _=>exact absurd (show false=true from f) wHM
theorem zEH {x:V}:∀{xs:List V} {us:List Value},zAv xs us->xs.all zEA=true->us.any (eqU x)=xs.any λy=>eqV y x
 | _,_,.nil,_=>rfl
 | y::xs,u::us,.cons r t,f=>by rw[List.all_cons,wHR] at f;rw[List.any_cons,List.any_cons,zMZ r f.1,zEH t f.2]
theorem zCZ {A:Around} {s:Shared} {x:V} {v:Value} (rx:zAV x v) (fx:zEA x=true):∀{xs:List V} {us:List Value},zAv xs us->xs.all zEA=true->∀u∈us,SeqAt.EqAt A s u v (eqU x u)
 | _,_,.nil,_=>λu hu=>by cases hu
 | y::xs,u::us,.cons r t,f=>λu' hu=>by
  rw[List.all_cons,wHR] at f;rcases wIQ hu with rfl | hu
  ·rw[zMZ r f.1];exact zPM r rx f.1 fx
  exact zCZ rx fx t f.2 u' hu
def inV (x:V) (xs:List V):Bool:=xs.any λy=>eqV y x
inductive RIn (K:W.Frag) (neg:Bool) (x:V) (y:V) (H:Hp) (Q:VK):Prop
 | mk (p:_) (xs:_):(y=.ref p)->((SqL K H p xs∨SqT K H p xs))->(zEA x=true)->(xs.all zEA=true)->(Q (.bl (if neg then !inV x xs else inV x xs)) H)->RIn K neg x y H Q
def rIn (K:W.Frag) (neg:Bool):R2:=λx y H Q=>RIn K neg x y H Q
def zKt:OpR X (compareOp .In) (rIn X.K false):=by
 intro pins s σ H x y v u Q I rx ry h;obtain⟨p,xs,rfl,hq,fx,fs,q⟩:=h;cases ry;rcases hq with hq | hq
 ·obtain⟨its,r,pl,hz⟩:=I.list hq;refine SeqAt.in_listAt (eqU x) pl.isList (λw hw=>zCZ rx fx r fs w (by simpa using hw)) ⟨.bl _,H,I,rfl,?_⟩;rw[show its.toArray.any (eqU x)=its.any (eqU x) by simp,zEH r fs];exact q
 obtain⟨its,r,pl,hz⟩:=I.tuple hq;refine SeqAt.in_tupleAt (eqU x) pl (λw hw=>zCZ rx fx r fs w (by simpa using hw)) ⟨.bl _,H,I,rfl,?_⟩;rw[show its.toArray.any (eqU x)=its.any (eqU x) by simp,zEH r fs];exact q
def zG9:OpR X (compareOp .NotIn) (rIn X.K true):=by
 intro pins s σ H x y v u Q I rx ry h;obtain⟨p,xs,rfl,hq,fx,fs,q⟩:=h;cases ry;rcases hq with hq | hq
 ·obtain⟨its,r,pl,hz⟩:=I.list hq;refine SeqAt.notIn_listAt (eqU x) pl.isList (λw hw=>zCZ rx fx r fs w (by simpa using hw)) ⟨.bl _,H,I,rfl,?_⟩;rw[show its.toArray.any (eqU x)=its.any (eqU x) by simp,zEH r fs];exact q
 obtain⟨its,r,pl,hz⟩:=I.tuple hq;refine SeqAt.notIn_tupleAt (eqU x) pl (λw hw=>zCZ rx fx r fs w (by simpa using hw)) ⟨.bl _,H,I,rfl,?_⟩;rw[show its.toArray.any (eqU x)=its.any (eqU x) by simp,zEH r fs];exact q
inductive RLen (K:W.Frag) (xs:List V) (H:Hp) (Q:VK):Prop
 | mk (p:_) (ys:_):(xs=[.ref p])->((SqL K H p ys∨SqT K H p ys))->(Q (.int ys.length) H)->RLen K xs H Q
def zHa:zBp X (.builtin "len") (λxs H Q=>RLen X.K xs H Q):=by
 intro pins s σ H xs us Q I r h;obtain⟨p,ys,rfl,hq,q⟩:=h;obtain⟨u,rfl,rx⟩:=zIF r;cases rx;have hn:=zD8;rcases hq with hq | hq
 ·obtain⟨its,r',pl,hz⟩:=I.list hq;have aD:=r'.length;exact Calls.call_len_list pl.isList (by simp only[wHL]<;>omega) ⟨.int ys.length,H,I.tok _,⟨s.toks+1,by rw[wHL,aD]⟩,q⟩
 obtain⟨its,r',pl,hz⟩:=I.tuple hq;have aD:=r'.length;exact len_tuple pl (by simp only[wHL]<;>omega) ⟨.int ys.length,H,I.tok _,⟨s.toks+1,by rw[wHL,aD]⟩,q⟩
inductive RLenS (xs:List V) (H:Hp) (Q:VK):Prop
 | mk (z:_):(xs=[.str z])->(z.length<=sizeLine)->(Q (.int z.length) H)->RLenS xs H Q
def zCx:zBp X (.builtin "len") (λxs H Q=>RLenS xs H Q):=by intro pins s σ H xs us Q I r h;obtain⟨z,rfl,hz,q⟩:=h;obtain⟨u,rfl,t,rfl⟩:=zIF r;have hn:=zD8;exact len_str ∅ ⟨.int z.length,H,I.tok _,⟨_,rfl⟩,q⟩
inductive RListOf (K:W.Frag) (xs:List V) (H:Hp) (Q:VK):Prop
 | mk (p:_) (ys:_):(xs=[.ref p])->((SqL K H p ys∨SqT K H p ys))->(∀l,H l=none->Q (.ref l) (upd H l (.lst ys)))->RListOf K xs H Q
def zGZ:zBp X (.type "list") (λxs H Q=>RListOf X.K xs H Q):=by
 intro pins s σ H xs us Q I r h;obtain⟨p,ys,rfl,hq,q⟩:=h;obtain⟨u,rfl,rx⟩:=zIF r;cases rx;have fin:∀(its:List Value),zAv ys its->ys.length<=sizeLine->∀(h':Heap) (c':Nat),(∀b o',s.heap.get? b=some o'->h'.get? b=some o')->
   h'.get? s.heap.objs.size=some { cls:=.type "list",dict:=none,data:=.seq its.toArray c',slots:=#[] }->EP X pins σ Q (.ref s.heap.objs.size) { s with heap:=h' }:=λits r' hz h' c' kp e=>
  ⟨.ref s.heap.objs.size,_,I.laid (t':=s.toks) kp (wHA _) (show ObjOk X.prog X.w _ h' _ (.lst ys) from ⟨hz,its,c',r',e⟩),rfl,q _ (I.hok.fresh (wHA _))⟩
 rcases hq with hq | hq
 ·obtain⟨its,r',pl,hz⟩:=I.list hq;have aD:=r'.length;obtain⟨o,ho,hc,n,hd⟩:=pl.isList;exact call_list_seq p (.inl rfl) ho hc hd (λh' c' kp e=>fin its r' hz h' c' kp e) (by simp only[wHL]<;>omega)
 obtain⟨its,r',pl,hz⟩:=I.tuple hq;have aD:=r'.length;obtain⟨o,ho,hc,n,hd⟩:=pl;exact call_list_seq p (.inr rfl) ho hc hd (λh' c' kp e=>fin its r' hz h' c' kp e) (by simp only[wHL]<;>omega)
def tyV (K:W.Frag) (T:String) (x:V) (H:Hp):Prop:=match x with
 | .str _=>T = "str"
 | .int _=>T = "int"
 | .ref p=>(T = "list"/\∃xs,SqL K H p xs)∨(T = "tuple"/\∃o,K.lookup p=some o/\o.cls=.type "tuple"/\o.dict=none)∨
   (T = "dict"/\((∃kvs,H p=some (.dK kvs))∨∃kvs,H p=some (.dT kvs)))∨(T = "set"/\∃S n,H p=some (.set S n))
 | _=>False
def zMB {pins:List (Addr × Obj)} {σ:St} {H:Hp} {s:Shared} {T:String} {x:V} {v:Value} (I:Inv X pins σ H s) (r:zAV x v) (ty:tyV X.K T x H) :
  s.TypeIs v T/\∀a,v=.ref a->∃ob,s.heap.get? a=some ob/\ob.dict=none:=by
 cases x with
 | str z=>
  obtain⟨t,rfl⟩:=r;cases (show T = "str" from ty);exact⟨typeIs_str s z t,λ_ e=>nomatch e⟩
 | int i=>
  obtain⟨t,rfl⟩:=r;cases (show T = "int" from ty);exact⟨typeIs_int s i t,λ_ e=>nomatch e⟩
 | ref p=>
  cases r;rcases ty with ⟨rfl,xs,hq⟩ | ⟨rfl,o,hk,hc,hd⟩ | ⟨rfl,hk⟩ | ⟨rfl,S,n,hk⟩
  ·obtain⟨its,_,pl,_⟩:=I.list hq;refine⟨pl.isList.typeIs,λa e=>?_⟩;cases e;obtain⟨o,n,e,c,hd,_⟩:=pl;exact⟨o,e,hd⟩
  ·refine⟨⟨o,I.kIn p o hk,hc⟩,λa e=>?_⟩;cases e;exact⟨o,I.kIn _ o hk,hd⟩
  ·have z:∃o,s.heap.get? p=some o/\o.ExactDict:=by
    rcases hk with ⟨kvs,hk⟩ | ⟨kvs,hk⟩
    ·obtain⟨_,_,_,_,o,_,_,e,ex,_⟩:=I.hok p _ hk;exact⟨o,e,ex⟩
    obtain⟨_,_,_,_,o,_,_,e,ex,_⟩:=I.hok p _ hk;exact⟨o,e,ex⟩
   obtain⟨o,e,ex⟩:=z;refine⟨⟨o,e,ex.1⟩,λa e2=>?_⟩;cases e2;exact⟨o,e,ex.2.1⟩
  obtain⟨o,_,_,_,e,ex,_⟩:=I.hok p _ hk;refine⟨⟨o,e,ex.1⟩,λa e2=>?_⟩;cases e2;exact⟨o,e,ex.2.1⟩
 | _=>exact wIh ty
def zRn (K:W.Frag) (T:String) (r:V->List V->Hp->VK->Prop) (to:TE):TE:=λσ H Q=>to σ H λx H1=>tyV K T x H1/\r x [] H1 Q
def tBM (K:W.Frag) (T:String) (r:V->List V->Hp->VK->Prop) (to:TE) (t:TA):TE:=λσ H Q=>to σ H λx H1=>tyV K T x H1/\t σ H1 λxs H2=>r x xs H2 Q
variable {o e:Expr} {es:List Expr} {to:TE} {t:TA} {name:Str} {apos aB:Pos} {T id:String} {r:V->List V->Hp->VK->Prop}
def zKm (pa:PlainAttrs T) (slot:Slot T name id) (fQ:typeOf (.builtin id)=pure (.type "method_descriptor")) (hm:MtR X id r) (ho:PE X o to)
  (bD:attributeBase o name X.env (eval o X.env)=eval o X.env:=by rfl) (bC:(apos.endLine == aB.line)=true:=by rfl):PE X (.Call (.Attribute o name apos) [] [] aB) (zRn X.K T r to):=by
 intro pins s σ H Q I h;refine wpAny_Call_method0_late bD bC (thn (ho pins s σ H _ I h) λv s1 aA=>?_);obtain⟨x,H1,I1,r1,ty,q1⟩:=aA;obtain⟨h1,h2⟩:=zMB I1 r1 ty;exact⟨T,id,pa,slot,fQ,h1,h2,Calls.callWith_builtin rfl (PySem.evalArgs_none (hm pins s1 σ H1 x [] v [] Q I1 r1 .nil q1))⟩
def zFJ (pa:PlainAttrs T) (slot:Slot T name id) (fQ:typeOf (.builtin id)=pure (.type "method_descriptor")) (hm:MtR X id r) (ho:PE X o to) (ha:PA X (e::es) t)
  (bD:attributeBase o name X.env (eval o X.env)=eval o X.env:=by rfl)
  (eP:((backTo aB (starEach (e::es) X.env)).all (λx=>!x.1) && (backToKw aB (keywordEach [] X.env)).all (λx=>x.1.isSome)
   && decide ((e::es).length+([]:List Keyword).length+(if ([]:List Keyword).isEmpty then 0 else 1) < 30))=true:=by rfl)
  (bC:(apos.endLine == aB.line)=true:=by rfl) (hs:starEach (e::es) X.env=(false,eval e X.env)::starEach es X.env:=by rfl) (aQ:(backTo aB (starEach es X.env)).any (·.1)=false:=by rfl) :
  PE X (.Call (.Attribute o name apos) (e::es) [] aB) (tBM X.K T r to t):=by
 intro pins s σ H Q I h;refine wpAny_Call_method_late bD eP bC rfl (thn (ho pins s σ H _ I h) λv s1 aA=>?_);obtain⟨x,H1,I1,r1,ty,q1⟩:=aA;obtain⟨h1,h2⟩:=zMB I1 r1 ty;refine⟨T,id,pa,slot,fQ,h1,h2,?_⟩;have hA:=ha aB pins s1 σ H1 _ I1 q1;rw[hs] at hA ⊢;refine Calls.callWith_builtin (by show (false || (backTo aB (starEach es X.env)).any (·.1))=false;rw[aQ]<;>rfl) (Calls.evalArgs_plain ?_);exact thn hA λus s2 ⟨vs,H2,I2,r2,q2⟩=>hm pins s2 σ H2 x vs v us Q I2 r1 r2 q2
end
def MtM (X:Cx) (id:String) (r:V->List V->Hp->VK->Prop):Prop:=
 ∀(pins:List (Addr × Obj)) (s:Shared) (σ:St) (H:Hp) (x:V) (xs:List V) (v:Value) (us:List Value) (Q:VK),Inv X pins σ H s->zAV x v->zAv xs us->r x xs H Q->
  wpAny (model X.prog X.w) X.A (call (.builtin id) (v::us)) (EP X pins σ Q) X.xe s
def zAv.one:∀{x:V} {us:List Value},zAv [x] us->∃u,us=[u]/\zAV x u:=by
 intro x us h;cases h with
 | cons r h=>
  cases h;exact⟨_,rfl,r⟩
def zAv.two:∀{x y:V} {us:List Value},zAv [x,y] us->∃u v,us=[u,v]/\zAV x u/\zAV y v:=by
 intro x y us h;cases h with
 | cons r h=>
  cases h with
  | cons q h=>
   cases h;exact⟨_,_,rfl,r,q⟩
def zAv.zero:∀{us:List Value},zAv [] us->us=[]
 | _,.nil=>rfl
def zAv.dropLast {xs:List V} {us:List Value} (h:zAv xs us):zAv xs.dropLast us.dropLast:=by
 induction h with
 | nil=>exact .nil
 | cons r t ih=>
  cases t with
  | nil=>exact .nil
  | cons q t'=>exact .cons r ih
theorem zAv.eraseIdx:∀{xs:List V} {us:List Value} (i:Nat),zAv xs us->zAv (xs.eraseIdx i) (us.eraseIdx i)
 | _,_,_,.nil=>.nil
 | _,_,0,.cons _ t=>t
 | _,_,i+1,.cons r t=>.cons r (zAv.eraseIdx i t)
def zAv.reverse {xs:List V} {us:List Value} (h:zAv xs us):zAv xs.reverse us.reverse:=by
 induction h with
 | nil=>exact .nil
 | cons r t ih=>rw[List.reverse_cons,List.reverse_cons];exact zAv.append ih (.cons r .nil)
theorem zAv.rep {xs:List V} {us:List Value} (h:zAv xs us):∀k:Nat,zAv (List.replicate k xs).flatten (List.replicate k us).flatten
 | 0=>.nil
 | k+1=>by rw[wIr,wIr,wID,wID];exact zAv.append h (zAv.rep h k)
def zJk {α:Type} (l:List α):l.eraseIdx (l.length-1)=l.dropLast:=by
 induction l with
 | nil=>rfl
 | cons a r ih=>
  cases r with
  | nil=>rfl
  | cons b r=>
   have e:(a::b::r).length-1=((b::r).length-1)+1:=by have h1:(a::b::r).length=r.length+2:=rfl;have h2:(b::r).length=r.length+1:=rfl;omega
   rw[e,List.eraseIdx_cons_succ,ih]
   all_goals rfl
theorem zGW (its:List Value):∀(k:Nat) (aC:List Value),
  List.foldl (λx1 x2=>x1++x2) aC.toArray (List.replicate k its.toArray)=(aC++(List.replicate k its).flatten).toArray
 | 0,aC=>by simp
 | k+1,aC=>by
  have e:aC.toArray++its.toArray=(aC++its).toArray:=by simp
  have e2:(aC++its)++(List.replicate k its).flatten=aC++(List.replicate (k+1) its).flatten:=by rw[wIr,wID,wHY]
  rw[← e2,← zGW its k (aC++its),← e,wIr,List.foldl_cons]
section
variable {X:Cx} {pins:List (Addr × Obj)} {σ:St} {H:Hp} {s:Shared} {l:Addr} {xs ys:List V}
def Inv.lset {its its':List Value} {n:Nat} {f:Array Value->Array Value} {t':Nat} (I:Inv X pins σ H s) (hH:H l=some (.lst xs))
  (e:s.heap.get? l=some { cls:=.type "list",data:=.seq its.toArray n }) (hf:f its.toArray=its'.toArray) (hv:zAv ys its') (hz:ys.length<=sizeLine) :
  Inv X pins σ (upd H l (.lst ys)) { s with heap:=s.heap.update l (Obj.mapSeq f),toks:=t' }:=by
 have q:=PySem.IsL.update e f;rw[hf] at q;refine I.write (x:=l) (e:=l) (by rw[hH];exact trivial) (.inl rfl) (λb' u hb hu=>(wHN s.heap (Obj.mapSeq f) (Ne.symm hb)).trans hu) ⟨_,q⟩ ?_;exact⟨hz,its',_,hv,q⟩
def Inv.lnew {its:List Value} {t':Nat} (I:Inv X pins σ H s) (hv:zAv ys its) (hz:ys.length<=sizeLine) :
  Inv X pins σ (upd H s.heap.objs.size (.lst ys)) { s with heap:=s.heap.push { cls:=.type "list",data:=.seq its.toArray },toks:=t' }:=
 I.laid (λ_ _ q=>wHz _ q) (wHA _) ⟨hz,its,0,hv,wHG _ rfl⟩
def Inv.fresh (I:Inv X pins σ H s):H s.heap.objs.size=none:=I.hok.fresh (wHA _)
def Inv.lstM (I:Inv X pins σ H s) (hH:H l=some (.lst xs)):xs.length<=sizeLine/\∃(its:List Value) (n:Nat),zAv xs its/\xs.length=its.length/\s.heap.get? l=some { cls:=.type "list",data:=.seq its.toArray n }:=by obtain⟨z,its,n,r,e⟩:=I.hok l _ hH;exact⟨z,its,n,r,r.length,e⟩
def zMf {n:Nat} (h:n<=sizeLine):Builtin.List.listTooLong n=false:=by unfold Builtin.List.listTooLong;exact wHX ∅
end
section
variable {X:Cx}
inductive RApp (x:V) (vs:List V) (H:Hp) (Q:VK):Prop
 | mk (l:_) (xs:_) (y:_):(x=.ref l)->(vs=[y])->(H l=some (.lst xs))->(xs.length < sizeLine)->(Q .non (upd H l (.lst (xs++[y]))))->RApp x vs H Q
def zNE:V->List V->Hp->VK->Prop:=λx vs H Q=>RApp x vs H Q
def zAr:MtM X "list.append" zNE:=by intro pins s σ H x vs v us Q I rx rv h;obtain⟨l,xs,y,rfl,rfl,hH,hz,q⟩:=h;cases rx;obtain⟨u,rfl,ru⟩:=rv.one;obtain⟨z,its,n,r,hl,e⟩:=I.lstM hH;refine call_meets wH5 ⟨_,e,rfl⟩ F.entry_list_append (F.args_list_append_2 _ _) (PySem.list_append l its.toArray n u (by rw[wHL];omega)) ⟨e,?_⟩;refine⟨.non,_,I.lset (its':=its++[u]) hH e (by simp) (r.append (.cons ru .nil)) ?_,rfl,q⟩;rw[wHy,wIl];omega
inductive RPop (x:V) (vs:List V) (H:Hp) (Q:VK):Prop
 | mk (l:_) (xs:_) (y:_):(x=.ref l)->(vs=[])->(H l=some (.lst xs))->(xs[xs.length-1]?=some y)->(Q y (upd H l (.lst xs.dropLast)))->RPop x vs H Q
def zRt:V->List V->Hp->VK->Prop:=λx vs H Q=>RPop x vs H Q
def zK6:MtM X "list.pop" zRt:=by
 intro pins s σ H x vs v us Q I rx rv h;obtain⟨l,xs,y,rfl,rfl,hH,hy,q⟩:=h;cases rx;have hus:=rv.zero;subst hus;obtain⟨z,its,n,r,hl,e⟩:=I.lstM hH;obtain⟨u,hu,ru⟩:=r.get hy;have cQ:its.toArray[its.toArray.size-1]?=some u:=by show its.toArray[its.length-1]?=some u;rw[← wIz,← hl];exact hu
 refine call_meets F.slot_list_pop ⟨_,e,rfl⟩ F.entry_list_pop (F.args_list_pop_1 _) (MeetsSeq.list_pop_last l its.toArray n u cQ (by rw[wHL];omega)) ⟨e,?_⟩;refine⟨y,_,I.lset (its':=its.dropLast) hH e ?_ r.dropLast ?_,ru,q⟩
 ·show its.toArray.eraseIdxIfInBounds (its.toArray.size-1)=its.dropLast.toArray;rw[wHL,List.eraseIdxIfInBounds_toArray,zJk]
 rw[List.length_dropLast];omega
inductive RCat (x:V) (y:V) (H:Hp) (Q:VK):Prop
 | mk (l:_) (b:_) (xs:_) (zs:_):(x=.ref l)->(y=.ref b)->(H l=some (.lst xs))->(H b=some (.lst zs))->(xs.length+zs.length<=sizeLine)->(∀p,H p=none->Q (.ref p) (upd H p (.lst (xs++zs))))->RCat x y H Q
def zRv:R2:=λx y H Q=>RCat x y H Q
def zD7:OpR X (binaryOp .Add) zRv:=by
 intro pins s σ H x y v u Q I rx ry h;obtain⟨l,b,xs,zs,rfl,rfl,hH,hB,hz,q⟩:=h;cases rx;cases ry;obtain⟨z,its,n,r,hl,e⟩:=I.lstM hH;obtain⟨z2,bF,n2,r2,cZ,e2⟩:=I.lstM hB;refine PySem.P.add_list e e2 ?_ (by rw[wHL,wHL];omega);have ea:its.toArray++bF.toArray=(its++bF).toArray:=by simp
 rw[ea];exact⟨.ref _,_,I.lnew (t':=s.toks) (r.append r2) (by rw[wHy];omega),rfl,q _ I.fresh⟩
inductive RRep (x:V) (y:V) (H:Hp) (Q:VK):Prop
 | mk (l:_) (k:_) (xs:_):(x=.ref l)->(y=.int k)->(H l=some (.lst xs))->(-(2 ^ 63)<=k)->(k < 2 ^ 63)->(xs.length*k.toNat<=sizeLine/\
 ∀p,H p=none->Q (.ref p) (upd H p (.lst (List.replicate k.toNat xs).flatten)))->RRep x y H Q
def zRs:R2:=λx y H Q=>RRep x y H Q
def zOa {α:Type} (xs:List α) (k:Nat):(List.replicate k xs).flatten.length=k*xs.length:=by
 induction k with
 | zero=>simp
 | succ k ih=>rw[wIr,wID,wHy,ih,Nat.succ_mul,Nat.add_comm]
theorem zMQ:OpR X (binaryOp .Mult) zRs:=by
 intro pins s σ H x y v u Q I rx ry h;obtain⟨l,k,xs,rfl,rfl,hH,h1,h2,hz,q⟩:=h;cases rx;obtain⟨t,rfl⟩:=ry;obtain⟨z,its,n,r,hl,e⟩:=I.lstM hH;have aD:its.toArray.size*k.toNat<=sizeLine:=by rw[wHL,← hl];exact hz
 have mC:¬its.toArray.size*k.toNat > (2 ^ 63-1) / 8:=by
  have:(sizeLine:Nat)<=(2 ^ 63-1) / 8:=by decide
  omega
 have bP:¬(!Builtin.List.listFitsIndex k)=true:=by rw[fitsIndex_both h1 h2];exact wHM
 have fY:¬Builtin.List.listTooLong (its.toArray.size*k.toNat)=true:=by rw[zMf aD];exact wHM
 have lN:List.foldl (λx1 x2=>x1++x2) #[] (List.replicate (if its.toArray.isEmpty=true then 0 else k.toNat) its.toArray)=(List.replicate k.toNat its).flatten.toArray:=by
  have f0:∀m:Nat,List.foldl (λx1 x2=>x1++x2) #[] (List.replicate m its.toArray)=(List.replicate m its).flatten.toArray:=λm=>by have:=zGW its m [];rw[List.nil_append] at this;exact this
  rw[f0];cases its with
  | nil=>simp
  | cons a r'=>rw[wHD (by simp)]
 refine wpAny_binaryOp_repeat_ref (T:="list") (U:="int") ⋯ ⟨_,e,rfl⟩ (λs'=>typeIs_int s' k t) noFill_list_mul F.fills_int_mul F.slot_int_rmul repeat_list F.slot_int_index.lookup
  (call_meets F.slot_int_rmul (typeIs_int s k t) F.entry_int_rmul (F.args_int_rmul_2 _ _) (int___rmul___int_list k t l its.toArray n)
   ⟨e,rfl,⟨_,e,rfl⟩,call_meets F.slot_list_mul ⟨_,e,rfl⟩ F.entry_list_mul (F.args_list_mul_2 _ _) (AutoListH.list___mul___list_int_3 l its.toArray n k t bP mC fY) ⟨e,?_⟩⟩)
 rw[lN];exact⟨.ref _,_,I.lnew (t':=s.toks) (r.rep k.toNat) (by rw[zOa,Nat.mul_comm];exact hz),rfl,q _ I.fresh⟩
end
end L2
namespace Att
open PySem PySem.W PySem.Calls PyProof.Rows
def zE9 {P:Params} {h:Heap}:∀(ns:List Int) (vs:List Value),WellAll P h vs (ns.map WData.int)->IntsAre vs ns:=by
 intro ns
 induction ns with
 | nil=>
  intro vs w;rw[List.map_nil] at w;cases w;exact .nil
 | cons n ns ih=>
  intro vs w;rw[wH6] at w;cases w with
  | cons a b=>
   cases a;exact .cons _ _ (ih _ b)
def zJM {l:OpenLaw} {n:Nat} (hn:l.most=some n) {P:Params} {h:Heap} {args:List WData} {vals:List Value}
  (cW:l.row.toRowW.claim.pre args=true) (iC:WellAll P h vals args) :
  ∃a vs ns,vals=[Value.ref a]/\args=[WData.list (ns.map WData.int)]/\h.get? a=some { cls:=.type "list",data:=.seq vs.toArray }/\IntsAre vs ns/\ns.length<=n:=by
 have hsh:WShape.hasAll [] args [.list .int]=true:=(pre_splitW cW).1;have hc:l.pre.holds [] { args:=args }=true:=(pre_splitW cW).2;obtain⟨d,r,rfl,h1,h2⟩:=hasAllW_cons hsh;obtain rfl:=hasAllW_nil h2;obtain⟨xs,rfl,h3⟩:=hasW_list h1;obtain⟨ns,rfl⟩:=items_int h3;have aD:ns.length<=n:=by
  unfold OpenLaw.pre at hc;have h4:(WTm.not (.lt (.lit (.int (n:Int))) (.len (.arg 0)))).holds [] { args:=[.list (ns.map .int)] }=true:=by have h4:=(holds_andW hc).1;rw[hn] at h4;exact h4
  have h5:=condW_of h4 (w_not (w_lt w_lit (w_len_list (w_arg rfl))));rw[wHt] at h5;refine Nat.le_of_not_lt λq=>?_;have q':(n:Int) < ((ns.length:Nat):Int):=by omega
  first
   | (rw[wHU q'] at h5;exact absurd h5 ⋯)
   | (simp at h5;omega)
 cases iC with
 | cons w1 w2=>
  cases w2;cases w1 with
  | list ho dE=>exact⟨_,_,ns,rfl,rfl,ho,zE9 ns _ dE,aD⟩
def zKh (l:OpenLaw) (args:List WData):l.row.toRowW.claim.post args (.bool true) args=true:=
 postW_of (r:=l.row.toRowW) (X:=(true == true))
  (show WShape.has [] (.bool true) .bool=true by first | rfl | decide | simp[WShape.has,WShape.arms,WShape.armsAll])
  (show (WTm.eq .res (.lit (.bool true))).value [] { args:=args,res:=some (.bool true),after:=args }=some (.bool (true == true)) from w_eq_bool (w_res rfl) w_lit) rfl
def attach_call {l:OpenLaw} {n:Nat} {q:Program} {loose:List Str} {XP:(Str->Option Value)->Heap->Prop} {YP:World->Heap->Prop} {d:DefRec}
  (hn:l.most=some n) (gE:d.params.defaults=[])
  (call:∀(w:World) (s₀ s₁:Shared) (mg mb:Str->Option Value) (fa:Addr) (o:Obj) (pm cd doc:Value) (a:Addr) (vs:List Value) (ns:List Int),
   Ground q loose [] XP w s₀ mg mb s₁.heap->YP w s₁.heap->
   s₁.heap.get? fa=some o->o.data=.func (docDef d.name d.params d.body d.scope pm cd doc)->s₁.heap.CodeRec cd d.name->mg d.name=some (.ref fa)->
   s₁.heap.get? a=some { cls:=.type "list",data:=.seq vs.toArray }->IntsAre vs ns->ns.length<=n->s₁.gens=#[]->
   codeAny (model l.prog w) callerA (.call (.ref fa) ⟨[.ref a],[]⟩) (λr s'=>r=.ok (.ret (.bool true))/\OldK s₁.heap s'.heap/\s'.os=s₁.os/\AllBare s'.gens) s₁) :
  WalkO q loose XP YP l.row.toRowW d [] (λf vs=>PySem.call f vs):=by
 intro w s₀ s₁ mg mb G Y fa o pm cd doc dV kV ho hd aO hD lP hg args vals as cW hlay hrd iC hlo;obtain rfl:dV=.none:=Dflts.none hD gE;obtain rfl:kV=.none:=Dflts.noKw hD;obtain⟨a,vs,ns,rfl,rfl,eM,bX,aD⟩:=zJM hn cW iC;refine enter_call (codeAny_mono (call w s₀ s₁ mg mb fa o pm cd doc a vs ns G Y ho (fd_plain hd) aO lP eM bX aD hg) λr s' hq=>?_);obtain⟨rfl,h2,h3,h4⟩:=hq;exact⟨.inl ⟨.bool true,.bool true,[],rfl,λ_=>rfl,.bool true,zKh l _,λ_=>⟨List.Pairwise.nil,λ_ hm=>(nomatch hm)⟩⟩,h2,h3,h4⟩
end Att
namespace L2
open PySem PySem.Spec PyProof.Rows
theorem zCO:∀{vs:List Value} {ns:List Int},IntsAre vs ns->zAv (ns.map V.int) vs
 | _,_,.nil=>.nil
 | _,_,.cons n t h=>.cons ⟨t,rfl⟩ (zCO h)
def zQO (H:Hp):Prop:=∀b,H b=none∨∃o xs,H b=some (.frz o (.lst xs))
def zMq {P:Program} {w:World} {K:W.Frag} {mg mb:Str->Option Value} {CX:CXT} {k:Nat} {fa a:Addr} {fd:FuncData} {x:Str} {sp:Sp} {s₁:Shared} {vs:List Value} {ns:List Int}
  (KX:K.In s₁.heap) (bO:s₁.heap.Ns mainGlobals mg) (hb:s₁.heap.Ns builtinsNs mb) (hbb:∀x:Str,x≠"__name__"->mb x=bootBuiltins x) (lR:s₁.heap.NoLimit) (fi:s₁.heap.NoSeer) (hg:s₁.gens=#[])
  (ha:s₁.heap.get? a=some { cls:=.type "list",data:=.seq vs.toArray }) (hi:IntsAre vs ns) (hl:ns.length<=sizeLine) (hr:Room k callerA)
  (F:∀base:Heap,K.In base->base.Ns mainGlobals mg->FnOk P w K mg base CX k fa fd [x] sp) (gK:∀(s:Shared) (u:Value),BindsTo s fd ⟨[u],[]⟩ [(x,u)])
  (bL:∀H:Hp,zQO H->SqL K H a (ns.map V.int)->sp [.ref a] H (λv _=>v=.bl true) λ_ _ _=>False)
  (mH:∀H e s',CX [] H s₁ (λ_ _ _=>False) e s'->False) :
  codeAny (model P w) callerA (.call (.ref fa) ⟨[.ref a],[]⟩) (λr s'=>r=.ok (.ret (.bool true))/\OldK s₁.heap s'.heap/\s'.os=s₁.os/\AllBare s'.gens) s₁:=by
 have rv:=zCO hi;have kX:=hi.length;have core:∀H:Hp,zQO H->SqL K H a (ns.map V.int)->HOk P w H s₁.heap->(∀b,H b≠none->b=a)->(H a≠none->K.lookup a=none)->
   codeAny (model P w) callerA (.call (.ref fa) ⟨[.ref a],[]⟩) (λr s'=>r=.ok (.ret (.bool true))/\OldK s₁.heap s'.heap/\s'.os=s₁.os/\AllBare s'.gens) s₁:=by
  intro H hO hS hok hA hK;have aX:∀{b:Addr} {o:Obj},s₁.heap.get? b=some o->H b=none->(zMv s₁.heap H).get? b=some o:=λe n=>zMu e n;have fP:∀{b:Addr} {o:Obj} {es:Array DictEntry} {ep:Nat},s₁.heap.get? b=some o->o.data=.dict es ep->H b=none:=λ{b o es ep} e d=>by
   cases q:H b with
   | none=>rfl
   | some u=>
    have e':b=a:=hA b (by rw[q];simp);subst e';rw[ha] at e;cases e;have d':Data.seq vs.toArray _=Data.dict es ep:=d;cases d'
  have dO:∀{b:Addr} {m:Str->Option Value},s₁.heap.Ns b m->(zMv s₁.heap H).Ns b m:=λ{b m} ⟨o,es,ep,e,d,r⟩=>⟨o,es,ep,aX e (fP e d),d,r⟩;have hKb:K.In (zMv s₁.heap H):=λb o e=>aX (KX b o e) (by
   cases q:H b with
   | none=>rfl
   | some u=>
    have e':b=a:=hA b (by rw[q];simp);subst e';rw[hK (by rw[q];simp)] at e;cases e)
  have hM:Mod K mg (zMv s₁.heap H):=⟨hKb,dO bO,⟨mb,dO hb,hbb⟩,let ⟨mc,h1,h2⟩:=lR;⟨mc,dO h1,h2⟩,
   let ⟨mc,h1,h2⟩:=fi.statics;⟨mc,dO h1,h2⟩,let ⟨mm,h1,h2⟩:=fi.mods;⟨mm,dO h1,h2⟩,⟨mb,dO hb,hbb⟩,
   let ⟨g',bm,ob,h1,h2,h3,h4,h5⟩:=fi.main;⟨g',bm,ob,dO h1,h2,aX h3 (by
    cases q:H bm with
    | none=>rfl
    | some u=>
     have e':bm=a:=hA bm (by rw[q];simp);subst e';rw[ha] at h3;cases h3;have h4':Value.type "list"=Value.type "module":=h4;exact absurd (Value.type.inj h4') ⋯),h4,h5⟩⟩
  have e0:Env0 P w K mg (zMv s₁.heap H) callerA [] s₁ H:=⟨rfl,hM,λb o e=>zNU e,wIG (zKM _ _),trivial,λb hb=>absurd (show b∈([]:List Addr) from hb) (by simp),hok,.of_eq hg⟩;refine codeAny_mono ((F _ hKb (dO bO)).run callerA [] s₁ H ⟨[.ref a],[]⟩ [.ref a] [.ref a] _ _ hr e0 (gK s₁ (.ref a)) (.cons rfl .nil) (bL H hO hS)) λr s' h=>?_;cases r with
  | error e=>exact (mH H e s' h).elim
  | ok fl=>
   cases fl with
   | next=>exact wIh h
   | brk=>exact wIh h
   | cont=>exact wIh h
   | ret u=>
    obtain⟨v,H',os,bare,un,lH,r',q⟩:=h;have q':v=.bl true:=q;subst q';obtain rfl:u=Value.bool true:=r';refine⟨rfl,OldK.of_keep λb o e=>?_,os,bare⟩;cases q:H b with
    | none=>exact un.keep b o e q (by intro z;exact absurd (show b∈([]:List Addr) from z) (by simp)) (by simp)
    | some u=>
     rcases hO b with z | ⟨ob,xs,z⟩
     ·rw[q] at z;cases z
     have z2:=un.frzs b ob _ z;obtain⟨e1,_⟩:=hok b _ z;obtain⟨e2,_⟩:=lH b _ z2;rw[e] at e1;cases e1;exact e2
 cases hk:K.lookup a with
 | some o=>
  have e:=KX a o hk;rw[ha] at e;cases e;refine core (λ_=>none) (λ_=>.inl rfl) (.inr ⟨_,vs.toArray,_,hk,rfl,rfl,rfl,by rw[wHL,kX];exact hl,by simpa using rv⟩) (λb u z=>by have z':(none:Option HO)=some u:=z;cases z') (λb z=>absurd rfl z) λz=>absurd rfl z
 | none=>
  refine core (λb=>if b=a then some (.frz { cls:=.type "list",data:=.seq vs.toArray } (.lst (ns.map V.int))) else none) (λb=>?_) (.inl (.inr ⟨{ cls:=.type "list",data:=.seq vs.toArray },wHF rfl⟩)) (λb u z=>?_) (λb z=>?_) λ_=>hk
  ·by_cases hb:b=a
   ·exact .inr ⟨_,_,wHF hb⟩
   exact .inl (wHD hb)
  ·by_cases hb:b=a
   ·have z':=(wHF hb).symm.trans z;cases z';subst hb;exact⟨ha,by rw[wHt];exact hl,vs,_,rv,ha⟩
   have z':=(wHD hb).symm.trans z;cases z'
  by_cases hb:b=a
  ·exact hb
  exact absurd (wHD hb) z
abbrev KOf {K:W.Frag} {h:Heap} (_:K.In h):W.Frag:=K
def zNm {l:PySem.W.OpenLaw} {n k:Nat} {q:Program} {loose:List Str} {XP:(Str->Option Value)->Heap->Prop} {YP:World->Heap->Prop} {d:DefRec} {K:Params->W.Frag} {CX:World->CXT} {sp:World->Sp} {x:Str}
  (hn:l.most=some n) (iI:n<=sizeLine) (gE:d.params.defaults=[]) (hq:importsNone q=true) (hr:Room k callerA)
  (hY:∀(w:World) (h:Heap),YP w h->(K w.params).In h)
  (F:∀(w:World) (mg:Str->Option Value) (fa:Addr) (h:Heap),(K w.params).In h->h.Ns mainGlobals mg->mg d.name=some (.ref fa)->
   ∃fd:FuncData,(∀(s:Shared) (u:Value),BindsTo s fd ⟨[u],[]⟩ [(x,u)])/\
    ∀base:Heap,(K w.params).In base->base.Ns mainGlobals mg->FnOk l.prog w (K w.params) mg base (CX w) k fa fd [x] (sp w))
  (bL:∀(w:World) (H:Hp) (a:Addr) (ns:List Int),ns.length<=n->zQO H->SqL (K w.params) H a (ns.map V.int)->sp w [.ref a] H (λv _=>v=.bl true) λ_ _ _=>False)
  (mH:∀(w:World) (H:Hp) (s:Shared) (e:Value) (s':Shared),CX w [] H s (λ_ _ _=>False) e s'->False) :
  PySem.W.WalkO q loose XP YP l.row.toRowW d [] (λf vs=>PySem.call f vs):=by
 refine Att.attach_call hn gE λw s₀ s₁ mg mb fa o pm cd doc a vs ns G Y ho hd aO lP eM bX aD hg=>?_;have KX:=hY w _ Y;obtain⟨fd,hb,hF⟩:=F w mg fa _ KX G.T.g lP;exact zMq KX G.T.g G.T.b G.T.builtins G.T.nolimit (G.T.seer hq) hg eM bX (wHI aD iI) hr hF hb (λH hO hS=>bL w H a ns aD hO hS) λH e s'=>mH w H s₁ e s'
def zBb (s:Stmt) (j:Nat):Stmt:=match s with
 | .ClassDef _ _ _ body _ _ _ _ _ _ _=>body.getD j (.Pass ⟨0,0,0,0⟩)
 | _=>.Pass ⟨0,0,0,0⟩
def zCg (s:Stmt):Arguments:=match s with
 | .FunctionDef _ a _ _ _ _ _ _ _ _=>a
 | _=>{ posonlyargs:=[],args:=[],vararg:=none,kwonlyargs:=[],kw_defaults:=[],kwarg:=none,defaults:=[] }
def zAU (s:Stmt):List Stmt:=match s with
 | .FunctionDef _ _ b _ _ _ _ _ _ _=>b
 | _=>[]
def zK (s:Stmt):Scope:=match s with
 | .FunctionDef _ _ _ _ _ _ sc _ _ _=>sc
 | _=>{ kind:=.function,names:=[],isGenerator:=false,isCoroutine:=false }
abbrev CX0:CXT:=λ_ _ _ _ _ _=>False
abbrev E0:XK:=λ_ _ _=>False
def zCW {X:Cx}:zDg CX0 X E0:=λ_ _ _ _ _ _ _ h=>h.elim
structure Fun (K:W.Frag) (x qual:Str) (st:Stmt) (f:Addr) (fd:FuncData):Prop where
 ex:∃(oc:Value) (od:Option Addr) (kV doc pm:Value) (an:Option Addr) (cdv ct:Value) (cI:Array (Option Value)),
  fd=W.fnOf x qual (zCg st) (zAU st) (zK st) .none kV doc pm an cdv ct/\K.lookup f=some ⟨oc,od,.func fd,cI⟩/\W.codeIn K cdv qual=true
 kp:W.keepIn K (.ref f)=true
section
variable {P:Program} {w:World} {K:W.Frag} {mg:Str->Option Value} {base:Heap}
def Fun.ok {x qual:Str} {st:Stmt} {f:Addr} {fd:FuncData} {N ps:List Str} {k:Nat} {sp:Sp} (F:Fun K x qual st f fd) (S:FnScope N ps (zK st)) (len:∀vs H Q E,sp vs H Q E->vs.length=ps.length)
  (aR:∀(cdv:Value) (A:Around) (outer:List Env) (s:Shared) (H:Hp) (vs:List V) (Q:VK) (E:XK),Room k (A.deeper (envOfC qual (zK st) s.heap.objs.size f cdv))->sp vs H Q E->
   ∃t,PSs (zD9 CX0 P w K mg base N qual (zK st) f cdv A outer s H E).nox (zAU st) t/\t { nx:=λ_ H'=>Q .non H',rt:=Q } (zCP N vs) H):FnOk P w K mg base CX0 (k+1) f fd ps sp:=by
 obtain⟨oc,od,kV,doc,pm,an,cdv,ct,cI,rfl,lk,aO⟩:=F.ex;refine zPJ lk aO S len λA outer s H vs Q E hr bL=>?_;obtain⟨t,h,q⟩:=aR cdv A outer s H vs Q E hr bL;exact⟨t,h.nox,q⟩
def Fun.binds {x qual:Str} {st:Stmt} {f:Addr} {fd:FuncData} {ps:List Str} (F:Fun K x qual st f fd)
  (h:∀(kV doc pm:Value) (an:Option Addr) (cdv ct:Value) (us:List Value),us.length=ps.length->bindArgs (W.fnOf x qual (zCg st) (zAU st) (zK st) .none kV doc pm an cdv ct) ⟨us,[]⟩=pure (ps.zip us)):zAg K fd ps []:=by
 obtain⟨oc,od,kV,doc,pm,an,cdv,ct,cI,rfl,lk,aO⟩:=F.ex;exact .all (h kV doc pm an cdv ct)
def zPI {x qual:Str} {st:Stmt} {f:Addr} {oc:Value} {od an:Option Addr} {cI:Array (Option Value)} {kV doc pm cdv ct:Value} (l:K.lookup f=some ⟨oc,od,.func (W.fnOf x qual (zCg st) (zAU st) (zK st) .none kV doc pm an cdv ct),cI⟩)
  (c:W.codeIn K cdv qual=true) (k:W.keepIn K (.ref f)=true):Fun K x qual st f (W.fnOf x qual (zCg st) (zAU st) (zK st) .none kV doc pm an cdv ct):=⟨⟨oc,od,kV,doc,pm,an,cdv,ct,cI,rfl,l,c⟩,k⟩
end
def zAa {n:Nat} (h:n<=1000):n < sizeLine:=wIi h ⋯
section
variable {X:Cx}
def pv (i:Nat) {x:Str} {pos:Pos} (hN:X.N[i]?=some x:=by rfl) (hv:Vis X.env.scope x:=by first | exact Or.inl rfl | exact Or.inr (Or.inl rfl) | exact Or.inr (Or.inr rfl)) (hd:(x == ("__debug__":Str))=false:=by decide)
  (aO:(x == ("__classdict__":Str))=false:=by decide):PE X (.Name x pos) (zQi i):=zPl hN hv hd aO
end
def zBC {A B:Prop} (h:B):if false=true then A else B:=by rw[wHD wHM];exact h
def zDh {A B:Prop} (h:A):if true=true then A else B:=by rw[wHF rfl];exact h
def zBD {c A B:Prop} [Decidable c] (h1:c->A) (h2:¬c->B):if c then A else B:=by
 by_cases h:c
 ·rw[wHF h];exact h1 h
 rw[wHD h];exact h2 h
def zQ3 {c A B:Prop} [Decidable c] (hc:c) (h:B):if (!decide c)=true then A else B:=by rw[wHU hc];exact zBC h
def zAi (H H':Hp):Prop:=∀b o,H b=some o->H' b=some o
def zAi.refl (H:Hp):zAi H H:=λ_ _ h=>h
def zAi.trans {H H1 H2:Hp} (a:zAi H H1) (b:zAi H1 H2):zAi H H2:=λc o h=>b c o (a c o h)
def zAi.free {H H':Hp} (e:zAi H H') {l:Addr} (h:H' l=Option.none):H l=Option.none:=by
 cases q:H l with
 | none=>rfl
 | some o=>
  rw[e l o q] at h;cases h
def zAi.seq {K:W.Frag} {H H':Hp} {a:Addr} {xs:List V} (e:zAi H H') (h:SqL K H a xs):SqL K H' a xs:=by
 rcases h with (h | ⟨o,h⟩) | h
 ·exact .inl (.inl (e _ _ h))
 ·exact .inl (.inr ⟨o,e _ _ h⟩)
 exact .inr h
def Sm (i:Int):Prop:=i.natAbs < 2 ^ 9000
def Sm.log {i:Int} (h:Sm i):i.natAbs.log2 < 9000:=by
 by_cases h0:i.natAbs=0
 ·rw[h0];nofun
 exact (Nat.log2_lt h0).mpr h
def zPf:(10:Nat) ^ 200 < 2 ^ 9000:=by nofun
def Sm.of {i:Int} (h:i.natAbs<=10 ^ 200):Sm i:=wIi h zPf
section
variable {X:Cx}
def zLW:OpR X (binaryOp .FloorDiv) (rI (λ_ j=>0 < j/\Sm j) λi j=>.int (i / j)):=opI λi j _ _ _ _ _ hc q=>by have h1:(0:Int) < j:=hc.1;exact floordiv_int ∅ (by rw[Int.fdiv_eq_ediv_of_nonneg i ∅];exact q) (.inl (PyProof.noPylong_of_log2 hc.2.log))
inductive RIsI (K:W.Frag) (xs:List V) (H:Hp) (Q:VK):Prop
 | mk (x:_) (n:_) (t:_) (b:_):(xs=[x,.ty n])->TyOf K H x t->(W.kitOne K t (.type n)=some b)->(Q (.bl b) H)->RIsI K xs H Q
def zHV:zBp X (.builtin "isinstance") (λxs H Q=>RIsI X.K xs H Q):=by intro pins s σ H xs us Q I r h;obtain⟨x,n,t,b,rfl,ty,e,q⟩:=h;obtain⟨u,w',rfl,r1,r2⟩:=zL2 r;cases (show w'=Value.type n from r2);exact zKI I r1 ty e λtk=>⟨.bl b,H,I.tok _,rfl,q⟩
def zR9 (K:W.Frag) (n:Nat) (t:TGs):TG:=λv σ H Q=>∃a xs,v=.ref a/\SqL K H a xs/\xs.length=n/\t xs σ H Q
def zPj {es:List Expr} {k:Nat} {t:TGs} {n:Nat} {pos:Pos} (hc:X.calm=true) (h:PGs X es t)
  (hn:(assignEach es X.env).length=n:=by rfl) (aF:(assignEach es X.env).findIdx? (·.1)=none:=by rfl):PG X (.Tuple es k pos) (zR9 X.K n t):=by
 intro pins s σ H v u Q I r hw;obtain⟨a,xs,e1,hq,hl,hw⟩:=hw;subst e1;cases r;obtain⟨its,rv,ht,hz⟩:=I.list hq;have hs:(assignEach es X.env).length=its.toArray.size:=by simp[hn,← hl,rv.length]
 rw[assign_Tuple];refine wHu (wpAny_standAt ?_);unfold unpack;rw[hs,aF];refine wHu (wIn (W.kun_itemsOf (I.ok.hd hc) ht.isList λh' hx=>?_));have I1:Inv X pins σ H { s with heap:=h' }:=I.kept (t':=s.toks) λb o e=>hx b o (wHO (wHH e)) e;exact h pins _ σ H xs _ Q I1 (by simpa using rv) hw
end
def zGj {p A B:Prop} [Decidable p] (h:p) (k:A):if decide p=true then A else B:=by rw[wHF (wHU h)];exact k
def zFU {p A B:Prop} [Decidable p] (h:¬p) (k:B):if decide p=true then A else B:=by rw[wHD (by rw[wHX h];exact wHM)];exact k
def zP8 {p A B:Prop} [Decidable p] (h:p) (k:B):if (!decide p)=true then A else B:=by rw[wHD (by rw[wHU h];exact wHM)];exact k
def zQ4 {p A B:Prop} [Decidable p] (h:¬p) (k:A):if (!decide p)=true then A else B:=by rw[wHF (by rw[wHX h];rfl)];exact k
def zC {H:Hp} {p:Addr} (h:H p=none) (o:HO):zAi H (upd H p o):=λb u q=>by rw[zJ (zM q h)];exact q
def small {n:Nat} (h:n<=1000):n<=sizeLine:=wIC (zAa h)
def Bd (n:Nat) (i:Int):Prop:=i.natAbs<=n
def Bd.mul {m n:Nat} {a b:Int} (h:Bd m a) (k:Bd n b):Bd (m*n) (a*b):=by unfold Bd at *;rw[wIJ];exact Nat.mul_le_mul h k
def Bd.sub {m n:Nat} {a b:Int} (h:Bd m a) (k:Bd n b):Bd (m+n) (a-b):=by unfold Bd at *;omega
def Bd.mono {m n:Nat} {a:Int} (h:Bd m a) (k:m<=n):Bd n a:=wHI h k
def Bd.sm {n:Nat} {a:Int} (h:Bd n a) (k:n<=10 ^ 200):Sm a:=Sm.of (wHI h k)
def zAp:(2:Nat)<=sizeLine:=by decide
def gI (t b:Int):Int:=(Nat.gcd t.natAbs b.natAbs:Nat)
def zI1 {t b:Int} (hb:b≠0):0 < gI t b:=by have:0 < Nat.gcd t.natAbs b.natAbs:=Nat.gcd_pos_of_pos_right _ ∅;unfold gI;omega
def zMW {t b:Int}:gI t b*(t / gI t b)=t:=Int.mul_ediv_cancel' (Int.ofNat_dvd_left.mpr (Nat.gcd_dvd_left _ _))
def zKS {t b:Int}:gI t b*(b / gI t b)=b:=Int.mul_ediv_cancel' (Int.ofNat_dvd_left.mpr (Nat.gcd_dvd_right _ _))
def zPF {t b:Int} (hb:b≠0):Nat.gcd (t / gI t b).natAbs (b / gI t b).natAbs=1:=by
 have h1:(gI t b).natAbs*(t / gI t b).natAbs=t.natAbs:=by rw[← wIJ,zMW]
 have h2:(gI t b).natAbs*(b / gI t b).natAbs=b.natAbs:=by rw[← wIJ,zKS]
 have h3:(gI t b).natAbs=Nat.gcd t.natAbs b.natAbs:=by unfold gI;omega
 have h4:Nat.gcd t.natAbs b.natAbs=(gI t b).natAbs*Nat.gcd (t / gI t b).natAbs (b / gI t b).natAbs:=by rw[← Nat.gcd_mul_left,h1,h2]
 have h5:0 < (gI t b).natAbs:=by have:=zI1 (t:=t) hb;omega
 rw[h3] at h4 h5;exact (Nat.eq_of_mul_eq_mul_left h5 (by rw[Nat.mul_one];exact h4)).symm
def zPG {t b:Int} {n:Nat} (hb:b≠0) (h:Bd n t):Bd n (t / gI t b):=by
 have h1:(gI t b).natAbs*(t / gI t b).natAbs=t.natAbs:=by rw[← wIJ,zMW]
 have h5:0 < (gI t b).natAbs:=by have:=zI1 (t:=t) hb;omega
 exact wHI (wHI (Nat.le_mul_of_pos_left _ h5) (wIG h1)) h
def zPH {t b:Int} {n:Nat} (hb:b≠0) (h:Bd n b):Bd n (b / gI t b):=by
 have h1:(gI t b).natAbs*(b / gI t b).natAbs=b.natAbs:=by rw[← wIJ,zKS]
 have h5:0 < (gI t b).natAbs:=by have:=zI1 (t:=t) hb;omega
 exact wHI (wHI (Nat.le_mul_of_pos_left _ h5) (wIG h1)) h
def zKR {t b:Int} (hb:0 < b):0 < b / gI t b:=by
 have h1:=zKS (t:=t) (b:=b);have h2:=zI1 (t:=t) (b:=b) ∅;by_cases z:0 < b / gI t b
 ·exact z
 have:gI t b*(b / gI t b)<=0:=Int.mul_nonpos_of_nonneg_of_nonpos ∅ ∅;omega
structure Frac (n:Nat) (x y:Int):Prop where
 pos:0 < y
 one:Nat.gcd x.natAbs y.natAbs=1
 tb:Bd n x
 bb:Bd n y
def Frac.mono {m n:Nat} {x y:Int} (h:Frac m x y) (k:m<=n):Frac n x y:=⟨h.pos,h.one,h.tb.mono k,h.bb.mono k⟩
def Frac.made {n:Nat} {t b:Int} (hb:0 < b) (ht:Bd n t) (mD:Bd n b):Frac n (t / gI t b) (b / gI t b):=
 ⟨zKR hb,zPF ∅,zPG ∅ ht,zPH ∅ mD⟩
def zQn (t:TS):TS:=λD σ H=>∃M:St->Hp->Prop,t { D with nx:=M } σ H/\∀σ' H',M σ' H'->D.nx σ' H'
def zG4 {X:Cx} {st:Stmt} {t:TS} (h:PS X st t):PS X st (zQn t):=by
 intro pins s σ H D I hw;obtain⟨M,h1,h2⟩:=hw;refine thn (h pins s σ H _ I h1) λf s1 q=>?_;cases f with
 | next=>obtain⟨σ',H',I',m⟩:=q;exact⟨σ',H',I',h2 _ _ m⟩
 | ret v=>exact q
 | brk=>exact q
 | cont=>exact q
def zAD (env:Env):List (Str × NameKind)->List (Str × Addr)->List (Str × Addr)
 | [],aC=>aC
 | (n,k)::r,aC=>if k=.free then zAD env r (match env.cells.lookup n with | some c=>(n,c)::aC | none=>aC) else zAD env r aC
theorem zFw (env:Env):∀(l:List (Str × NameKind)) (aC:List (Str × Addr)),(∀y∈l,y.2=.free->∃c,env.cells.lookup y.1=some c)->
  (forIn l aC λx cs=>if (x.2 == NameKind.free)=true then do let a ← cellOf env x.1;pure (ForInStep.yield ((x.1,a)::cs)) else pure (ForInStep.yield cs):Sem (List (Str × Addr)))=pure (zAD env l aC)
 | [],aC,_=>rfl
 | (n,k)::r,aC,h=>by
  have hr:=λaC=>zFw env r aC λy hy=>h y (wHV _ hy);rw[List.forIn_cons];by_cases hk:k=.free
  ·subst hk;obtain⟨c,hc⟩:=h (n,.free) wIg rfl;have e1:cellOf env n=pure c:=by unfold cellOf;rw[show env.cells.lookup n=some c from hc]
   have e2:zAD env ((n,NameKind.free)::r) aC=zAD env r ((n,c)::aC):=by simp only[zAD,if_true];rw[show env.cells.lookup n=some c from hc]
   rw[e2,← hr];simp[e1]
  have e2:zAD env ((n,k)::r) aC=zAD env r aC:=by simp only[zAD,wHD hk]
  have hb:(k == NameKind.free)=false:=by simpa using hk
  rw[e2,← hr];simp[hb]
theorem zHU {scope:Scope} {env:Env} (h:∀y∈scope.names,y.2=.free->∃c,env.cells.lookup y.1=some c):closureFor scope env=pure (zAD env scope.names []):=by have:=zFw env scope.names [] h;unfold closureFor;simpa using this
theorem zC5 (env:Env) (x:Str) (c:Addr):∀(l:List (Str × NameKind)) (aC:List (Str × Addr)),(∀z d,aC.lookup z=some d->env.cells.lookup z=some d)->(zAD env l aC).lookup x=some c->env.cells.lookup x=some c
 | [],aC,h,e=>h x c e
 | (n,k)::r,aC,h,e=>by
  by_cases hk:k=.free
  ·subst hk;simp only[zAD,if_true] at e;cases q:env.cells.lookup n with
   | none=>rw[q] at e;exact zC5 env x c r aC h e
   | some d=>
    rw[q] at e;refine zC5 env x c r _ (λz d' hz=>?_) e;rw[List.lookup_cons] at hz;cases hb:z == n with
    | true=>rw[hb] at hz;cases hz;rw[beq_iff_eq.mp hb];exact q
    | false=>rw[hb] at hz;exact h z d' hz
  simp only[zAD,wHD hk] at e;exact zC5 env x c r aC h e
theorem zDy (env:Env) (x:Str):∀(l:List (Str × NameKind)) (aC:List (Str × Addr)),(∃c,aC.lookup x=some c)->∃c,(zAD env l aC).lookup x=some c
 | [],_,h=>h
 | (n,k)::r,aC,h=>by
  by_cases hk:k=.free
  ·subst hk;simp only[zAD,if_true];refine zDy env x r _ ?_;cases q:env.cells.lookup n with
   | none=>exact h
   | some d=>
    show ∃c,List.lookup x ((n,d)::aC)=some c;rw[List.lookup_cons];cases hb:x == n with
    | true=>exact⟨_,rfl⟩
    | false=>exact h
  simp only[zAD,wHD hk];exact zDy env x r aC h
theorem zC6 (env:Env) (x:Str):∀(l:List (Str × NameKind)) (aC:List (Str × Addr)),(x,NameKind.free)∈l->(∃c,env.cells.lookup x=some c)->∃c,(zAD env l aC).lookup x=some c
 | [],_,h,_=>by simp at h
 | (n,k)::r,aC,h0,hc=>by
  rcases wIQ h0 with e | h
  ·cases e;obtain⟨c,q⟩:=hc;simp only[zAD,if_true];refine zDy env x r _ ?_;rw[q];exact⟨c,by rw[List.lookup_cons];simp⟩
  by_cases hk:k=.free
  ·subst hk;simp only[zAD,if_true];exact zC6 env x r _ h hc
  simp only[zAD,wHD hk];exact zC6 env x r aC h hc
def zHn (env:Env) (y:Str × NameKind):Str × NameKind:=if (y.2 == NameKind.free && env.scope.kind == .function && env.kindOf y.1 == some .cell)=true then (y.1,NameKind.cell) else y
def zLN (env:Env) (y:Str × NameKind):(zHn env y).1=y.1:=by unfold zHn;split<;>rfl
def zLM (env:Env) (y:Str × NameKind) (h:y.2≠.cell) (k:(zHn env y).2=.cell∨(zHn env y).2=.free):y.2=.free:=by
 unfold zHn at k
 split at k
 ·rename_i hb
  simp only[wHR,beq_iff_eq] at hb;exact hb.1.1
 rcases k with z | z
 ·exact absurd z h
 exact z
def zJY (env:Env) (y:Str × NameKind) (h:y.2=.free):(zHn env y).2=.cell∨(zHn env y).2=.free:=by
 unfold zHn
 split
 ·exact .inl rfl
 exact .inr h
theorem zBx (env:Env) (x:Str):∀(names:List (Str × NameKind)),(names.map (zHn env)).lookup x=(names.find? λy=>x == y.1).map λy=>(zHn env y).2
 | []=>rfl
 | y::r=>by
  rw[wH6,List.find?_cons];obtain⟨n,k⟩:=y;have e:zHn env (n,k)=(n,(zHn env (n,k)).2):=by have:=zLN env (n,k);exact Prod.ext this rfl
  rw[e,List.lookup_cons];cases hb:x == n with
  | true=>simp only[hb];rfl
  | false=>simp only[hb];exact zBx env x r
def zD6 {env:Env} {k':NameKind} {x:Str} (dX:k'=.cell∨k'=.free) {names:List (Str × NameKind)} (hc:∀y∈names,y.2≠.cell) (h:(names.map (zHn env)).lookup x=some k'):(x,NameKind.free)∈names:=by
 rw[zBx] at h;cases q:names.find? (λy=>x == y.1) with
 | none=>rw[q] at h;cases h
 | some y=>
  rw[q] at h;have e:(zHn env y).2=k':=wHE h;have hm:=List.mem_of_find?_eq_some q;have hx:x=y.1:=by simpa using List.find?_some q
  have hf:=zLM env y (hc y hm) (by rw[e];exact dX);rw[hx,← hf];exact hm
def zG2 {env:Env} {x:Str} {names:List (Str × NameKind)} (h:(names.find? λy=>x == y.1).map (·.2)=some NameKind.free):(names.map (zHn env)).lookup x=some .cell∨(names.map (zHn env)).lookup x=some .free:=by
 rw[zBx];cases q:names.find? (λy=>x == y.1) with
 | none=>rw[q] at h;cases h
 | some y=>
  rw[q] at h;have e:y.2=.free:=wHE h;rcases zJY env y e with z | z
  ·exact .inl (congrArg some z)
  exact .inr (congrArg some z)
def zHM {x:Str} {names:List (Str × NameKind)} (h:(names.find? λy=>x == y.1).map (·.2)=some NameKind.free):(x,NameKind.free)∈names:=by
 cases q:names.find? (λy=>x == y.1) with
 | none=>rw[q] at h;cases h
 | some y=>
  rw[q] at h;have e:y.2=.free:=wHE h;have hx:x=y.1:=by simpa using List.find?_some q
  rw[hx,← e];exact List.mem_of_find?_eq_some q
def zM5 (mp:List (Option Nat)) (σ:St):St:=mp.map λo=>o.bind λj=>(σ[j]?).join
structure BlkOk (X:Cx) (scope:Scope) (N':List Str) (mp:List (Option Nat)):Prop where
 nocell:∀y∈scope.names,y.2≠.cell
 kind:scope.kind=.function
 names:∀y∈scope.names,y.2=.local->scope.names.lookup y.1=some .local
 free:∀y∈scope.names,y.2=.free->X.env.kindOf y.1=some .cell∨X.env.kindOf y.1=some .free
 len:mp.length=N'.length
 slot:∀(i j:Nat) (x:Str),mp[i]?=some (some j)->N'[i]?=some x->X.N[j]?=some x/\(scope.names.find? λy=>x == y.1).map (·.2)=some NameKind.free
def zI9 (osc:Scope) (N:List Str) (scope:Scope) (N':List Str) (mp:List (Option Nat)):Bool:=
 scope.kind == .function && decide (mp.length=N'.length) &&
 scope.names.all (λy=>y.2 != .cell && (y.2 != .local || scope.names.lookup y.1 == some .local) && (y.2 != .free || osc.names.lookup y.1 == some .cell || osc.names.lookup y.1 == some .free)) &&
 (mp.zip N').all λy=>match y.1 with | none=>true | some j=>N[j]? == some y.2 && (scope.names.find? λz=>y.2 == z.1).map (·.2) == some NameKind.free
def BlkOk.of {X:Cx} {scope:Scope} {N':List Str} {mp:List (Option Nat)} (h:zI9 X.env.scope X.N scope N' mp=true):BlkOk X scope N' mp:=by
 unfold zI9 at h;simp only[wHR] at h;obtain⟨⟨⟨h1,h2⟩,h3⟩,h4⟩:=h;have a3:=List.all_eq_true.mp h3;have a4:=List.all_eq_true.mp h4;refine⟨λy hy=>?_,by simpa using h1,λy hy hl=>?_,λy hy hf=>?_,wHP h2,λi j x hm hN=>?_⟩
 ·have:=a3 y hy;simp only[wHR,bne_iff_ne] at this;exact this.1.1
 ·have:=a3 y hy;simp only[wHR,Bool.or_eq_true,bne_iff_ne,beq_iff_eq] at this;exact this.1.2.resolve_left λz=>z hl
 ·have:=a3 y hy;simp only[wHR,Bool.or_eq_true,bne_iff_ne,beq_iff_eq] at this;rcases this.2 with (z | z) | z
  ·exact absurd hf z
  ·exact .inl z
  exact .inr z
 have hz:(mp.zip N')[i]?=some (some j,x):=by rw[List.getElem?_zip_eq_some];exact⟨hm,hN⟩
 have:=a4 _ (wIe hz);simp only[wHR,beq_iff_eq] at this;exact this
def Cx.blk (X:Cx) (scope:Scope) (N':List Str) (C:Addr) (s3:Shared) (H3:Hp) (fp:List Addr) (pins:List (Addr × Obj)):Cx:=
 { X with env:=compEnvC scope (zAD X.env scope.names []) C X.env,N:=N',s₀:=s3,H₀:=H3,outer:=X.stack,ex:=fp,fn:=λ_=>false,pn:=X.pn++pins,xe:=λ_ _=>False }
section
variable {X:Cx} {scope:Scope} {N':List Str} {mp:List (Option Nat)} {C:Addr} {s3:Shared} {H3:Hp} {fp:List Addr} {pins:List (Addr × Obj)} {σ:St}
def BlkOk.cells (B:BlkOk X scope N' mp) (ok:X.Ok):∀y∈scope.names,y.2=.free->∃c,X.env.cells.lookup y.1=some c:=λy hy hf=>ok.has _ (B.free y hy hf)
def zCh {x:Str} {c:Addr} (h:(zAD X.env scope.names []).lookup x=some c):X.env.cells.lookup x=some c:=zC5 X.env x c scope.names [] (λ_ _ z=>by simp at z) h
def BlkOk.ok (B:BlkOk X scope N' mp) (I:Inv X pins σ H3 s3) (hC:s3.heap.objs.size<=C) (hf:∀b∈fp,zGm X pins H3 b) (iL:∀b∈fp,b < s3.heap.objs.size):(X.blk scope N' C s3 H3 fp pins).Ok where
 mod:=I.ok.mod
 kind:=B.kind
 glob:=I.ok.glob
 blt:=I.ok.blt
 above:=hC
 inj:=λx y c h1 h2=>I.ok.inj x y c (zCh h1) (zCh h2)
 has:=λx h=>by
  have hm:(x,NameKind.free)∈scope.names:=by
   rcases h with h | h
   ·exact zD6 (.inl rfl) B.nocell h
   exact zD6 (.inr rfl) B.nocell h
  exact zC6 X.env x scope.names [] hm (B.cells I.ok _ hm rfl)
 cab:=λ_ _ h=>by cases h
 hd:=I.ok.hd
 frames:=I.ok.frames
 stk:=.inl rfl
 exf:=λb hb=>⟨wHO (wHT (iL b hb) hC),λx c e=>(hf b hb).2.2.2.2.1 x c (zCh e)⟩
 bs:=I.bs
 bsz:=wHI I.ok.bsz I.sz
 noex:=λb o e hb=>by
  rcases (hf b hb).2.2.2.1 with z | z
  ·exact I.ok.noex b o e z
  exact absurd (wHT (wHH (I.ok.bs b o e).1) z) (Nat.lt_irrefl _)
 exfs:=λb hb hz=>by
  rcases wIQ (I.stkSub b hz) with e | e
  ·exact (hf b hb).2.1 e
  exact (hf b hb).2.2.1 e
 funs:=I.stack
 frf:=I.stkFree
def BlkOk.inv (B:BlkOk X scope N' mp) (I:Inv X pins σ H3 s3) (hC:s3.heap.objs.size=C) (hf:∀b∈fp,zGm X pins H3 b) (iL:∀b∈fp,b < s3.heap.objs.size) {h4:Heap} {t':Nat} {m4:Str->Option Value}
  (k:∀b o,s3.heap.get? b=some o->h4.get? b=some o) (hn:h4.Ns C m4):Inv (X.blk scope N' C s3 H3 fp pins) [] (zM5 mp σ) H3 { s3 with heap:=h4,toks:=t' } where
 ok:=B.ok I (wIG hC) hf iL
 os:=rfl
 bare:=I.bare
 base:=Un.kept k
 loc:=⟨m4,hn,λi x v e1 e2 _=>by
  unfold zM5 at e2;rw[wHB] at e2;cases em:mp[i]? with
  | none=>rw[em] at e2;cases e2
  | some o=>
   rw[em] at e2;cases o with
   | none=>cases e2
   | some j=>
    have fu:(σ[j]?).join=some v:=wHE e2;obtain⟨hx,fi⟩:=B.slot i j x em e1;have hm:=zHM fi;have hv:σ[j]?=some (some v):=by
     cases q:σ[j]? with
     | none=>rw[q] at fu;cases fu
     | some z=>rw[q] at fu;exact congrArg some fu
    have kf:=B.free _ hm rfl;obtain⟨m,_,hl⟩:=I.loc;obtain⟨u,r,q⟩:=hl j x v hx hv (.inr kf);rcases q with ⟨ql,_⟩ | ⟨_,c,hc,aV⟩
    ·rcases kf with z | z<;>(rw[ql] at z;cases z)
    obtain⟨c',gJ⟩:=zC6 X.env x scope.names [] hm ⟨c,hc⟩;have:c'=c:=by have:=zCh gJ;rw[hc] at this;exact (wHE this).symm
    subst this;obtain⟨oc,iG,hd⟩:=aV;exact⟨u,r,.inr ⟨zG2 fi,c',gJ,oc,k _ _ iG,hd⟩⟩⟩
 cell:=λx c e=>by obtain⟨v,o,ho,hd⟩:=I.cell x c (zCh e);exact⟨v,o,k _ _ ho,hd⟩
 free:=I.hok.fresh (wIG hC)
 freeC:=λx c e=>I.freeC x c (zCh e)
 pin:=λp hp=>by
  rw[wHQ] at hp;obtain⟨a,b,c,d,e⟩:=I.pin p hp;refine⟨k _ _ a,b,wHO (wHT (wHH a) (wIG hC)),λz=>?_,e⟩;rcases wIQ (I.stkSub p.1 z) with w | w
  ·exact c w
  exact d w
 hok:=I.hok.kept k
 len:=by unfold zM5;rw[wHt];exact B.len
def PIf (X:Cx) (ifs:List Expr) (t:TT):Prop:=
 ∀(pins:List (Addr × Obj)) (s:Shared) (σ:St) (H:Hp) (Q:Bool->Hp->Prop),Inv X pins σ H s->t σ H Q->
  wpAny (model X.prog X.w) X.A (forIn ifs true λc r=>if r=true then do let ok ← isTrue c X.env (eval c X.env);pure (ForInStep.yield ok) else pure (ForInStep.yield r)) (TP X pins σ Q) X.xe s
def zAO {X:Cx}:PIf X [] (λ_ H Q=>Q true H):=λ_ _ _ H _ I h=>wpAny_tests_nil ⟨H,I,h⟩
def zCJ {X:Cx} {c:Expr} {t:TT} (h:PT X c t):PIf X [c] t:=λpins s σ H Q I hw=>wpAny_tests_one (h pins s σ H Q I hw)
def zEd (l:Addr) (J:It) (g:TG) (tt:TT) (te:TE) (fin:Hp->Prop) (σ0:St) (H0:Hp):Prop:=
 ∃W:Nat->Nat->St->Hp->Prop,(∃m,W 0 m σ0 H0)/\∀i m σ H,W i m σ H->(J.stop i H/\fin H)∨(J.go i H/\∃N:St->Hp->Prop,(∀σ' H',N σ' H'->∃m',m' < m/\W (i+1) m' σ' H')/\
  ∀x H',J.yld i H x H'->g x σ H' λσ2 H2=>tt σ2 H2 λb H3=>if b=true then te σ2 H3 λv H4=>∃xs,H4 l=some (.lst xs)/\xs.length < sizeLine/\N σ2 (upd H4 l (.lst (xs++[v]))) else N σ2 H3)
def zJA (mp:List (Option Nat)) (wi:TI) (g:TG) (tt:TT) (te:TE) (σ:St) (H:Hp) (fin:Addr->Hp->Prop):Prop:=
 wi σ H λJ H1=>∀l,H1 l=none->zEd l J g tt te (fin l) (zM5 mp σ) (upd H1 l (.lst []))
def zGm.blk {H:Hp} {b:Addr} (I:Inv X pins σ H3 s3) (hC:s3.heap.objs.size<=C) (f:zGm X pins H3 b) (hb:b∈fp) (hl:b < s3.heap.objs.size) (n:H b=none):zGm (X.blk scope N' C s3 H3 fp pins) [] H b:=by
 obtain⟨_,f1,f2,f3,f4,f5⟩:=f;refine⟨n,wHO (wHT hl hC),λz=>?_,.inl hb,λx c e=>f4 x c (zCh e),λp hp=>f5 p (by rwa [wHQ] at hp)⟩;rcases wIQ (I.stkSub b z) with w | w
 ·exact f1 w
 exact f2 w
def zGY {use:Option (Value->Sem Unit)} {Qo:Value->Shared->Prop} {elt tg iter:Expr} {ifs:List Expr} {pos p0:Pos} {wi:TI} {g:TG} {tt:TT} {te:TE} {H:Hp} {s:Shared} {fin:Addr->Hp->Prop} (B:BlkOk X scope N' mp) (hc:X.calm=true) (hi:PI X tg iter wi)
  (hg:∀C s3 H3 fp pins,PG (X.blk scope N' C s3 H3 fp pins) tg g) (gA:∀C s3 H3 fp pins,PIf (X.blk scope N' C s3 H3 fp pins) ifs tt) (he:∀C s3 H3 fp pins,PE (X.blk scope N' C s3 H3 fp pins) elt te)
  (hs:∀x,foldedSetIterable iter X.env x=pure x) (I:Inv X pins σ H s) (h:zJA mp wi g tt te σ H fin)
  (lX:∀(l C:Addr) (H':Hp) (s':Shared) (m:Str->Option Value),s'.heap.Ns C m->Inv X pins σ H' s'->zGm X pins H' C->fin l H'->compPost (model X.prog X.w) X.A X.xe use Qo (.ref l) C (.ok .next) s') :
  wpAny (model X.prog X.w) X.A (comprehension (.ListComp elt [⟨tg,iter,ifs,0⟩] scope pos) scope X.env p0 (newList []) false (eval iter X.env) use) Qo X.xe s:=by
 refine wpAny_comprehension_free (use:=use) rfl hs (zHU (B.cells I.ok)) B.kind B.names (thn (hi pins s σ H _ I h) λv s1 h1=>thn h1 λlh s2 h2=>?_);obtain⟨it,fp,tn,J,H2,e,I2,T,fD,f2,hl⟩:=h2;subst e;obtain⟨W,⟨m0,w0⟩,turn⟩:=hl _ I2.fresh;refine wIj ?_;have I3:=I2.lnew (its:=[]) (t':=s2.toks) .nil (wIp _);obtain⟨s3,fj⟩:∃s3:Shared,s3={ s2 with heap:=s2.heap.push { cls:=.type "list",data:=.seq ([]:List Value).toArray } }:=⟨_,rfl⟩;have I3:Inv X pins σ (upd H2 s2.heap.objs.size (.lst [])) s3:=by rw[fj];exact I3
 have k23:∀b o,s2.heap.get? b=some o->s3.heap.get? b=some o:=λb o q=>by rw[fj];exact wHz _ q
 have aE:∀b∈fp,b < s2.heap.objs.size:=λb hb=>by obtain⟨o,q,_⟩:=T.obj _ _ fD b hb;exact wHH q
 have fX:∀b∈fp,b < s3.heap.objs.size:=λb hb=>by obtain⟨o,q,_⟩:=T.obj _ _ fD b hb;exact wHH (k23 _ _ q)
 have f3:∀b∈fp,zGm X pins (upd H2 s2.heap.objs.size (.lst [])) b:=λb hb=>by have f:=f2 b hb;exact⟨by rw[zJ (wHO (aE b hb))];exact f.1,f.2⟩
 show wpAny _ _ (newFunctionEnv scope X.env.globals (zAD X.env scope.names []) [] X.env.qual none .none (some X.env)) _ _ { s2 with heap:=s2.heap.push { cls:=.type "list",data:=.seq ([]:List Value).toArray } };rw[← fj];refine wpAny_newFunctionEnv B.nocell (λy hy=>by simp at hy) (λh4 hn4 sb4=>?_) B.kind;have k34:∀b o,s3.heap.get? b=some o->h4.get? b=some o:=λb o q=>sb4.extBut b o (wHO (wHH q)) (wHz _ q);have I4:=B.inv I3 rfl f3 fX (t':=s3.toks+([]:List (Str × Value)).length) k34 hn4;have st4:tn 0 h4:=T.keep _ _ _ fD λb _ o q=>k34 b o (k23 b o q);have mJ:∀{H':Hp},(∀b∈fp,H' b=none)->∀b∈fp,zGm (X.blk scope N' s3.heap.objs.size s3 (upd H2 s2.heap.objs.size (.lst [])) fp pins) [] H' b:=λhn b hb=>zGm.blk I3 (wHA _) (f3 b hb) hb (fX b hb) (hn b hb);have loop:codeAny (model X.prog X.w) X.A (.compLoop (.ListComp elt [⟨tg,iter,ifs,0⟩] scope pos) 0 (.ref it) (.ref s2.heap.objs.size) (compEnvC scope (zAD X.env scope.names []) s3.heap.objs.size X.env))
   (compPost (model X.prog X.w) X.A X.xe use Qo (.ref s2.heap.objs.size) s3.heap.objs.size) { s3 with heap:=h4,toks:=s3.toks+([]:List (Str × Value)).length }:=by
  refine codeAny_loop rfl (λn s'=>∃i σ' H',Inv (X.blk scope N' s3.heap.objs.size s3 (upd H2 s2.heap.objs.size (.lst [])) fp pins) [] σ' H' s'/\tn i s'.heap/\(∀b∈fp,H' b=none)/\W i n σ' H') (λn s' hI=>?_) m0 ⟨0,_,_,I4,st4,λb hb=>(f3 b hb).1,w0⟩;obtain⟨i,σ',H',I',bA,fr',w'⟩:=hI;refine wpAny_noted ?_;rw[compTurn_list];refine wHu (wpAny_standAt (wHu ?_));rcases turn i n σ' H' w' with ⟨stop,qn⟩ | ⟨go,N,hN,step⟩
  ·refine thn (T.done (X.blk scope N' s3.heap.objs.size s3 (upd H2 s2.heap.objs.size (.lst [])) fp pins) rfl rfl rfl hc i [] s' σ' H' _ I' (mJ fr') bA stop) λr s5 aA=>?_;obtain⟨hr,I5⟩:=aA;subst hr;obtain⟨m5,n5,_⟩:=I5.loc;refine wHx (lX _ _ H' s5 m5 n5 (I3.call' (ch:=fp) I5.os I5.base I5.hok I5.bare λb hb=>?_) (I3.fpOk (wHA _) I5.free) qn);obtain⟨_,g1,_,g3,g4,g5⟩:=f3 b hb;exact⟨g3,g1,g4,g5⟩
  refine thn (T.item (X.blk scope N' s3.heap.objs.size s3 (upd H2 s2.heap.objs.size (.lst [])) fp pins) rfl rfl rfl hc i [] s' σ' H' _ I' (mJ fr') bA go) λr s5 aA=>?_;obtain⟨u,hr,h5⟩:=aA;subst hr;refine wHu (thn h5 λ_ s6 aA=>?_);obtain⟨x,H6,I6,r6,y6,kD,fr6⟩:=aA;have I6':=I6.pinned (mJ fr6) (T.obj _ _ kD);have keep:∀{σ7:St} {H7:Hp} {s7:Shared},Inv (X.blk scope N' s3.heap.objs.size s3 (upd H2 s2.heap.objs.size (.lst [])) fp pins) ([]++zG8 fp s6.heap) σ7 H7 s7->N σ7 H7->
    ∃m,m < n/\∃i σ' H',Inv (X.blk scope N' s3.heap.objs.size s3 (upd H2 s2.heap.objs.size (.lst [])) fp pins) [] σ' H' s7/\tn i s7.heap/\(∀b∈fp,H' b=none)/\W i m σ' H':=λ{σ7 H7 s7} I7 n7=>by
   obtain⟨m',hm,w7⟩:=hN σ7 H7 n7;have pin:=λ(b:Addr) (hb:b∈fp) (o:Obj) (q:s6.heap.get? b=some o)=>I7.pin (b,o) (wIf _ (wIf _ (zDw hb q)));refine⟨m',hm,i+1,σ7,H7,I7.unpinned,T.keep _ _ _ kD λb hb o q=>(pin b hb o q).1,λb hb=>?_,w7⟩;obtain⟨o,q,_⟩:=T.obj _ _ kD b hb;exact (pin b hb o q).2.1
  refine wHu (wH4 (hg _ _ _ _ _ _ s6 σ' H6 x u _ I6' r6 (step x H6 y6)) (λ_ s7 ⟨σ7,H7,I7,q7⟩=>?_) λ_ _ z=>z.elim);refine wHu (wH4 (gA _ _ _ _ _ _ s7 σ7 H7 _ I7 q7) (λok s8 ⟨H8,I8,q8⟩=>?_) λ_ _ z=>z.elim);cases ok with
  | false=>exact wHx ⟨rfl,keep I8 q8⟩
  | true=>
   refine wHu (wHu (wH4 (he _ _ _ _ _ _ s8 σ7 H8 _ I8 q8) (λy s9 ⟨v9,H9,I9,r9,xs,e9,z9,q9⟩=>?_) λ_ _ z=>z.elim));refine wHu (wH4 (zAr (X:=(X.blk scope N' s3.heap.objs.size s3 (upd H2 s2.heap.objs.size (.lst [])) fp pins)) _ s9 σ7 H9 (.ref s2.heap.objs.size) [v9] (.ref s2.heap.objs.size) [y] (λ_ H'=>N σ7 H') I9 rfl (.cons r9 .nil) ⟨_,xs,v9,rfl,rfl,e9,z9,q9⟩) (λ_ s10 ⟨_,H10,I10,_,q10⟩=>?_) λ_ _ z=>z.elim);exact wHx (wHx ⟨rfl,keep I10 q10⟩)
 exact codeAny_compStart_list loop (T.self _ 0 _ _ _ st4 loop)
def zQo (mp:List (Option Nat)) (wi:TI) (g:TG) (tt:TT) (te:TE):TE:=λσ H Q=>zJA mp wi g tt te σ H λl H'=>Q (.ref l) H'
def zA4 {elt tg iter:Expr} {ifs:List Expr} {pos:Pos} {wi:TI} {g:TG} {tt:TT} {te:TE} (N':List Str) (mp:List (Option Nat)) (hk:zI9 X.env.scope X.N scope N' mp=true) (hc:X.calm=true) (hi:PI X tg iter wi)
  (hg:∀C s3 H3 fp pins,PG (X.blk scope N' C s3 H3 fp pins) tg g) (gA:∀C s3 H3 fp pins,PIf (X.blk scope N' C s3 H3 fp pins) ifs tt) (he:∀C s3 H3 fp pins,PE (X.blk scope N' C s3 H3 fp pins) elt te)
  (hs:∀x,foldedSetIterable iter X.env x=pure x:=by intro _;rfl):PE X (.ListComp elt [⟨tg,iter,ifs,0⟩] scope pos) (zQo mp wi g tt te):=by
 intro pins s σ H Q I h;rw[eval_ListComp];refine zGY (use:=none) (BlkOk.of hk) hc hi hg gA he hs I h λl C H' s' m hn I' f q=>?_;refine⟨m,hn,λh' sb=>⟨.ref l,H',?_,rfl,q⟩⟩;obtain⟨f0,f1,f2,f3,f4,f5⟩:=f;exact I'.turned (t':=s'.toks) (λb o hb e=>sb.extBut b o hb e) f0 f1 f3 f4 f5
def zQu (mp:List (Option Nat)) (wi:TI) (g:TG) (tt:TT) (te:TE) (g2:TG):TS:=λD σ H=>zJA mp wi g tt te σ H λl H'=>g2 (.ref l) σ H' D.nx
def zHA {x:Str} {elt tg iter:Expr} {ifs:List Expr} {pos px fE:Pos} {wi:TI} {g g2:TG} {tt:TT} {te:TE} (N':List Str) (mp:List (Option Nat)) (hk:zI9 X.env.scope X.N scope N' mp=true) (hc:X.calm=true) (hi:PI X tg iter wi)
  (hg:∀C s3 H3 fp pins,PG (X.blk scope N' C s3 H3 fp pins) tg g) (gA:∀C s3 H3 fp pins,PIf (X.blk scope N' C s3 H3 fp pins) ifs tt) (he:∀C s3 H3 fp pins,PE (X.blk scope N' C s3 H3 fp pins) elt te)
  (h2:PG X (.Name x px) g2) (hsw:swapsWith (.ListComp elt [⟨tg,iter,ifs,0⟩] scope pos) (some (.Name x px)) fE.line X.env=pure true:=by rfl)
  (hs:∀x,foldedSetIterable iter X.env x=pure x:=by intro _;rfl):PS X (.Assign [.Name x px] (.ListComp elt [⟨tg,iter,ifs,0⟩] scope pos) fE) (zQu mp wi g tt te g2):=by
 intro pins s σ H D I h;rw[exec_Assign_Name_used _ _ _ _ hsw];refine wHu (wpAny_standAt (wHu ?_));show wpAny _ _ (comprehension (.ListComp elt [⟨tg,iter,ifs,0⟩] scope pos) scope X.env (firstIterPos [⟨tg,iter,ifs,0⟩] pos) (newList []) false (eval iter X.env) (some (assign (.Name x px) X.env)) >>= λ_=>pure PUnit.unit) _ _ s;refine wHu (thn (zGY (use:=some (assign (.Name x px) X.env)) (Qo:=λ_ s'=>SP X pins D .next s') (BlkOk.of hk) hc hi hg gA he hs I h λl C H' s' m hn I' f q=>?_) λ_ s' q=>wHx (wHx q));show wpAny _ _ (assign (.Name x px) X.env (.ref l)) _ _ s';obtain⟨o,es,ep,ho,hr⟩:=id hn;obtain⟨f0,f1,f2,f3,f4,f5⟩:=f;have I2:Inv X (pins++[(C,o)]) σ H' s':=I'.pins_of λp hp=>by
  rcases wIP hp with z | z
  ·exact I'.pin p (wIf _ z)
  have e:p=(C,o):=by simpa using z
  subst e;exact⟨ho,f0,f1,f2,λv z=>by rw[hr.1] at z;cases z⟩
 refine thn (h2 _ s' σ H' (.ref l) (.ref l) _ I2 rfl q) λ_ s7 aA=>?_;obtain⟨σ7,H7,I7,q7⟩:=aA;have p7:=I7.pin (C,o) (wIf _ (wIf _ (by simp)));refine⟨m,⟨o,es,ep,p7.1,hr⟩,λh' sb=>⟨σ7,H7,?_,q7⟩⟩;exact I7.unpinned.turned (t':=s7.toks) (λb o hb e=>sb.extBut b o hb e) p7.2.1 f1 f3 f4 f5
end
section
variable {X:Cx} {pins:List (Addr × Obj)} {σ:St} {H:Hp} {s:Shared}
def Inv.turnNew {ch:List Addr} {T:Addr} {o:HO} {h':Heap} {t':Nat} (I:Inv X pins σ H s) (hf:∀b∈ch,zGm X pins H b) (hT:s.heap.objs.size<=T) (k:∀b u,b∉ch->s.heap.get? b=some u->h'.get? b=some u)
  (new:ObjOk X.prog X.w (upd H T o) h' T o):Inv X pins σ (upd H T o) { s with heap:=h',toks:=t' }:=by
 have fresh:H T=none:=I.hok.fresh hT;have neT:∀b u,s.heap.get? b=some u->b≠T:=λb u e=>wHO (wHT (wHH e) hT);have bT:∀b u,H b=some u->b∉ch:=λb u e hb=>by rw[(hf b hb).1] at e;cases e
 refine I.step (g':=s.gens) (d':=s.drawn) (ch:=ch) (λb hb=>?_) (λb u _ _ hc e _=>k b u hc e) (λb u _ _ hc e _=>⟨u.slots,k b u hc e⟩) (λb u hc e n=>by rw[zJ (neT b u e)];exact n)
  (λb u hc e=>⟨u,k b u hc e⟩) (λb xs e=>by rw[zJ (zM e fresh)];exact e) (λb u xs e=>by rw[zJ (zM e fresh)];exact e) (λb ps e=>⟨#[],by rw[zJ (zM e fresh),e];simp⟩) (λm hm=>?_) (λb u e=>?_) I.bare
 ·obtain⟨_,f1,_,f3,f4,f5⟩:=hf b hb;exact⟨f3,f1,f4,f5⟩
 ·obtain⟨ob,es,ep,ho,r⟩:=hm;exact⟨ob,es,ep,k _ ob (λz=>(hf _ z).2.1 rfl) ho,r⟩
 by_cases hb:b=T
 ·subst hb;rw[zB] at e;cases e;exact new
 rw[zJ hb] at e;refine (I.hok b u e).stay (λc v hc q=>k c v ?_ q) (λc q=>by rw[zJ (zM q fresh)];exact q) λc xs q=>by rw[zJ (zM q fresh)];exact q
 rcases hc with rfl | hc
 ·exact bT _ _ e
 exact bT _ _ hc
def Inv.turnAll {ch:List Addr} {h':Heap} {t':Nat} (I:Inv X pins σ H s) (hf:∀b∈ch,zGm X pins H b) (k:∀b u,b∉ch->s.heap.get? b=some u->h'.get? b=some u):Inv X pins σ H { s with heap:=h',toks:=t' }:=by
 have bT:∀b u,H b=some u->b∉ch:=λb u e hb=>by rw[(hf b hb).1] at e;cases e
 refine I.step (g':=s.gens) (d':=s.drawn) (ch:=ch) (λb hb=>?_) (λb u _ _ hc e _=>k b u hc e) (λb u _ _ hc e _=>⟨u.slots,k b u hc e⟩) (λb u hc e n=>n)
  (λb u hc e=>⟨u,k b u hc e⟩) (λb xs e=>e) (λb u xs e=>e) (λb ps e=>⟨#[],by rw[e];simp⟩) (λm hm=>?_) (λb u e=>?_) I.bare
 ·obtain⟨_,f1,_,f3,f4,f5⟩:=hf b hb;exact⟨f3,f1,f4,f5⟩
 ·obtain⟨ob,es,ep,ho,r⟩:=hm;exact⟨ob,es,ep,k _ ob (λz=>(hf _ z).2.1 rfl) ho,r⟩
 refine (I.hok b u e).stay (λc v hc q=>k c v ?_ q) (λ_ q=>q) λ_ _ q=>q;rcases hc with rfl | hc
 ·exact bT _ _ e
 exact bT _ _ hc
theorem zG6 (ns:List Int):∀k,k<=ns.length->preSum (λi=>ns.getD i 0) k=(ns.take k).sum
 | 0,_=>by simp[preSum]
 | k+1,h=>by
  have e:ns.take (k+1)=ns.take k++[ns.getD k 0]:=by rw[List.take_add_one,wHw,wHv (show k < ns.length by omega)];rfl
  rw[e,List.sum_append];have:=zG6 ns k ∅;show preSum (λi=>ns.getD i 0) k+ns.getD k 0=_;rw[this];simp
inductive RSum (K:W.Frag) (xs:List V) (H:Hp) (Q:VK):Prop
 | mk (p:Addr) (ns:List Int):(xs=[.ref p])->(SqL K H p (ns.map V.int))->(Q (.int ns.sum) H)->RSum K xs H Q
def zM0 (hc:X.calm=true):zBp X (.builtin "sum") (λxs H Q=>RSum X.K xs H Q):=by
 intro pins s σ H xs us Q I r h;obtain⟨p,ns,rfl,hS,q⟩:=h;obtain⟨u,rfl,ru⟩:=r.one;cases ru;obtain⟨its,rv,pl,hz⟩:=I.list hS;have hi:IntsAre its ns:=zBI rv;have hn:its.length=ns.length:=hi.length;have hp:p < s.heap.objs.size:=by obtain⟨o,n,e,_⟩:=pl;exact wHH e
 refine call_sum_walkAnyS (wpAny_pyIter_list pl.isList ?_);refine⟨s.heap.objs.size,_,_,_,_,_,_,λi=>ns.getD i 0,rfl,(Walks.list (A:=X.A.in1) (show X.A.in1.handled=none from I.ok.hd hc) s.heap.objs.size p (wHO hp) its.toArray).toS,⟨⟨_,wHG _ rfl,rfl,rfl⟩,pl.isList.push _⟩,λb hb=>?_,λi v hv=>?_,λs' t' hm=>?_⟩
 ·rw[wIk];rcases wIQ hb with e | hb
  ·subst e;exact wIv _
  rw[wIM hb];exact wIx hp
 ·exact IntsAre.int_at hi i v (by simpa using hv)
 obtain⟨h',g',d',dJ,kP⟩:=s';have eg:g'=s.gens:=hm.gens;have ed:d'=s.drawn:=hm.drawn;have eo:kP=s.os:=hm.os;subst eg ed eo;have e:preSum (λi=>ns.getD i 0) its.toArray.size=ns.sum:=by rw[wHL,hn,zG6 ns ns.length (wHA _),wH0]
 rw[e];exact⟨.int ns.sum,H,I.kept λb o q=>hm.heap b o (λz=>by rw[wIM z] at q;exact absurd (wHH q) (Nat.lt_irrefl _)) (wHz _ q),⟨_,rfl⟩,q⟩
def Ite (K:W.Frag) (a:Addr):It:=
 ⟨λi H=>∃xs x,SqL K H a xs/\xs[i]?=some x,λi H v H'=>∃T x,v=.ref T/\H T=none/\H'=upd H T (.tup [.int (i:Int),x])/\∀xs,SqL K H a xs->xs[i]?=some x,λi H=>∃xs,SqL K H a xs/\xs.length<=i⟩
def zJ5 {P:Program} {w:World} {K:W.Frag} {es:List Expr} {k:Nat} {pos:Pos} (a e it:Addr) (aH:e≠it):Turn P w K (.Tuple es k pos) (Ite K a) [e,it] e (λi h=>∃old,IsEnum h e it i old/\h.IsListIter it a i) where
 mem:=by simp
 obj:=λi h st b hb=>by
  obtain⟨old,he,o,hit,hc,hd⟩:=st;rcases wIQ hb with z | z
  ·subst z;exact⟨_,he,λv z=>by cases z⟩
  rw[wIM z];exact⟨o,hit,λv z=>by rw[hd] at z;cases z⟩
 keep:=λi h h' st kp=>by obtain⟨old,he,hit⟩:=st;exact⟨old,kp e (by simp) _ he,hit.at λo q=>kp it (by simp) o q⟩
 item:=by
  intro X hP hw hK hc i pins s σ H E I hf st hg;subst hP hw hK;obtain⟨xs,x,hq,hx⟩:=hg;obtain⟨its,rv,p,hz⟩:=I.list hq;obtain⟨u,hu,ru⟩:=rv.get hx;obtain⟨old,he,hit⟩:=st;refine wpAny_pyNext_enum_item he hit p.isList (x:=u) (by simpa using hu) aH λh1 eo lT ht cT kp=>⟨_,rfl,?_⟩;refine wpAny_letOwnedTupleGo_enum eo λh2 he2 aN=>?_;have tne:s.heap.objs.size≠e:=Nat.ne_of_gt (wHH he);have tni:s.heap.objs.size≠it:=by obtain⟨o,q,_⟩:=hit;exact Nat.ne_of_gt (wHH q)
  have I2:Inv X pins σ (upd H s.heap.objs.size (.tup [.int (i:Int),x])) { s with heap:=h2,toks:=s.toks+1 }:=by
   refine I.turnNew hf (wHA _) (λb o hb q=>?_) ⟨zAp,[.int i s.toks,u],.cons ⟨_,rfl⟩ (.cons ru .nil),?_⟩
   ·simp only[wIb,wH1,or_false,not_or] at hb;exact aN.extBut b o hb.1 (kp b o hb.1 hb.2 q)
   exact⟨_,aN.extBut _ _ tne ht,rfl,_,rfl⟩
  refine⟨.ref s.heap.objs.size,_,I2,rfl,⟨_,x,rfl,I.fresh,rfl,λys hy=>by rw[I.list_inj hy hq];exact hx⟩,⟨u,?_,lT.extBut aN.extBut (Ne.symm aH)⟩,λb hb=>?_⟩
  ·exact he2
  have nb:b≠s.heap.objs.size:=by
   rcases wIQ hb with z | z
   ·rw[z];exact Ne.symm tne
   rw[wIM z];exact Ne.symm tni
  rw[zJ nb];exact (hf b hb).1
 done:=by intro X hP hw hK hc i pins s σ H E I hf st hg;subst hP hw hK;obtain⟨xs,hq,hx⟩:=hg;obtain⟨its,rv,p,hz⟩:=I.list hq;obtain⟨old,he,hit⟩:=st;have hl:=rv.length;refine wpAny_pyNext_enum_end (I.ok.hd hc) he hit p.isList (by simp;omega) λh' eb=>⟨rfl,I.turnAll (t':=s.toks) hf λb o hb q=>eb b o (λz=>hb (by simp[z])) q⟩
 self:=λA i s Q E st h=>by obtain⟨old,he,hit⟩:=st;have hT:s.TypeIs (.ref e) "enumerate":=⟨_,he,rfl⟩;exact wpAny_pyIter_enum he h
inductive IEnum (K:W.Frag) (vs:List V) (H1:Hp) (R:It->Hp->Prop):Prop
 | mk (a:_) (xs:_):(vs=[.ref a])->SqL K H1 a xs->(R (Ite K a) H1)->IEnum K vs H1 R
def zQ7 (K:W.Frag) (ta:TA):TI:=λσ H R=>ta σ H λvs H1=>IEnum K vs H1 R
def zNJ {a:Expr} {ta:TA} {p pos:Pos} {es:List Expr} {k:Nat} {tp:Pos} (hg:Gl X "enumerate") (hm:X.mg "enumerate"=none) (ha:PA X [a] ta) (hs:starEach [a] X.env=[(false,eval a X.env)]:=by rfl) :
  PI X (.Tuple es k tp) (.Call (.Name "enumerate" p) [a] [] pos) (zQ7 X.K ta):=by
 intro pins s σ H R I h;refine Call_ (zE7 I hg hm boot_enumerate (PyProof.Rows.callWith_type1 (thn (ha pos pins s σ H _ I h) λus s1 ⟨vs,H1,I1,r1,q1⟩=>?_) hs rfl));obtain⟨l,xs,e,hq,q⟩:=q1;subst e;obtain⟨u,rfl,ru⟩:=r1.one;cases ru;obtain⟨its,rv,pl,hz⟩:=I1.list hq;refine call_enumerate_list pl.isList λh' he hit cT kp=>?_;have I2:Inv X pins σ H1 { s1 with heap:=h' }:=I1.kept (t':=s1.toks) kp;refine wpAny_pyIter_enum he ⟨s1.heap.objs.size+1,[s1.heap.objs.size+1,s1.heap.objs.size],_,_,H1,rfl,I2,zJ5 l _ _ (Nat.succ_ne_self _),⟨_,he,hit⟩,λb hb=>?_,q⟩;rcases wIQ hb with z | z
 ·subst z;exact I1.fpOk (Nat.le_succ _) (I1.hok.fresh (Nat.le_succ _))
 rw[wIM z];exact I1.fpOk (wHA _) (I1.hok.fresh (wHA _))
def Itz (K:W.Frag) (a b:Addr):It:=
 ⟨λi H=>∃xs ys x y,SqL K H a xs/\SqL K H b ys/\xs[i]?=some x/\ys[i]?=some y,
  λi H v H'=>∃T x y,v=.ref T/\H T=none/\H'=upd H T (.tup [x,y])/\(∀xs,SqL K H a xs->xs[i]?=some x)/\∀ys,SqL K H b ys->ys[i]?=some y,
  λi H=>∃xs ys,SqL K H a xs/\SqL K H b ys/\(xs.length<=i∨ys.length<=i)⟩
def zL3 {P:Program} {w:World} {K:W.Frag} {es:List Expr} {k:Nat} {pos:Pos} {z TI TO i1 i2 l1 l2:Addr} (D:ZipApart z TI TO i1 i2 l1 l2) :
  Turn P w K (.Tuple es k pos) (Itz K l1 l2) [z,TI,TO,i1,i2] z (λi h=>IsZip h z TI TO .none/\IsPair h TI (.ref i1) (.ref i2)/\(∃a b,IsPair h TO a b)/\h.IsListIter i1 l1 i/\h.IsListIter i2 l2 i) where
 mem:=by simp
 obj:=λi h st b hb=>by
  obtain⟨hz,aL,⟨c,d,aT⟩,⟨o1,h1,c1,d1⟩,⟨o2,h2,c2,d2⟩⟩:=st;simp only[wIb,wH1,or_false] at hb;rcases hb with e | e | e | e | e<;>subst e
  ·exact⟨_,hz,λv z=>by cases z⟩
  ·exact⟨_,aL,λv z=>by cases z⟩
  ·exact⟨_,aT,λv z=>by cases z⟩
  ·exact⟨_,h1,λv z=>by rw[d1] at z;cases z⟩
  exact⟨_,h2,λv z=>by rw[d2] at z;cases z⟩
 keep:=λi h h' st kp=>by obtain⟨hz,aL,⟨c,d,aT⟩,h1,h2⟩:=st;exact⟨kp z (by simp) _ hz,kp TI (by simp) _ aL,⟨c,d,kp TO (by simp) _ aT⟩,h1.at λo q=>kp i1 (by simp) o q,h2.at λo q=>kp i2 (by simp) o q⟩
 item:=by
  intro X hP hw hK hc i pins s σ H E I hf st hg;subst hP hw hK;obtain⟨xs,ys,x,y,hq,hr,hx,hy⟩:=hg;obtain⟨its,rv,p,_⟩:=I.list hq;obtain⟨bF,eF,p2,_⟩:=I.list hr;obtain⟨u,hu,ru⟩:=rv.get hx;obtain⟨v,hv,kI⟩:=eF.get hy;obtain⟨hz,aL,⟨c,d,aT⟩,h1,h2⟩:=st;refine wpAny_pyNext_zip_item D hz aL aT h1 h2 p.isList p2.isList (x:=u) (y:=v) (by simpa using hu) (by simpa using hv) λh' b1 b2 b3 b4 b5 b6 kp=>⟨_,rfl,?_⟩;refine wpAny_letOwnedTupleGo_zip b1 λeY lj aN=>?_;have lt:∀{c o},s.heap.get? c=some o->s.heap.objs.size≠c:=λe=>Nat.ne_of_gt (wHH e);have n1:s.heap.objs.size≠i1:=by obtain⟨_,e,_⟩:=h1;exact lt e
  have n2:s.heap.objs.size≠i2:=by obtain⟨_,e,_⟩:=h2;exact lt e
  have I2:Inv X pins σ (upd H s.heap.objs.size (.tup [x,y])) { s with heap:=eY }:=by
   refine I.turnNew (t':=s.toks) hf (wHA _) (λb o hb q=>?_) ⟨zAp,[u,v],.cons ru (.cons kI .nil),?_⟩
   ·simp only[wIb,wH1,or_false,not_or] at hb;exact aN.extBut b o hb.1 (kp b o hb.1 hb.2.2.1 hb.2.2.2.1 hb.2.2.2.2 q)
   exact⟨_,aN.extBut _ _ (lt hz) b5,rfl,_,rfl⟩
  refine⟨.ref s.heap.objs.size,_,I2,rfl,⟨_,x,y,rfl,I.fresh,rfl,λzs cQ=>by rw[I.list_inj cQ hq];exact hx,λzs cQ=>by rw[I.list_inj cQ hr];exact hy⟩,
   ⟨lj,aN.extBut _ _ D.TIz (kp _ _ D.TIz D.TITO D.TIi1 D.TIi2 aL),⟨u,v,aN.extBut _ _ D.TOz b2⟩,b3.extBut aN.extBut D.i1z,b4.extBut aN.extBut D.i2z⟩,λb hb=>?_⟩
  have nb:b≠s.heap.objs.size:=by
   simp only[wIb,wH1,or_false] at hb;rcases hb with e | e | e | e | e<;>rw[e]
   ·exact Ne.symm (lt hz)
   ·exact Ne.symm (lt aL)
   ·exact Ne.symm (lt aT)
   ·exact Ne.symm n1
   exact Ne.symm n2
  rw[zJ nb];exact (hf b hb).1
 done:=by intro X hP hw hK hc i pins s σ H E I hf st hg;subst hP hw hK;obtain⟨xs,ys,hq,hr,hx⟩:=hg;obtain⟨its,rv,p,_⟩:=I.list hq;obtain⟨bF,eF,p2,_⟩:=I.list hr;obtain⟨hz,aL,⟨c,d,aT⟩,h1,h2⟩:=st;have e1:=rv.length;have e2:=eF.length;refine wpAny_pyNext_zip_end (I.ok.hd hc) D hz aL aT h1 h2 p.isList p2.isList (by rcases hx with z | z;exact .inl (by simp;omega);exact .inr (by simp;omega)) λh' kp=>⟨rfl,I.turnAll (t':=s.toks) hf λb o hb q=>?_⟩;simp only[wIb,wH1,or_false,not_or] at hb;exact kp b o hb.1 hb.2.2.1 hb.2.2.2.1 hb.2.2.2.2 q
 self:=λA i s Q E st h=>wpAny_pyIter_zip st.1 h
inductive IZip (K:W.Frag) (vs:List V) (H1:Hp) (R:It->Hp->Prop):Prop
 | mk (a:_) (b:_) (xs:_) (ys:_):(vs=[.ref a,.ref b])->SqL K H1 a xs->SqL K H1 b ys->(R (Itz K a b) H1)->IZip K vs H1 R
def zR3 (K:W.Frag) (ta:TA):TI:=λσ H R=>ta σ H λvs H1=>IZip K vs H1 R
def zGn {n l1 l2:Nat} (h1:l1 < n) (h2:l2 < n):ZipApart (n+4) (n+2) (n+3) n (n+1) l1 l2:=by constructor<;>(show (_:Nat)≠_;omega)
def zPg {a b:Expr} {ta:TA} {p pos:Pos} {es:List Expr} {k:Nat} {tp:Pos} (hg:Gl X "zip") (hm:X.mg "zip"=none) (ha:PA X [a,b] ta) (hs:starEach [a,b] X.env=[(false,eval a X.env),(false,eval b X.env)]:=by rfl) (dU:starEach [b] X.env=[(false,eval b X.env)]:=by rfl) :
  PI X (.Tuple es k tp) (.Call (.Name "zip" p) [a,b] [] pos) (zR3 X.K ta):=by
 intro pins s σ H R I h;refine Call_ (zE7 I hg hm boot_zip (PyProof.Rows.callWith_type1 (thn (ha pos pins s σ H _ I h) λus s1 ⟨vs,H1,I1,r1,q1⟩=>?_) (by rw[hs,dU]) (by rw[dU];rfl)));obtain⟨l1,l2,xs,ys,e,hq,hr,q⟩:=q1;subst e;obtain⟨u,v,rfl,ru,rv⟩:=r1.two;cases ru;cases rv;obtain⟨its,rv1,p1,_⟩:=I1.list hq;obtain⟨bF,eF,p2,_⟩:=I1.list hr;have n1:l1 < s1.heap.objs.size:=by obtain⟨o,n,e,_⟩:=p1;exact wHH e
 have n2:l2 < s1.heap.objs.size:=by obtain⟨o,n,e,_⟩:=p2;exact wHH e
 refine call_zip_2 p1.isList p2.isList λh' hz aL aT h1 h2 cT kp=>?_;have I2:Inv X pins σ H1 { s1 with heap:=h' }:=I1.kept (t':=s1.toks) kp;have D:ZipApart (s1.heap.objs.size+4) (s1.heap.objs.size+2) (s1.heap.objs.size+3) s1.heap.objs.size (s1.heap.objs.size+1) l1 l2:=zGn n1 n2;refine wpAny_pyIter_zip hz ⟨_,[s1.heap.objs.size+4,s1.heap.objs.size+2,s1.heap.objs.size+3,s1.heap.objs.size,s1.heap.objs.size+1],_,_,H1,rfl,I2,zL3 D,⟨hz,aL,⟨_,_,aT⟩,h1,h2⟩,λb hb=>?_,q⟩;have le:s1.heap.objs.size<=b:=by simp only[wIb,wH1,or_false] at hb;rcases hb with e | e | e | e | e<;>rw[e]<;>first | exact wHA _ | exact Nat.le_add_right _ _
 exact I1.fpOk le (I1.hok.fresh le)
end
def zD0 {l:Addr} {lo:Int} {n:Nat} {g:TG} {tt:TT} {te:TE} {fin:Hp->Prop} {σ0:St} {H0:Hp} (Pv:Nat->St->Hp->Prop) (h0:Pv 0 σ0 H0)
  (hs:∀i σ H,i < n->Pv i σ H->g (.int (lo+i)) σ H λσ2 H2=>tt σ2 H2 λb H3=>if b=true then te σ2 H3 λv H4=>∃xs,H4 l=some (.lst xs)/\xs.length < sizeLine/\Pv (i+1) σ2 (upd H4 l (.lst (xs++[v]))) else Pv (i+1) σ2 H3)
  (hd:∀σ H,Pv n σ H->fin H):zEd l (Itr lo n) g tt te fin σ0 H0:=by
 refine⟨λi m σ H=>m=n-i/\i<=n/\Pv i σ H,⟨n,by simp,wIp _,h0⟩,?_⟩;rintro i m σ H ⟨rfl,hi,p⟩;by_cases aE:i < n
 ·refine .inr ⟨aE,Pv (i+1),λσ' H' p'=>⟨n-(i+1),by omega,rfl,aE,p'⟩,λx H' y=>?_⟩;obtain⟨e,y⟩:=y;subst e y;exact hs i σ _ aE p
 have e:i=n:=by omega
 subst e;exact .inl ⟨wHA _,hd σ H p⟩
def zAz {K:W.Frag} {a l:Addr} {ys:List V} {g:TG} {tt:TT} {te:TE} {fin:Hp->Prop} {σ0:St} {H0:Hp} (Pv:Nat->St->Hp->Prop) (h0:Pv 0 σ0 H0) (hl:∀i σ H,i<=ys.length->Pv i σ H->SqL K H a ys)
  (hs:∀i x σ H,ys[i]?=some x->Pv i σ H->g x σ H λσ2 H2=>tt σ2 H2 λb H3=>if b=true then te σ2 H3 λv H4=>∃xs,H4 l=some (.lst xs)/\xs.length < sizeLine/\Pv (i+1) σ2 (upd H4 l (.lst (xs++[v]))) else Pv (i+1) σ2 H3)
  (hd:∀σ H,Pv ys.length σ H->fin H):zEd l (Itl K a) g tt te fin σ0 H0:=by
 refine⟨λi m σ H=>m=ys.length-i/\i<=ys.length/\Pv i σ H,⟨ys.length,by simp,wIp _,h0⟩,?_⟩;rintro i m σ H ⟨rfl,hi,p⟩;have q:=hl i σ H hi p;by_cases aE:i < ys.length
 ·refine .inr ⟨⟨ys,ys[i],q,by simp[aE]⟩,Pv (i+1),λσ' H' p'=>⟨ys.length-(i+1),by omega,rfl,aE,p'⟩,λx H' y=>?_⟩;obtain⟨e,y⟩:=y;subst e;exact hs i x σ _ (y ys q) p
 have e:i=ys.length:=by omega
 subst e;exact .inl ⟨⟨ys,q,wHA _⟩,hd σ H p⟩
def zLf {K:W.Frag} {a l:Addr} {ys:List V} {g:TG} {tt:TT} {te:TE} {fin:Hp->Prop} {σ0:St} {H0:Hp} (Pv:Nat->St->Hp->Prop) (h0:Pv 0 σ0 H0) (hl:∀i σ H,i<=ys.length->Pv i σ H->SqL K H a ys)
  (hs:∀i x σ H T,ys[i]?=some x->Pv i σ H->H T=none->g (.ref T) σ (upd H T (.tup [.int (i:Int),x])) λσ2 H2=>tt σ2 H2 λb H3=>if b=true then te σ2 H3 λv H4=>∃xs,H4 l=some (.lst xs)/\xs.length < sizeLine/\Pv (i+1) σ2 (upd H4 l (.lst (xs++[v]))) else Pv (i+1) σ2 H3)
  (hd:∀σ H,Pv ys.length σ H->fin H):zEd l (Ite K a) g tt te fin σ0 H0:=by
 refine⟨λi m σ H=>m=ys.length-i/\i<=ys.length/\Pv i σ H,⟨ys.length,by simp,wIp _,h0⟩,?_⟩;rintro i m σ H ⟨rfl,hi,p⟩;have q:=hl i σ H hi p;by_cases aE:i < ys.length
 ·refine .inr ⟨⟨ys,ys[i],q,by simp[aE]⟩,Pv (i+1),λσ' H' p'=>⟨ys.length-(i+1),by omega,rfl,aE,p'⟩,λx H' y=>?_⟩;obtain⟨T,z,e1,e2,e3,y⟩:=y;subst e1 e3;exact hs i z σ _ T (y ys q) p e2
 have e:i=ys.length:=by omega
 subst e;exact .inl ⟨⟨ys,q,wHA _⟩,hd σ H p⟩
def zOo {K:W.Frag} {a b:Addr} {xs ys:List V} {g:TG} {tb:TS} {D:Ends} {σ:St} {H:Hp} (he:xs.length=ys.length) (Pv:Nat->St->Hp->Prop) (h0:Pv 0 σ H) (hl:∀i σ H,i<=xs.length->Pv i σ H->SqL K H a xs/\SqL K H b ys)
  (hs:∀i x y σ H T,xs[i]?=some x->ys[i]?=some y->Pv i σ H->H T=none->g (.ref T) σ (upd H T (.tup [x,y])) λσ2 H2=>tb { D with nx:=Pv (i+1),ct:=Pv (i+1),bk:=D.nx } σ2 H2) (hd:∀σ H,Pv xs.length σ H->D.nx σ H) :
  ∃W:Nat->Nat->St->Hp->Prop,(∃m,W 0 m σ H)/\∀i m σ H,W i m σ H->
   ((Itz K a b).stop i H/\D.nx σ H)∨((Itz K a b).go i H/\∃N:St->Hp->Prop,(∀σ' H',N σ' H'->∃m',m' < m/\W (i+1) m' σ' H')/\∀x H',(Itz K a b).yld i H x H'->g x σ H' λσ2 H2=>tb { D with nx:=N,ct:=N,bk:=D.nx } σ2 H2):=by
 refine⟨λi m σ H=>m=xs.length-i/\i<=xs.length/\Pv i σ H,⟨xs.length,by simp,wIp _,h0⟩,?_⟩;rintro i m σ H ⟨rfl,hi,p⟩;obtain⟨q,r⟩:=hl i σ H hi p;by_cases aE:i < xs.length
 ·refine .inr ⟨⟨xs,ys,xs[i],ys[i]' ∅,q,r,by simp[aE],by simp[show i < ys.length by omega]⟩,Pv (i+1),λσ' H' p'=>⟨xs.length-(i+1),by omega,rfl,aE,p'⟩,λx H' y=>?_⟩;obtain⟨T,z,z',e1,e2,e3,y1,y2⟩:=y;subst e1 e3;exact hs i z z' σ _ T (y1 xs q) (y2 ys r) p e2
 have e:i=xs.length:=by omega
 subst e;exact .inl ⟨⟨xs,ys,q,r,.inl (wHA _)⟩,hd σ H p⟩
def zAk {H H':Hp} {c:Addr} (e:zAi H H') (h:H c=none) (o:HO):zAi H (upd H' c o):=λb u q=>by rw[zJ (zM q h)];exact e b u q
def zAi.none {H H':Hp} (e:zAi H H') {c:Addr} (h:H' c=Option.none):H c=Option.none:=e.free h
def zAi.tup {K:W.Frag} {H H':Hp} {a:Addr} {xs:List V} (e:zAi H H') (h:SqT K H a xs):SqT K H' a xs:=by
 rcases h with (h | ⟨o,h⟩) | h
 ·exact .inl (.inl (e _ _ h))
 ·exact .inl (.inr ⟨o,e _ _ h⟩)
 exact .inr h
def zBH {n:Nat} (h:n < 1000):n < sizeLine:=zAa (wIC h)
def zEG {ns:List Int} {k:Int} (h0:0<=k) (h:k < (ns.length:Int)):atI (ns.map V.int) k=some (.int (ns.getD k.toNat 0)):=by
 have hk:k.toNat < ns.length:=by omega
 have ek:k=((k.toNat:Nat):Int):=by omega
 have q:atI (ns.map V.int) ((k.toNat:Nat):Int)=some (.int (ns.getD k.toNat 0)):=zCy (by rw[wHB,wHv hk,wHw,wHv hk];rfl);rw[← ek] at q;exact q
def zBE {xs:List V} {k:Int} {v:V} (h0:0<=k) (h:xs[k.toNat]?=some v):atI xs k=some v:=by
 have ek:k=((k.toNat:Nat):Int):=by omega
 have q:=zCy h;rw[← ek] at q;exact q
def zMT {n:Nat} {k:Int} (h0:0<=k) (h:k < n):ixN n k=some k.toNat:=by unfold ixN;rw[wHF h0,wHF h]
theorem zOd {ns:List Int} {k:Int} (h0:0<=k) (h:k < (ns.length:Int)):ixN (ns.map V.int).length k=some k.toNat:=by rw[wHt];exact zMT h0 h
def zLG {ns:List Int} {j:Nat} {x:Int}:(ns.map V.int).set j (.int x)=(ns.set j x).map V.int:=by rw[List.map_set]
theorem zBO {ns:List Int} {x:Int}:ns.map V.int++[.int x]=(ns++[x]).map V.int:=by rw[wHC];rfl
section
variable {X:Cx}
def zEE:zBp X (.builtin "sorted") (λxs H Q=>∃(p:Addr) (ns:List Int),xs=[.ref p]/\SqL X.K H p (ns.map V.int)/\ns.length < 64/\∀(l:Addr) (ms:List Int),H l=none->ms.Perm ns->ms.Pairwise (·<=·)->Q (.ref l) (upd H l (.lst (ms.map V.int)))):=by
 intro pins s σ H xs us Q I r h;obtain⟨p,ns,rfl,hS,h64,q⟩:=h;obtain⟨u,rfl,ru⟩:=r.one;cases ru;obtain⟨its,rv,pl,hz⟩:=I.list hS;have hi:IntsAre its ns:=zBI rv;have hn:its.length=ns.length:=hi.length;refine sorted_ints pl.isList hi ∅ λout ms h1 h2 h3=>?_;obtain⟨e,he⟩:=sortedAll_at s.heap its out;have hl:H (s.heap.objs.size+1)=none:=I.hok.fresh (Nat.le_succ _);refine⟨.ref (s.heap.objs.size+1),upd H (s.heap.objs.size+1) (.lst (ms.map V.int)),I.laid (o:=.lst (ms.map V.int)) (t':=s.toks) (λb o q=>sortedAll_old q) (Nat.le_succ _) ⟨?_,out.toList,e,zCO h1,?_⟩,rfl,q _ ms hl h2 h3⟩
 ·rw[wHt,h2.length_eq];rw[wHt] at hz;exact hz
 rw[he]
theorem zOe (K:W.Frag) (h:X.K=K:=by rfl):IxR X (zQx K):=by subst h;exact zP7
def zMs (K:W.Frag) (h:X.K=K:=by rfl):IxR X (zPX K):=by subst h;exact zOb
def zAE (K:W.Frag) {es:List Expr} {k:Nat} {t:TGs} {n:Nat} {pos:Pos} (hc:X.calm=true) (h:PGs X es t)
  (hn:(assignEach es X.env).length=n:=by rfl) (aF:(assignEach es X.env).findIdx? (·.1)=none:=by rfl) (hK:X.K=K:=by rfl):PG X (.Tuple es k pos) (zQZ K n t):=by subst hK;exact zPi hc h hn aF
def zAo (K:W.Frag) (h:X.K=K:=by rfl):zBp X (.builtin "len") (λxs H Q=>RLen K xs H Q):=by subst h;exact zHa
def zLp (K:W.Frag) (hc:X.calm=true) (h:X.K=K:=by rfl):zBp X (.builtin "sum") (λxs H Q=>RSum K xs H Q):=by subst h;exact zM0 hc
def zGA (K:W.Frag) (h:X.K=K:=by rfl):OpR X (compareOp .In) (rIn K false):=by subst h;exact zKt
def zKw (K:W.Frag) (h:X.K=K:=by rfl):OpR X (compareOp .NotIn) (rIn K true):=by subst h;exact zG9
end
abbrev zDM (xs:List Nat):Prop:=xs.Pairwise (· < ·)
def zDR {xs:Array Nat} (h:zDM xs.toList) {i j:Nat} (eO:i < j) (hj:j < xs.size):xs[i]' ∅ < xs[j]:=by have:=List.pairwise_iff_getElem.mp h i j (by simp;omega) (by simpa using hj) eO;simpa using this
structure Cut (xs:Array Nat) (j b:Nat):Prop where
 le:b<=xs.size
 lo:∀i,(h:i < xs.size)->i < b->xs[i] < j
 hi:∀i,(h:i < xs.size)->b<=i->j<=xs[i]
theorem zGg {xs:Array Nat} {j:Nat} (h:zDM xs.toList):∀(aI lo hi:Nat),lo<=hi->hi<=xs.size->hi-lo<=aI->(∀i,(q:i < xs.size)->i < lo->xs[i] < j)->(∀i,(q:i < xs.size)->hi<=i->j<=xs[i])->
  Cut xs j (SetTable.below.go xs j aI lo hi)
 | 0,lo,hi,h1,h2,h3,h4,h5=>by
  have e:lo=hi:=by omega
  subst e;exact⟨h2,h4,h5⟩
 | aI+1,lo,hi,h1,h2,h3,h4,h5=>by
  unfold SetTable.below.go;by_cases c:lo < hi
  ·rw[wHF c];have hm:(lo+hi) / 2 < xs.size:=by omega
   have eg:xs.getD ((lo+hi) / 2) j=xs[(lo+hi) / 2]:=by simp[Array.getD,hm]
   dsimp only;rw[eg];by_cases d:xs[(lo+hi) / 2] < j
   ·rw[wHF d];refine zGg h aI _ _ ∅ h2 ∅ (λi q bY=>?_) h5;by_cases e:i=(lo+hi) / 2
    ·subst e;exact d
    exact Nat.lt_trans (zDR h (show i < (lo+hi) / 2 by omega) hm) d
   rw[wHD d];refine zGg h aI _ _ ∅ ∅ ∅ h4 λi q bY=>?_;by_cases e:i=(lo+hi) / 2
   ·subst e;omega
   have:=zDR h (show (lo+hi) / 2 < i by omega) q;omega
  rw[wHD c];have e:lo=hi:=by omega
  subst e;exact⟨h2,h4,h5⟩
def zEF {xs:Array Nat} {j:Nat} (h:zDM xs.toList):Cut xs j (SetTable.below xs j):=
 zGg h _ _ _ (wIp _) (wHA _) ∅ (λi _ hi=>by omega) (λi q hi=>by omega)
def zGS {xs:Array Nat} {j:Nat} (h:zDM xs.toList) (hn:xs[SetTable.below xs j]?≠some j):zDM (SetTable.insertAt xs (SetTable.below xs j) j).toList:=by
 have c:=zEF (j:=j) h;generalize SetTable.below xs j=b at c hn;rw[SetTable.toList_insertAt];unfold zDM;rw[List.pairwise_append];have hd:∀y∈xs.toList.drop b,j < y:=λy hy=>by
  obtain⟨i,hi,rfl⟩:=List.mem_iff_getElem.mp hy;rw[wIu,wH2] at hi;rw[List.getElem_drop,Array.getElem_toList];have h1:=c.hi (b+i) ∅ ∅;by_cases z:i=0
  ·subst z;have hb:b < xs.size:=by omega
   have:xs[b]?=some xs[b]:=wIm hb;rw[this] at hn;have h2:xs[b]≠j:=λe=>hn (by rw[e]);have h3:j<=xs[b]:=by simpa using h1
   show j < xs[b];omega
  have hb:b < xs.size:=by omega
  have h0:=c.hi b hb (wHA _);have:=zDR h (show b < b+i by omega) ∅;omega
 have ht:∀y∈xs.toList.take b,y < j:=λy hy=>by obtain⟨i,hi,rfl⟩:=List.mem_iff_getElem.mp hy;rw[wHS,wH2] at hi;rw[List.getElem_take,Array.getElem_toList];exact c.lo i ∅ ∅
 refine⟨List.Pairwise.sublist (List.take_sublist _ _) h,List.pairwise_cons.mpr ⟨hd,List.Pairwise.sublist (List.drop_sublist _ _) h⟩,λy hy z hz=>?_⟩;rcases wIQ hz with e | hz
 ·subst e;exact ht y hy
 exact Nat.lt_trans (ht y hy) (hd z hz)
structure Tab (t:SetTable) (led:Bool):Prop where
 led:t.led=led
 rise:t.plain=true->zDM t.place.toList/\t.dummies=#[]
theorem zIN {t:SetTable} {j:Nat} (h:t.slot j=.empty):t.place[SetTable.below t.place j]?≠some j:=by intro e;unfold SetTable.slot at h;simp[e] at h
def zKO (j:Nat):SetTable.has #[] j=false:=by unfold SetTable.has;simp
def zGt {t:SetTable} {j:Nat} (h:t.dummies=#[]):t.slot j≠.dummy:=by
 intro e;unfold SetTable.slot at e;rw[h] at e;simp only[zKO] at e
 split at e<;>simp at e
theorem zEt {t:SetTable} {f:Nat->Int} {hh:Int} (hd:t.dummies=#[]):∀(aI:Nat) (p:SetTable.Probe) {j:Nat} {d:Option Nat},p.dummy=none->SetTable.probe.go t f hh aI p=some (.empty j d)->t.slot j=.empty/\d=none
 | 0,p,j,d,_,e=>by unfold SetTable.probe.go at e;cases e
 | aI+1,p,j,d,hp,e=>by
  unfold SetTable.probe.go at e;have adv:∀p:SetTable.Probe,p.dummy=none->(t.advance p).dummy=none:=λp h=>by unfold SetTable.advance;split<;>exact h
  cases q:t.slot p.j with
  | empty=>
   rw[q] at e;have e':SetTable.Met.empty p.j p.dummy=.empty j d:=wHE e
   injection e' with e1 e2
   subst e1;exact⟨q,by rw[← e2];exact hp⟩
  | dummy=>exact absurd q (zGt hd)
  | live i=>
   rw[q] at e;dsimp only at e
   split at e
   ·cases e
   exact zEt hd aI _ (adv p hp) e
def zJj {t:SetTable} {hh:Int} {j:Nat} {b:Bool} (hd:t.dummies=#[]) (e:t.freeSlot hh=some (j,b)):t.slot j=.empty:=by
 unfold SetTable.freeSlot at e;cases q:t.probe (λ_=>hh+1) hh (t.probeStart hh) with
 | none=>rw[q] at e;cases e
 | some m=>
  rw[q] at e;cases m with
  | candidate a b c=>cases e
  | empty i d=>
   have:=zEt hd _ _ rfl (show SetTable.probe.go t _ _ _ _=some (.empty i d) from q);obtain⟨h1,h2⟩:=this;subst h2;have e':(i,false)=(j,b):=wHE e
   injection e' with e1 _
   subst e1;exact h1
def Tab.standIn {t:SetTable} {led:Bool} (h:Tab t led) (n:Nat):Tab (t.standIn n) led:=⟨h.led,λz=>by cases z⟩
def Tab.orStandIn {t:SetTable} {led:Bool} (h:Tab t led) (n:Nat):Tab (t.orStandIn n) led:=by
 unfold SetTable.orStandIn
 split
 ·exact h
 exact h.standIn n
def Tab.off {t:SetTable} {led:Bool} (h:Tab t led):Tab { t with plain:=false } led:=⟨h.led,λz=>by cases z⟩
def Tab.put {t:SetTable} {led:Bool} (h:Tab t led) {hh:Int} {j:Nat} {b:Bool} (e:t.freeSlot hh=some (j,b)):Tab (t.put j).1 led:=by refine⟨h.led,λz=>?_⟩;have z':t.plain=true:=z;obtain⟨h1,h2⟩:=h.rise z';refine⟨zGS h1 (zIN (zJj h2 e)),?_⟩;show (if SetTable.has t.dummies j=true then _ else t.dummies)=_;rw[h2,zKO];rfl
def Tab.layNew {t:SetTable} {led:Bool} (h:Tab t led) (es:Array (Int × Value)) (hh:Int) (x:Value):Tab (layNew t es hh x).2.1 led:=by
 unfold PySem.layNew;cases q:t.freeSlot hh with
 | none=>exact h.standIn _
 | some p=>
  obtain⟨j,b⟩:=p;exact (h.put q).orStandIn _
theorem zE5 (g:Nat->Option Nat):∀l:List Nat,((l.filterMap λj=>(g j).map (j,·)).map (·.1))=l.filter λj=>(g j).isSome
 | []=>rfl
 | j::r=>by
  rw[List.filterMap_cons,List.filter_cons];cases q:g j with
  | none=>simpa using zE5 g r
  | some i=>simpa using zE5 g r
def Tab.relayAll {t:SetTable} {led:Bool} (h:Tab t led) (es:Array (Int × Value)) (n:Nat):Tab (relayAll t es n).2.1 led:=by
 unfold PySem.relayAll;cases q:t.relaid (es.map (·.1)) n with
 | none=>exact h.standIn _
 | some p=>
  obtain⟨t',order⟩:=p;dsimp only
  split
  ·unfold SetTable.relaid SetTable.laid at q;cases r:SetTable.layClean (SetTable.sizeAbove n-1) (es.map (·.1)) with
   | none=>rw[r] at q;cases q
   | some owner=>
    rw[r] at q;have e:=wHE q
    injection e with e1 _
    subst e1;refine⟨h.led,λz=>⟨?_,rfl⟩⟩;show zDM ((((List.range _).filterMap λj=>(owner.getD j none).map (j,·)).map (·.1)).toArray).toList;rw[List.toList_toArray,zE5];exact List.Pairwise.filter _ List.pairwise_lt_range
  exact h.standIn _
def zBK (w:World):Bool:=w.params.followText "set-order"
def zDx (es:List (Int × Value)):List Int:=es.map λe=>numOf e.2
def EsI (es:List (Int × Value)):Prop:=∀e∈es,e.1=hashInt (numOf e.2)/\∃tk,e.2=.int (numOf e.2) tk
def zFc (w:World) (h:Heap) (a:Addr) (ks:List Int):Prop:=
 ∃o es ep t,h.get? a=some o/\o.ExactSet/\o.data=.set es ep t/\EsI es.toList/\zDx es.toList=ks/\ks.Nodup/\es.size < scanBound/\t.fits es.size=true/\Tab t (!zBK w)
def zFc.at {w:World} {h h':Heap} {a:Addr} {ks:List Int} (x:zFc w h a ks) (k:∀o,h.get? a=some o->h'.get? a=some o):zFc w h' a ks:=
 let ⟨o,es,ep,t,e,r⟩:=x;⟨o,es,ep,t,k o e,r⟩
section
variable {prog:Program} {w:World} {A:Around} {E:Value->Shared->Prop} {s:Shared} {a:Addr}
def EsI.elems {es:List (Int × Value)} (h:EsI es):ElemsOf (intKind prog w) es:=λe he=>by
 obtain⟨h1,tk,h2⟩:=h e he;refine⟨⟨numOf e.2,?_,h1⟩,?_⟩
 ·rw[h2];exact intKind_is _ _ _ _
 rw[h2];rfl
def EsI.perm {l l':List (Int × Value)} (h:EsI l) (p:l'.Perm l):EsI l':=λe he=>h e (p.mem_iff.mp he)
def zKU {es:List (Int × Value)} {x:Int} (h:EsI es) (e:es.findIdx? (λe=>(intKind prog w).is x e.2)=none):x∉zDx es:=by intro hm;obtain⟨y,hy,e1⟩:=List.mem_map.mp hm;have q:=List.findIdx?_eq_none_iff.mp e y hy;obtain⟨_,tk,e2⟩:=h y hy;rw[e2,e1] at q;rw[intKind_is] at q;cases q
def zKT {es:List (Int × Value)} {x:Int} {j:Nat} (h:EsI es) (e:es.findIdx? (λe=>(intKind prog w).is x e.2)=some j):x∈zDx es:=by
 obtain⟨hj,hp,_⟩:=List.findIdx?_eq_some_iff_getElem.mp e;obtain⟨_,tk,e2⟩:=h es[j] (wHZ hj);refine List.mem_map.mpr ⟨es[j],wHZ hj,?_⟩;have q:(intKind prog w).is (numOf es[j].2) es[j].2=true:=by have:=intKind_is prog w (numOf es[j].2) tk;rw[← e2] at this;exact this
 exact (intKind prog w).inj _ _ _ q hp
def zI0 {b:Bool} {s₁:Shared} {Q':Unit->Shared->Prop} (q:Q' PUnit.unit s₁):wpAny (model prog w) A (match b with | true=>rule "set.scan.the-table-gave-way" | false=>pure PUnit.unit) Q' E s₁:=by
 cases b
 ·exact wHx q
 exact wpAny_rule q
def zFc.store {h:Heap} {o:Obj} {es:Array (Int × Value)} {ep:Nat} {t:SetTable} (ho:h.get? a=some o) (hex:o.ExactSet) (hd:o.data=.set es ep t) {bE:Array (Int × Value)} {t':SetTable} {aZ:List Int}
  (h1:EsI bE.toList) (h2:zDx bE.toList=aZ) (h3:aZ.Nodup) (h4:bE.size < scanBound) (h5:t'.fits bE.size=true) (h6:Tab t' (!zBK w)) :
  (h.update a (Obj.putSet bE t')).get? a=some { o with data:=.set bE (ep+1) t' }/\zFc w (h.update a (Obj.putSet bE t')) a aZ:=by
 have g:(h.update a (Obj.putSet bE t')).get? a=some { o with data:=.set bE (ep+1) t' }:=by
  have q:=wIc (Obj.putSet bE t') ho (by rw[putSet_of bE t' hd];rfl)
  rwa [putSet_of bE t' hd] at q
 exact⟨g,_,bE,ep+1,t',g,hex,rfl,h1,h2,h3,h4,h5,h6⟩
def zN3 {x:Int} {tk:Tok} {ks:List Int} {Q:Bool->Shared->Prop} (hS:zFc w s.heap a ks) (room:ks.length+1 < scanBound)
  (h:∀(h':Heap) (aZ:List Int) (b:Bool),Heap.SameBut a s.heap h'->zFc w h' a aZ->(∀y,y∈aZ↔y∈ks∨y=x)->aZ.length<=ks.length+1->Q b { s with heap:=h' }) :
  wpAny (model prog w) A (setAddHashed a (.int x tk) (hashInt x)) Q E s:=by
 obtain⟨o,es,ep,t,ho,hex,hd,gC,iK,hnd,hb,hf,ht⟩:=id hS;have lk:ks.length=es.size:=by rw[← iK];unfold zDx;rw[wHt,wH2]
 unfold setAddHashed setAddHashedIn;refine wIn (wHu (wpAny_setState_of ho hd hf ?_));dsimp only;rw[byScan_of (knd:=intKind prog w) (x:=.int x tk) rfl hb gC.elems,wHF rfl];unfold setAddByScan;refine wHu (wHu (wpAny_rule (wHu (wpAny_setScan_of (knd:=intKind prog w) (k:=x) (intKind_is _ _ _ _) ho hd hf gC.elems ?_))));cases hr:es.toList.findIdx? (λe=>(intKind prog w).is x e.2) with
 | some j=>
  have hx:x∈ks:=by rw[← iK];exact zKT gC hr
  refine wHx (wHx ?_);exact h s.heap ks false (Heap.SameBut.refl a s.heap) hS (λy=>⟨.inl,λz=>z.elim id λe=>e ▸ hx⟩) (Nat.le_succ _)
 | none=>
  have hx:x∉ks:=by rw[← iK];exact zKU gC hr
  dsimp only;have hp:=layNew_perm t es (hashInt x) (.int x tk);have bP:=layNew_fits t es (hashInt x) (.int x tk);have cS:=ht.layNew es (hashInt x) (.int x tk);show wpAny _ _ (match layNew t es (hashInt x) (.int x tk) with | (es,t,wasDummy,gave)=>_) _ _ s;generalize layNew t es (hashInt x) (.int x tk)=L at hp bP cS;obtain⟨aS,t1,dm,gv⟩:=L;dsimp only at hp bP cS ⊢;rw[Array.toList_push] at hp;have lY:EsI (es.toList++[(hashInt x,.int x tk)]):=λe he=>by
   rcases wIP he with z | z
   ·exact gC e z
   rw[wIM z];exact⟨rfl,tk,rfl⟩
  have gB:EsI aS.toList:=lY.perm hp;have kp:(zDx aS.toList).Perm (ks++[x]):=by have:=hp.map λe:Int × Value=>numOf e.2;rw[wHC] at this;rw[← iK];exact this
  have fW:(zDx aS.toList).Nodup:=kp.nodup_iff.mpr (by rw[List.nodup_append];exact⟨hnd,by simp,λy hy z hz=>by rw[wIM hz];exact λe=>hx (e ▸ hy)⟩);have sz1:aS.size=es.size+1:=by rw[← wH2,hp.length_eq,wHy,wH2];rfl
  have cE:aS.size < scanBound:=by omega
  have fin:∀(h':Heap) (aZ:List Int),Heap.SameBut a s.heap h'->zFc w h' a aZ->aZ.Perm (ks++[x])->Q true { s with heap:=h' }:=λh' aZ h1 h2 h3=>
   h h' aZ true h1 h2 (λy=>by rw[h3.mem_iff,List.mem_append,List.mem_singleton]) (by rw[h3.length_eq,wHy];exact wHA _)
  refine wHu (zI0 ?_);have rest:∀t2:SetTable,t2.fits aS.size=true->Tab t2 (!zBK w)->wpAny (model prog w) A (do
    storeSet a aS t2
    if (!dm && t2.tooFull)=true then do
      (match (relayAll t2 aS (SetTable.grown aS.size)).2.2 with | true=>rule "set.scan.the-table-gave-way" | false=>pure PUnit.unit)
      storeSet a (relayAll t2 aS (SetTable.grown aS.size)).1 (relayAll t2 aS (SetTable.grown aS.size)).2.1
      pure (some true)
     else pure (some true)) (λr s'=>wpAny (model prog w) A (match r with | some added=>pure added | none=>setAddHashedIn a (.int x tk) (hashInt x) 99999) Q E s') E s:=λt2 f2 b2=>by
   refine wHu (wpAny_storeSet_of ho hd ?_ (fits_of_scanBound cE));obtain⟨g1,S1⟩:=zFc.store (w:=w) ho hex hd gB rfl fW cE f2 b2;have eE:=Heap.SameBut.update s.heap a (Obj.putSet aS t2)
   split
   ·have rp:=relayAll_perm t2 aS (SetTable.grown aS.size);have rf:=relayAll_fits t2 aS (SetTable.grown aS.size);have rt:=b2.relayAll aS (SetTable.grown aS.size);generalize relayAll t2 aS (SetTable.grown aS.size)=R at rp rf rt;obtain⟨es2,t3,g2⟩:=R;dsimp only at rp rf rt ⊢;have kp2:=rp.map λe:Int × Value=>numOf e.2;have sz2:es2.size=aS.size:=by rw[← wH2,rp.length_eq,wH2]
    refine wHu (zI0 (wHu (wpAny_storeSet_of g1 rfl ?_ (fits_of_scanBound ∅))));obtain⟨_,S2⟩:=zFc.store (w:=w) g1 hex rfl (gB.perm rp) rfl (kp2.nodup_iff.mpr fW) ∅ rf rt;exact wHx (wHx (fin _ _ (eE.trans (Heap.SameBut.update _ a _)) S2 (kp2.trans kp)))
   exact wHx (wHx (fin _ _ eE S1 kp))
  split
  ·refine wHu ?_;rw[hashByValue_scannable 8 (x:=.int x tk) rfl];refine wHx ?_;exact rest _ bP cS
  refine wHu (wHx ?_);exact rest _ bP cS
end
section
variable {prog:Program} {w:World} {A:Around} {E:Value->Shared->Prop} {s:Shared}
abbrev zLH (w:World):Obj:={ cls:=.type "set",dict:=none,data:=.set #[] 0 (.fresh 0 0 (!zBK w)) }
def zN4 {h:Heap} {a:Addr} (e:h.get? a=some (zLH w)):zFc w h a []:=
 ⟨_,#[],0,_,e,⟨rfl,rfl,rfl⟩,rfl,λe he=>by simp at he,rfl,List.nodup_nil,by decide,rfl,rfl,λ_=>⟨List.Pairwise.nil,rfl⟩⟩
def zN1 (a:Value) {Q₁:Value->Shared->Prop} (h:Q₁ (.ref s.heap.objs.size) { s with heap:=s.heap.push (zLH w) }) :
  codeAny (model prog w) A (.call (.builtin "set.__new__") ⟨[.type "set",a],[]⟩) (wants Q₁ E) s:=by
 refine codeAny_of_tree ?_;show wpAny _ A.in1 (do checkBuiltinCall "set.__new__" ⟨[.type "set",a],[]⟩;again (.builtin "set.__new__" ⟨[.type "set",a],[]⟩)) _ _ s;refine wHu (wpAny_of_eq (F.newCall_set_1 a) (wHx ⟨plainId_quiet F.plain_set_new _,codeAny_builtin F.entry_set_new ?_⟩));rw[Around.under_plainId F.plain_set_new _];unfold Builtin.«set.__new__» Builtin.Frozenset.newClass;have fS:=sub_set_self;obtain⟨hp,g,d,tk,os⟩:=s;dsimp only
 wp_walk
 refine wpAny_askSetting (wHx ?_);dsimp only;simp only[newObj];refine wHu (wpAny_alloc (wHx ?_));exact wHx h
def zLF {l it S:Addr} {items:Array Value} {ns:List Int} (hh:A.in1.handled=none) (hi:IntsAre items.toList ns) (hb:ns.length+1 < scanBound) (iJ:l≠S) (hlI:l≠it) (mF:S≠it) {R:Result->Shared->Prop} :
  ∀(k i:Nat) (s:Shared) (ks:List Int),ns.length-i=k->i<=ns.length->s.heap.IsListIter it l i->s.heap.IsList l items->zFc w s.heap S ks->ks.length<=i->(∀y,y∈ks↔y∈ns.take i)->
   (∀(h':Heap) (tk:Nat) (aZ:List Int),zFc w h' S aZ->(∀y,y∈aZ↔y∈ns)->aZ.length<=ns.length->(∀b o,b≠S->b≠it->s.heap.get? b=some o->h'.get? b=some o)->R (.ok (.ret .none)) { s with heap:=h',toks:=tk })->
   codeAny (model prog w) A (.builtin "set.update.loop" ⟨[.ref S,.ref it],[]⟩) R s:=by
 intro k
 induction k with
 | zero=>
  intro i s ks e1 e2 h1 h2 h3 h4 h5 hR;have ei:i=ns.length:=by omega
  subst ei;refine codeAny_builtin F.entry_set_update_loop ?_;rw[Around.under_plainId F.plain_set_update_loop _];show wpAny _ A.in1 (pyNext (.ref it) >>= _) _ _ s;refine wHu (wpAny_pyNext_list_end hh h1 h2 (by have:=hi.length;simp at this;simp;omega) λh' eb=>?_);exact wHx (hR h' s.toks ks (h3.at λo q=>eb _ o mF q) (λy=>by rw[h5 y,wH0]) h4 λb o _ n2 q=>eb b o n2 q)
 | succ k ih=>
  intro i s ks e1 e2 h1 h2 h3 h4 h5 hR;have aE:i < ns.length:=by omega
  have cT:items.size=ns.length:=by have:=hi.length;simpa using this
  refine codeAny_builtin F.entry_set_update_loop ?_;rw[Around.under_plainId F.plain_set_update_loop _];show wpAny _ A.in1 (pyNext (.ref it) >>= _) _ _ s;obtain⟨t,hv⟩:∃t,items[i]?=some (.int (ns.getD i 0) t):=by have hg:items[i]?=some items[i]:=wIm ∅;obtain⟨t,e⟩:=IntsAre.int_at hi i items[i] (by rw[wIz];exact hg);exact⟨t,by rw[hg,e]⟩
  refine wHu (wpAny_pyNext_list_item h1 h2 hv λh' lU sb=>?_);show wpAny _ A.in1 (holding [Value.int (ns.getD i 0) t] (setAdd S (.int (ns.getD i 0) t)) >>= _) _ _ _;refine wHu (wIn ?_);unfold setAdd;refine wIn (wHu ((intKind prog w).pyHash (k:=ns.getD i 0) (intKind_is _ _ _ _) ?_));refine zN3 (w:=w) (ks:=ks) (h3.at λo q=>sb.extBut _ o mF q) ∅ λeY aZ b aN S2 mem len=>?_;refine wHx ⟨plainId_quiet F.plain_set_update_loop _,ih (i+1) _ aZ ∅ aE (lU.extBut aN.extBut (Ne.symm mF)) ((h2.extBut sb.extBut hlI).extBut aN.extBut iJ) S2 ∅ (λy=>?_) λh3' kC ks3 g1 g2 g3 g4=>?_⟩
  ·rw[mem y,h5 y,List.take_add_one,List.mem_append,wHw,wHv aE];simp
  exact hR h3' kC ks3 g1 g2 g3 λb o n1 n2 q=>g4 b o n1 n2 (aN.extBut b o n1 (sb.extBut b o n2 q))
set_option maxHeartbeats 3200000 in
theorem zM2 {l:Addr} {items:Array Value} {ns:List Int} {Q:Value->Shared->Prop} (hh:A.handled=none) (hl:s.heap.IsList l items) (hi:IntsAre items.toList ns) (hb:ns.length+1 < scanBound)
  (h:∀(h':Heap) (tk:Nat) (ks:List Int),zFc w h' s.heap.objs.size ks->(∀y,y∈ks↔y∈ns)->ks.length<=ns.length->(∀b o,s.heap.get? b=some o->h'.get? b=some o)->Q (.ref s.heap.objs.size) { s with heap:=h',toks:=tk }) :
  wpAny (model prog w) A (call (.type "set") [.ref l]) Q E s:=by
 obtain⟨c,tl,hmro⟩:=F.called_set.mro;have hmade:=F.called_set.made;have fS:=F.called_set.sub;have h1:=F.called_set.notType;have h2:=F.called_set.canCreate;have hct:=F.typeCall_set_1 (.ref l);refine wpAny_call (codeAny_of_tree ?_);show wpAny _ _ (callAny (.type "set") _) _ _ _;refine wHx (And.intro (Code.quiet_builtin _ (by nofun)) (codeAny_builtin F.entry_type_call ?_));rw[Around.under_plain (weight_type_call_type "set" [.ref l] []) rfl]
 repeat (any_goals (first | assumption | wp_step))
 refine codeAny_mono (zN1 (.ref l) (E:=E) (Q₁:=λobj s₁=>obj=.ref s.heap.objs.size/\s₁={ s with heap:=s.heap.push (zLH w) }) ⟨rfl,rfl⟩) λr s₁ hr=>?_;cases r with
 | error e=>exact hr
 | ok fl=>
  cases fl with
  | ret obj=>
   obtain⟨rfl,rfl⟩:=hr;have hS:(s.heap.push (zLH w)).get? s.heap.objs.size=some (zLH w):=wHG _ rfl;have hT:Shared.TypeIs { s with heap:=s.heap.push (zLH w) } (.ref s.heap.objs.size) "set":=⟨_,hS,rfl⟩;have hli:=F.called_set.init.lookup;have hbi:=F.called_set.init.bind (.ref s.heap.objs.size)
   repeat (any_goals (first | assumption | wp_step))
   refine codeAny_mono (codeAny_call_builtin (R:=wants (λr s₂=>r=.none/\∃h' tk ks,s₂={ s with heap:=h',toks:=tk }/\zFc w h' s.heap.objs.size ks/\(∀y,y∈ks↔y∈ns)/\ks.length<=ns.length/\
     (∀b o,s.heap.get? b=some o->h'.get? b=some o)) E) F.called_set.init.plain F.entry_set_init (check_set_init_1 hT ?_)) λr₂ s₂ hr₂=>?_
   ·obtain⟨⟨ocls,fN,odata,eG⟩,hol,hcl,nl,eA⟩:=hl;simp only at hcl eA;subst hcl;subst eA;have lG:(s.heap.push (zLH w)).get? l=some { cls:=.type "list",dict:=fN,data:=.seq items nl,slots:=eG }:=wHz _ hol;have hsls:=F.sub_list_set;have hslf:=F.sub_list_frozenset;have aH:(Value.type "list" == Value.type "dict")=false:=by decide
    have cK:(s.heap.push (zLH w)).IsList l items:=⟨_,lG,rfl,nl,rfl⟩;unfold Builtin.«set.__init__» noKeywords Builtin.Frozenset.updateFrom;generalize hPI:pyIter=PI;wp_walk;subst hPI;refine wpAny_pyIter_list cK (wHu (wpAny_runValue ?_));have iJ:l < s.heap.objs.size:=wHH hol;have z1:(s.heap.push (zLH w)).objs.size=s.heap.objs.size+1:=wIk ..;refine zLF (w:=w) (items:=items) (ns:=ns) (by simp[hh]) hi hb (wHO iJ) (by rw[z1];exact wHO (wIx iJ)) (by rw[z1];exact wHO (wIv _)) ns.length 0 _ [] ∅ (wIp _)
     ⟨_,wHG _ rfl,rfl,rfl⟩ (cK.push _) (zN4 (wHz _ hS)) (wHA _) (λy=>by simp) λh' tk ks g1 g2 g3 g4=>?_
    refine wHx (wHx ⟨rfl,h',tk,ks,rfl,g1,g2,g3,λb o q=>?_⟩);have hb:=wHH q;exact g4 b o (wHO hb) (by rw[z1];exact wHO (wIx hb)) (wHz _ (wHz _ q))
   cases r₂ with
   | error e=>exact hr₂
   | ok fl₂=>
    cases fl₂ with
    | ret r=>
     obtain⟨rfl,h',tk,ks,rfl,g1,g2,g3,g4⟩:=hr₂
     repeat (any_goals (first | assumption | wp_step))
     exact h h' tk ks g1 g2 g3 g4
    | _=>exact hr₂.elim
  | _=>exact hr.elim
end
abbrev zQM:=Array (Nat × Nat × Nat)
def SIn (xs:Array Keyed) (lo hi:Nat):Prop:=∀i j,lo<=i->i<=j->j < hi->K xs i<=K xs j
structure SB (a₀ b:Array Keyed) (lo:Nat) (pd:zQM) (st:SortSt):Prop where
 perm:(arrOf st).Perm a₀
 kind:kindOf st=oneType'
 failed:failedOf st=none
 pend:pendingOf st=pd
 blw:∀k,k < lo->K (arrOf st) k=K b k
section
variable {a₀ b:Array Keyed} {lo:Nat} {pd:zQM} {st:SortSt}
def SB.sz (h:SB a₀ b lo pd st):(arrOf st).size=a₀.size:=h.perm.size_eq
def SB.set (h:SB a₀ b lo pd st) {xs:Array Keyed} (hp:xs.Perm (arrOf st)) (hb:∀k,k < lo->K xs k=K (arrOf st) k):SB a₀ b lo pd (setArr st xs):=
 ⟨hp.trans h.perm,h.kind,h.failed,h.pend,λk hk=>(hb k hk).trans (h.blw k hk)⟩
end
def zK9 (a b o:Array Keyed) (i j:Nat):=o++a.extract i a.size++b.extract j b.size
def zKA (a b o:Array Keyed) (i j:Nat):=o++b.extract j b.size++a.extract i a.size
def Pw (l:List Keyed):Prop:=l.Pairwise λp q=>numOf p.1<=numOf q.1
structure MI (S o la lb:List Keyed):Prop where
 pa:Pw (o++la)
 pb:Pw (o++lb)
 pm:(o++la++lb).Perm S
def MI.swap {S o la lb:List Keyed} (h:MI S o la lb):MI S o lb la:=
 ⟨h.pb,h.pa,(by rw[wHY,wHY];exact List.Perm.append_left _ List.perm_append_comm:(o++lb++la).Perm (o++la++lb)).trans h.pm⟩
def MI.takeB {S o la p lb:List Keyed} (h:MI S o la (p++lb)) (hp:∀x∈p,∀y∈la,numOf x.1<=numOf y.1):MI S (o++p) la lb:=by
 refine⟨?_,by rw[wHY];exact h.pb,?_⟩
 ·have h1:=List.pairwise_append.mp h.pa;have h2:=List.pairwise_append.mp h.pb;have h3:=List.pairwise_append.mp h2.2.1;refine List.pairwise_append.mpr ⟨List.pairwise_append.mpr ⟨h1.1,h3.1,λx hx y hy=>h2.2.2 x hx y (List.mem_append_left _ hy)⟩,h1.2.1,λx hx y hy=>?_⟩;rcases wIP hx with hx | hx
  ·exact h1.2.2 x hx y hy
  exact hp x hx y hy
 refine List.Perm.trans ?_ h.pm;rw[wHY,wHY,wHY];refine List.Perm.append_left _ ?_;rw[← wHY,← wHY];exact List.Perm.append_right _ List.perm_append_comm
def MI.takeA {S o lb p la:List Keyed} (h:MI S o (p++la) lb) (hp:∀x∈p,∀y∈lb,numOf x.1<=numOf y.1):MI S (o++p) la lb:=(h.swap.takeB hp).swap
def Pw.sub {l l':List Keyed} (h:Pw l) (q:l'.Sublist l):Pw l':=List.Pairwise.sublist q h
def SIn.pw {xs:Array Keyed} (h:SIn xs 0 xs.size):Pw xs.toList:=by
 refine List.pairwise_iff_getElem.mpr λi j hi hj ij=>?_;have bY:i < xs.size:=by simpa using hi
 have hj':j < xs.size:=by simpa using hj
 have:=h i j (wIp _) (wIC ij) hj';rw[K_eq bY,K_eq hj'] at this;simpa using this
def zDe (xs:Array Keyed) (i:Nat):(xs.extract i xs.size).toList=xs.toList.drop i:=by rw[Array.toList_extract,List.extract_eq_take_drop];exact wIo (by simp)
def zFq {xs:Array Keyed} {i:Nat} {y:Keyed} (h:y∈xs.toList.drop i):∃j,i<=j/\j < xs.size/\numOf y.1=K xs j:=by
 obtain⟨k,hk,e⟩:=List.mem_iff_getElem.mp h;have dX:i+k < xs.size:=by rw[wIu] at hk;simp at hk;omega
 refine⟨i+k,by omega,dX,?_⟩;rw[K_eq dX,← e];simp
section
variable {S:List Keyed} {a b o:Array Keyed} {i j:Nat}
abbrev LI (S:List Keyed) (a b o:Array Keyed) (i j:Nat):Prop:=MI S o.toList (a.toList.drop i) (b.toList.drop j)
def Gd (S:List Keyed) (r:Array Keyed):Prop:=r.toList.Perm S/\Pw r.toList
def LI.rest (h:LI S a b o i j) (e:b.size<=j):Gd S (zK9 a b o i j):=by
 have z:b.toList.drop j=[]:=List.drop_eq_nil_of_le (by simpa using e);have w:(zK9 a b o i j).toList=o.toList++a.toList.drop i++b.toList.drop j:=by unfold zK9;rw[wIA,wIA,zDe,zDe]
 refine⟨w ▸ h.pm,?_⟩;rw[w,z,wHQ];exact h.pa
def LI.last (h:LI S a b o i j) (y:∀q,q < b.size->K b q<=K a i) (sa:SIn a 0 a.size):Gd S (zKA a b o i j):=by
 have w:(zKA a b o i j).toList=o.toList++b.toList.drop j++a.toList.drop i:=by unfold zKA;rw[wIA,wIA,zDe,zDe]
 have h':MI S o.toList (a.toList.drop i) (b.toList.drop j++[]):=by rw[wHQ];exact h
 have h2:=h'.takeB λx hx z hz=>by obtain⟨q,q1,q2,q3⟩:=zFq hx;obtain⟨k,k1,k2,k3⟩:=zFq hz;rw[k3,q3];exact Int.le_trans (y q q2) (sa i k (wIp _) k1 k2)
 exact⟨w ▸ h.swap.pm,w ▸ h2.pa⟩
end
def KS (st t:SortSt):Prop:=kindOf t=kindOf st/\arrOf t=arrOf st/\pendingOf t=pendingOf st/\failedOf t=failedOf st
def KS.g {st t:SortSt} (h:KS st t) (n:Nat):KS st (SortSt.mk' (kindOf t) (arrOf t) (pendingOf t) n (failedOf t)):=h
def zKN (a b o:Array Keyed) (i j:Nat):=a.extract 0 i++b.extract 0 j++o.reverse
def zHP (a b o:Array Keyed) (i j:Nat):=b.extract 0 j++a.extract 0 i++o.reverse
structure MH (S la lb r:List Keyed):Prop where
 pa:Pw (la++r)
 pb:Pw (lb++r)
 pm:(la++lb++r).Perm S
def MH.swap {S la lb r:List Keyed} (h:MH S la lb r):MH S lb la r:=⟨h.pb,h.pa,(List.Perm.append_right _ List.perm_append_comm).trans h.pm⟩
def MH.takeB {S la lb p r:List Keyed} (h:MH S la (lb++p) r) (hp:∀x∈la,∀y∈p,numOf x.1<=numOf y.1):MH S la lb (p++r):=by
 refine⟨?_,by rw[← wHY];exact h.pb,?_⟩
 ·have h1:=List.pairwise_append.mp h.pa;have h2:=List.pairwise_append.mp h.pb;have h3:=List.pairwise_append.mp h2.1;refine List.pairwise_append.mpr ⟨h1.1,List.pairwise_append.mpr ⟨h3.2.1,h1.2.1,λx hx y hy=>h2.2.2 x (wIf _ hx) y hy⟩,λx hx y hy=>?_⟩;rcases wIP hy with hy | hy
  ·exact hp x hx y hy
  exact h1.2.2 x hx y hy
 have e:la++lb++(p++r)=la++(lb++p)++r:=by simp only[wHY]
 rw[e];exact h.pm
def MH.takeA {S la lb p r:List Keyed} (h:MH S (la++p) lb r) (hp:∀x∈lb,∀y∈p,numOf x.1<=numOf y.1):MH S la lb (p++r):=(h.swap.takeB hp).swap
def zDW (xs:Array Keyed) (i:Nat):(xs.extract 0 i).toList=xs.toList.take i:=by rw[Array.toList_extract,List.extract_eq_take_drop];simp
def zFp {xs:Array Keyed} {i:Nat} {y:Keyed} (h:y∈xs.toList.take i):∃j,j < i/\j < xs.size/\numOf y.1=K xs j:=by
 obtain⟨k,hk,e⟩:=List.mem_iff_getElem.mp h;have dX:k < i/\k < xs.size:=by rw[wHS] at hk;simp at hk;omega
 refine⟨k,dX.1,dX.2,?_⟩;rw[K_eq dX.2,← e];simp
section
variable {S:List Keyed} {a b o:Array Keyed} {i j:Nat}
abbrev HI (S:List Keyed) (a b o:Array Keyed) (i j:Nat):Prop:=MH S (a.toList.take i) (b.toList.take j) o.toList.reverse
def HI.rest (h:HI S a b o i j) (e:i=0):Gd S (zKN a b o i j):=by
 subst e;have w:(zKN a b o 0 j).toList=a.toList.take 0++b.toList.take j++o.toList.reverse:=by unfold zKN;rw[wIA,wIA,zDW,zDW,Array.toList_reverse]
 refine⟨w ▸ h.pm,?_⟩;rw[w];exact h.pb
def HI.first (h:HI S a b o i j) (y:∀q r,q < j->q < b.size->r < i->r < a.size->K b q<=K a r):Gd S (zHP a b o i j):=by
 have w:(zHP a b o i j).toList=b.toList.take j++a.toList.take i++o.toList.reverse:=by unfold zHP;rw[wIA,wIA,zDW,zDW,Array.toList_reverse]
 have h':MH S ([]++a.toList.take i) (b.toList.take j) o.toList.reverse:=h;have h2:=h'.takeA λx hx z hz=>by obtain⟨q,q1,q2,q3⟩:=zFp hx;obtain⟨k,k1,k2,k3⟩:=zFp hz;rw[k3,q3];exact y q k q1 q2 k1 k2
 refine⟨w ▸ h.swap.pm,?_⟩;rw[w,wHY];exact h2.pb
end
def zGk (xs:Array Keyed):Nat->List (Nat × Nat × Nat)->Nat->Prop
 | lo,[],hi=>lo=hi
 | lo,p::r,hi=>p.1=lo/\1<=p.2.1/\SIn xs lo (lo+p.2.1)/\zGk xs (lo+p.2.1) r hi
theorem zGk.le {xs:Array Keyed}:∀{lo:Nat} {l:List (Nat × Nat × Nat)} {hi:Nat},zGk xs lo l hi->lo+l.length<=hi
 | _,[],_,h=>wIG h
 | _,_::_,_,h=>by have:=zGk.le h.2.2.2;have:=h.2.1;rw[wH3];omega
theorem zGk.split {xs:Array Keyed}:∀{l r:List (Nat × Nat × Nat)} {lo hi:Nat},zGk xs lo (l++r) hi->∃m,zGk xs lo l m/\zGk xs m r hi
 | [],_,lo,_,h=>⟨lo,rfl,h⟩
 | _::_,_,_,_,h=>let ⟨m,h1,h2⟩:=zGk.split h.2.2.2;⟨m,⟨h.1,h.2.1,h.2.2.1,h1⟩,h2⟩
theorem zGk.join {xs:Array Keyed}:∀{l r:List (Nat × Nat × Nat)} {lo m hi:Nat},zGk xs lo l m->zGk xs m r hi->zGk xs lo (l++r) hi
 | [],_,_,_,_,h,g=>by cases (h:_=_);exact g
 | _::_,_,_,_,_,h,g=>⟨h.1,h.2.1,h.2.2.1,zGk.join h.2.2.2 g⟩
def SIn.congr {xs ys:Array Keyed} {lo hi:Nat} (h:SIn xs lo hi) (e:∀k,lo<=k->k < hi->K ys k=K xs k):SIn ys lo hi:=λi j h1 h2 h3=>by rw[e i h1 ∅,e j ∅ h3];exact h i j h1 h2 h3
def zGk.congr {xs ys:Array Keyed}:∀{lo:Nat} {l:List (Nat × Nat × Nat)} {hi:Nat},zGk xs lo l hi->(∀k,lo<=k->k < hi->K ys k=K xs k)->zGk ys lo l hi
 | _,[],_,h,_=>h
 | _,_::_,_,h,e=>by have:=zGk.le h.2.2.2;exact⟨h.1,h.2.1,h.2.2.1.congr λk k1 k2=>e k k1 ∅,h.2.2.2.congr λk k1 k2=>e k ∅ k2⟩
def zPW {xs:Array Keyed} {m n q:Nat} (h:m+q < n) (hn:n<=xs.size):K (xs.extract m n) q=K xs (m+q):=by refine K_congr ?_;rw[Array.getElem?_extract,wHF ∅]
theorem SIn.ext {xs:Array Keyed} {m n:Nat} (h:SIn xs m n) (hn:n<=xs.size):SIn (xs.extract m n) 0 (xs.extract m n).size:=λi j _ ij hj=>by
 have z:(xs.extract m n).size=n-m:=by rw[Array.size_extract];omega
 rw[z] at hj;rw[zPW ∅ hn,zPW ∅ hn];exact h _ _ ∅ ∅ ∅
theorem zFI {α:Type}:∀{l:List α} {i:Nat} {x:α},l[i]?=some x->(x::l.eraseIdx i).Perm l
 | [],i,x,h=>by simp at h
 | a::l,0,x,h=>by
  obtain rfl:a=x:=by simpa using h
  exact List.Perm.refl _
 | a::l,i+1,x,h=>by have:=zFI (l:=l) (i:=i) (x:=x) (by simpa using h);exact (List.Perm.swap a x _).trans (this.cons a)
theorem zKi {α:Type} (f:Nat->Nat):∀(aI k:Nat) (l:List α) (out:Array α),l.length<=aI->(pickOrder.go f aI k l out).toList.Perm (out.toList++l)
 | 0,k,l,out,h=>by obtain rfl:l=[]:=List.length_eq_zero_iff.mp ∅;show out.toList.Perm (out.toList++[]);rw[wHQ]
 | aI+1,k,l,out,h=>by
  show (match l[f k%l.length]? with | some x=>pickOrder.go f aI (k+1) (l.eraseIdx (f k%l.length)) (out.push x) | none=>out).toList.Perm (out.toList++l);cases e:l[f k%l.length]? with
  | some x=>
   have hi:f k%l.length < l.length:=(wIL e).1;refine (zKi f aI (k+1) _ _ (by rw[List.length_eraseIdx_of_lt hi];omega)).trans ?_;rw[Array.toList_push,wHY];exact List.Perm.append_left _ (zFI e)
  | none=>
   have:l=[]:=by
    rcases Nat.eq_zero_or_pos l.length with z | z
    ·exact List.length_eq_zero_iff.mp z
    exact absurd (List.getElem?_eq_none_iff.mp e) (Nat.not_le.mpr (Nat.mod_lt _ z))
   subst this;show out.toList.Perm (out.toList++[]);rw[wHQ]
theorem zEv {α:Type} (f:Nat->Nat) (xs:Array α):(pickOrder f xs).toList.Perm xs.toList:=by have:=zKi f xs.size 0 xs.toList #[] (by simp);show (pickOrder.go f xs.size 0 xs.toList #[]).toList.Perm xs.toList;simpa using this
section
variable {prog:Program} {w:World} {A:Around} {E:Value->Shared->Prop} {s:Shared}
def zJy {src:Source} {n:Nat} {Q:Nat->Shared->Prop} (hn:n≠0) (h:∀i d,i < n->Q i { s with drawn:=d }):wpAny (model prog w) A (choose src n) Q E s:=
 λΓ p hΓ=>⟨hn,h _ _ (Nat.mod_lt _ (Nat.pos_of_ne_zero hn))⟩
theorem zJx {α:Type}:∀(n:Nat) (l:List α) (s:Shared) {Q:List α->Shared->Prop},l.length<=n->(∀r d,r.Perm l->Q r { s with drawn:=d })->wpAny (model prog w) A (drawOrder n l) Q E s
 | 0,l,s,Q,h,q=>by obtain rfl:l=[]:=List.length_eq_zero_iff.mp ∅;exact wHx (q [] s.drawn (List.Perm.refl _))
 | n+1,[],s,Q,h,q=>wHx (q [] s.drawn (List.Perm.refl _))
 | n+1,a::l,s,Q,h,q=>by show wpAny _ _ (do let i ← choose .order (a::l).length;match (a::l)[i]? with | some x=>(return x::(← drawOrder n ((a::l).eraseIdx i))) | none=>unsupported "internal:drawOrder") _ _ s;refine wHu (zJy (by simp) λi d hi=>?_);have e:=wHv hi;rw[e];refine wHu (zJx n _ _ (by rw[List.length_eraseIdx_of_lt hi];simp only[wH3] at h ⊢;omega) λr d' hr=>wHx (q _ _ ((hr.cons _).trans (zFI e))))
end
def zFb:entryFor table "set.__iter__"=some Builtin.«frozenset.__iter__»:=
 entryFor_alias (id':="frozenset.__iter__") (by kernel_rfl) rfl (by nofun) (by kernel_rfl)
def zA1:Slot "set_iterator" "__next__" "set_iterator.__next__":=.of (owner:="set_iterator") (n:="__next__") (by rw[typeLookup_type,builtinLookup_eq_fast];kernel_rfl) (by nofun) (by nofun) (by nofun) (by first | exact .inl (by nofun) | exact .inr (by nofun)) (by rw[isSubtype_type];kernel_rfl)
def zDd:entryFor table "set_iterator.__next__"=some Builtin.«set_iterator.__next__»:=entryFor_of_fast (by kernel_rfl)
def zDA (a:Value):argsOk "set_iterator.__next__" ⟨[a],[]⟩:=by unfold argsOk;kernel_rfl
def zD5:Slot "set_iterator" "__iter__" "set_iterator.__iter__":=.of (owner:="set_iterator") (n:="__iter__") (by rw[typeLookup_type,builtinLookup_eq_fast];kernel_rfl) (by nofun) (by nofun) (by nofun) (by first | exact .inl (by nofun) | exact .inr (by nofun)) (by rw[isSubtype_type];kernel_rfl)
def zFY:entryFor table "set_iterator.__iter__"=some Builtin.«dict_keyiterator.__iter__»:=
 entryFor_alias (id':="dict_keyiterator.__iter__") (by kernel_rfl) rfl (by nofun) (by kernel_rfl)
def zHi (a:Value):argsOk "set_iterator.__iter__" ⟨[a],[]⟩:=by unfold argsOk;kernel_rfl
def zFh (a:Addr) (slot given ep0:Nat):setNext a slot given ep0=(do
 let (es,epoch,t) ← setState a
 if ← setsByText then
  if epoch != ep0 then unsupported "set_iterator.__next__:elements-changed"
  return ((← setWalk a)[given]?).map λe=>(e.2,slot)
 if !t.plain && decide (es.size > 1) then unsupported "set_iterator.__next__:the-table-is-plain-no-more"
 (if !t.led && !es.isEmpty then unsupported "set:maker-not-led" else pure PUnit.unit:Sem Unit)
 return match es[SetTable.below t.place slot]?,t.place[SetTable.below t.place slot]? with
  | some (_,x),some j=>some (x,j+1)
  | _,_=>none):=rfl
def zIR (a:Addr):setWalk a=(do
 let (es,epoch,t) ← setState a
 if ← setsByText then return pickOrder ((← ask).params.setOrder a epoch) es
 if !t.plain && decide (es.size > 1) then return (← drawOrder es.size es.toList).toArray
 (if !t.led && decide (es.size > 1) then unsupported "set:maker-not-led" else pure PUnit.unit:Sem Unit)
 return es):=rfl
def zHx (a:Addr):setDrawn a=(do
 let (es,_,t) ← setState a
 let zBK ← setsByText
 return !zBK && (!t.plain && decide (es.size > 1))):=rfl
section
variable {prog:Program} {w:World} {A:Around} {E:Value->Shared->Prop} {s:Shared} {a:Addr} {o:Obj} {es:Array (Int × Value)} {ep:Nat} {t:SetTable}
def zCN {Q:Bool->Shared->Prop} (h:Q (zBK w) s):wpAny (model prog w) A setsByText Q E s:=by unfold setsByText;exact wHu (wpAny_askSetting (wHx h))
def zDY {slot i:Nat} {Q:Option (Value × Nat)->Shared->Prop} (ho:s.heap.get? a=some o) (hd:o.data=.set es ep t) (hf:t.fits es.size=true) (hb:zBK w=true)
  (h:Q (((pickOrder (w.params.setOrder a ep) es)[i]?).map λe=>(e.2,slot)) s):wpAny (model prog w) A (setNext a slot i ep) Q E s:=by
 rw[zFh];refine wHu (wpAny_setState_of ho hd hf (wHu (zCN ?_)));rw[hb];simp only[if_true,bne_self_eq_false,Bool.false_eq_true,if_false];rw[zIR];refine wHu (wHu (wpAny_setState_of ho hd hf (wHu (zCN ?_))));rw[hb];simp only[if_true];exact wHu (wpAny_askSetting (wHx (wHx h)))
def zD3 {slot i:Nat} {Q:Option (Value × Nat)->Shared->Prop} (ho:s.heap.get? a=some o) (hd:o.data=.set es ep t) (hf:t.fits es.size=true) (hb:zBK w=false)
  (hp:(!t.plain && decide (es.size > 1))=false) (hl:t.led=true) (hs:SetTable.below t.place slot=i)
  (h:Q (match es[i]?,t.place[i]? with | some (_,x),some j=>some (x,j+1) | _,_=>none) s) {j:Nat}:wpAny (model prog w) A (setNext a slot j ep) Q E s:=by
 rw[zFh];refine wHu (wpAny_setState_of ho hd hf (wHu (zCN ?_)));rw[hb];dsimp only;rw[hp,hl,hs];simp only[Bool.false_eq_true,if_false,Bool.not_true,Bool.false_and];exact wHu (wHx (wHx h))
def zGo {p:Nat} {x:Int × Value} {Q:Value->Shared->Prop} (ho:s.heap.get? a=some o) (hd:o.data=.set es ep t) (hf:t.fits es.size=true) (hx:es[p]?=some x)
  (h:Q x.2 s):wpAny (model prog w) A (setNextDrawn a p ep) Q E s:=by
 unfold setNextDrawn;refine wHu (wpAny_setState_of ho hd hf ?_);simp only[bne_self_eq_false,Bool.false_eq_true,if_false];rw[hx];exact wHx h
end
def zEI (w:World) (fp:List Addr) (h:Heap) (it S:Addr) (vs:List Value) (i:Nat):Prop:=
 ∃o es ep t first,h.get? S=some o/\o.data=.set es ep t/\t.fits es.size=true/\vs.length=es.size/\
  h.get? it=some { cls:=.type "set_iterator",dict:=none,data:=.fields #[first,rawInt i,.ref S,rawInt es.size,rawInt ep],slots:=#[] }/\
  ((zBK w=true/\(∃k:Nat,first=rawInt k)/\vs=(pickOrder (w.params.setOrder S ep) es).toList.map (·.2))∨
   (zBK w=false/\(!t.plain && decide (es.size > 1))=false/\t.led=true/\zDM t.place.toList/\(∃k:Nat,first=rawInt k/\SetTable.below t.place k=i)/\vs=es.toList.map (·.2))∨
   (∃(T:Addr) (ot:Obj) (pl:List Nat) (n:Nat),first=.ref T/\T∈fp/\T≠it/\h.get? T=some ot/\ot.data=.seq (pl.map λ(p:Nat)=>rawInt p).toArray n/\pl.length=es.size/\(∀p∈pl,p < es.size)/\vs=pl.map λp=>(es[p]?.map (·.2)).getD .none))
def zEI.frame {w:World} {fp:List Addr} {h h':Heap} {it S:Addr} {vs:List Value} {i:Nat} (x:zEI w fp h it S vs i) (hS:S∈fp) (hi:it∈fp) (k:∀b∈fp,∀o,h.get? b=some o->h'.get? b=some o):zEI w fp h' it S vs i:=by
 obtain⟨o,es,ep,t,first,e1,e2,e3,e4,e5,e6⟩:=x;refine⟨o,es,ep,t,first,k _ hS _ e1,e2,e3,e4,k _ hi _ e5,?_⟩;rcases e6 with e6 | e6 | ⟨T,ot,pl,n,f1,f2,f3,f4,f5⟩
 ·exact .inl e6
 ·exact .inr (.inl e6)
 exact .inr (.inr ⟨T,ot,pl,n,f1,f2,f3,k _ f2 _ f4,f5⟩)
def zEI.typeIs {w:World} {fp:List Addr} {s:Shared} {it S:Addr} {vs:List Value} {i:Nat} (x:zEI w fp s.heap it S vs i):s.TypeIs (.ref it) "set_iterator":=
 by
 obtain⟨_,_,_,_,_,_,_,_,_,e5,_⟩:=x;exact⟨_,e5,rfl⟩
def zJm {xs:Array Nat} {i:Nat} (h:zDM xs.toList) (hi:i < xs.size):SetTable.below xs (xs[i]+1)=i+1:=by
 have c:=zEF (j:=xs[i]+1) h;generalize SetTable.below xs (xs[i]+1)=b at c;rcases Nat.lt_trichotomy b (i+1) with q | q | q
 ·have:=c.hi i hi ∅;omega
 ·exact q
 have z:i+1 < xs.size:=by have:=c.le;omega
 have a1:=c.lo (i+1) z q;have a2:=zDR h (show i < i+1 by omega) z;omega
def zJl {xs:Array Nat} (h:zDM xs.toList):SetTable.below xs 0=0:=by
 have c:=zEF (j:=0) h;generalize SetTable.below xs 0=b at c;rcases Nat.eq_zero_or_pos b with q | q
 ·exact q
 have:=c.lo 0 (by have:=c.le;omega) q;omega
section
variable {s:Shared} {it:Addr}
def zFg (it:Addr):Builtin.«set_iterator.__next__» ⟨[.ref it],[]⟩=(do
 let [first,.int i _,s,.int size _,.int epoch _]:=(← fieldsOf (.ref it)).toList | unsupported "internal:set_iterator"
 let .ref a:=s | rule "set_iterator.__next__.exhausted-before";raiseNew (← newExc (.type "StopIteration") [])
 if ((← setEntries a).size:Int) != size then
  rule "set_iterator.__next__.size-changed"
  setField (.ref it) 3 (rawInt (-1))
  raiseError "RuntimeError" "Set changed size during iteration"
 if let .int slot _:=first then
  match ← setNext a slot.toNat i.toNat epoch.toNat with
  | some (x,next)=>
   setField (.ref it) 0 (rawInt next)
   setField (.ref it) 1 (rawInt (i+1))
   ret x
  | none=>setField (.ref it) 2 .none;raiseNew (← newExc (.type "StopIteration") [])
 else
  let some places ← seqItems? first | unsupported "internal:set_iterator"
  match places[i.toNat]? with
  | some (.int place _)=>
   let x ← setNextDrawn a place.toNat epoch.toNat
   setField (.ref it) 1 (rawInt (i+1))
   ret x
  | some _=>unsupported "internal:set_iterator"
  | none=>setField (.ref it) 0 (rawInt 0);setField (.ref it) 2 .none;raiseNew (← newExc (.type "StopIteration") [])):=rfl
end
abbrev zIP (f i r n e:Value):Obj:={ cls:=.type "set_iterator",dict:=none,data:=.fields #[f,i,r,n,e],slots:=#[] }
section
variable {prog:Program} {w:World} {A:Around} {E:Value->Shared->Prop} {s:Shared} {it S:Addr} {vs:List Value} {fp:List Addr}
def zDi {a:Addr} {o:Obj} {es:Array (Int × Value)} {ep:Nat} {t:SetTable} {Q:Array (Int × Value)->Shared->Prop} (ho:s.heap.get? a=some o) (hd:o.data=.set es ep t) (hf:t.fits es.size=true) (h:Q es s) :
  wpAny (model prog w) A (setEntries a) Q E s:=by
 unfold setEntries;exact wHu (wpAny_setState_of ho hd hf (wHx h))
def zJL {f i r n e x:Value} {Q:Unit->Shared->Prop} (ho:s.heap.get? it=some (zIP f i r n e)) (h:∀h',h'.get? it=some (zIP x i r n e)->Heap.SameBut it s.heap h'->Q PUnit.unit { s with heap:=h' }):wpAny (model prog w) A (setField (.ref it) 0 x) Q E s:=
 wpAny_setField_rec ho (by simp) h
def zJK {f i r n e x:Value} {Q:Unit->Shared->Prop} (ho:s.heap.get? it=some (zIP f i r n e)) (h:∀h',h'.get? it=some (zIP f x r n e)->Heap.SameBut it s.heap h'->Q PUnit.unit { s with heap:=h' }):wpAny (model prog w) A (setField (.ref it) 1 x) Q E s:=
 wpAny_setField_rec ho (by simp) h
def zJJ {f i r n e x:Value} {Q:Unit->Shared->Prop} (ho:s.heap.get? it=some (zIP f i r n e)) (h:∀h',h'.get? it=some (zIP f i x n e)->Heap.SameBut it s.heap h'->Q PUnit.unit { s with heap:=h' }):wpAny (model prog w) A (setField (.ref it) 2 x) Q E s:=
 wpAny_setField_rec ho (by simp) h
def zNu {i:Nat} {v:Value} {Q:Option Value->Shared->Prop} (x:zEI w fp s.heap it S vs i) (aH:S≠it) (hS:S∈fp) (hi:it∈fp) (e:vs[i]?=some v)
  (hQ:∀h',zEI w fp h' it S vs (i+1)->Heap.ExtBut it s.heap h'->Q (some v) { s with heap:=h' }):wpAny (model prog w) A (pyNext (.ref it)) Q E s:=by
 have tp:=x.typeIs;obtain⟨o,es,ep,t,first,e1,e2,e3,e4,e5,e6⟩:=x;unfold pyNext;refine wHu (wpAny_attempt (wpAny_callSpecial?_slot (name:=Str.ofString "__next__") tp zA1 (wpAny_call_entry zA1 tp zDd ?_ (zDA _))));rw[zFg];refine wHu (wpAny_fieldsOf e5 rfl ?_);show wpAny _ _ (setEntries S >>= _) _ _ s;refine wHu (zDi e1 e2 e3 ?_);rw[wHD (by simp)];have lt:i < es.size:=by rw[← e4];exact (wIL e).1
 rcases e6 with ⟨b,⟨k,rfl⟩,rfl⟩ | ⟨b,b2,b3,b4,⟨k,rfl,b5⟩,rfl⟩ | ⟨T,ot,pl,n,rfl,f1,f2,f3,f4,f5,f6,rfl⟩
 ·show wpAny _ _ (setNext S k i ep >>= _) _ _ s;have e':((pickOrder (w.params.setOrder S ep) es)[i]?).map (·.2)=some v:=by rw[wHB,wIz] at e;exact e
  obtain⟨y,y1,rfl⟩:=wIN e';refine wHu (zDY e1 e2 e3 b ?_);rw[y1];refine wHu (zJL e5 λh1 q1 k1=>wHu (zJK q1 λh2 q2 k2=>wHx ⟨_,rfl,wHx (hQ h2 ?_ ?_)⟩))
  ·exact⟨o,es,ep,t,_,k2.extBut _ _ aH (k1.extBut _ _ aH e1),e2,e3,e4,q2,.inl ⟨b,⟨k,rfl⟩,rfl⟩⟩
  exact λc ob hc q=>k2.extBut _ _ hc (k1.extBut _ _ hc q)
 ·show wpAny _ _ (setNext S k i ep >>= _) _ _ s;rw[wHB,wIz] at e;obtain⟨y,y1,rfl⟩:=wIN e;have pz:i < t.place.size:=by have:=e3;simp only[SetTable.fits,wHR,beq_iff_eq,decide_eq_true_eq] at this;omega
  refine wHu (zD3 e1 e2 e3 b b2 b3 b5 ?_);rw[y1,wIm pz];refine wHu (zJL e5 λh1 q1 k1=>wHu (zJK q1 λh2 q2 k2=>wHx ⟨_,rfl,wHx (hQ h2 ?_ ?_)⟩))
  ·exact⟨o,es,ep,t,_,k2.extBut _ _ aH (k1.extBut _ _ aH e1),e2,e3,e4,q2,.inr (.inl ⟨b,b2,b3,b4,⟨t.place[i]+1,rfl,zJm b4 pz⟩,rfl⟩)⟩
  exact λc ob hc q=>k2.extBut _ _ hc (k1.extBut _ _ hc q)
 show wpAny _ _ (seqItems? (.ref T) >>= _) _ _ s;refine wHu (wpAny_seqItems f3 f4 ?_);have li:i < pl.length:=by omega
 have g1:(pl.map λ(p:Nat)=>rawInt p).toArray[((i:Nat):Int).toNat]?=some (rawInt (pl[i]:Nat)):=by rw[wIs,List.getElem?_toArray,wHB,wHv li];rfl
 show wpAny _ _ (match (pl.map λ(p:Nat)=>rawInt p).toArray[((i:Nat):Int).toNat]? with | some (.int place _)=>_ | some _=>_ | none=>_) _ _ s;rw[g1];show wpAny _ _ (setNextDrawn S pl[i] ep >>= _) _ _ s;have lp:pl[i] < es.size:=f6 _ (wHZ li);have g2:es[pl[i]]?=some es[pl[i]]:=wIm lp;refine wHu (zGo e1 e2 e3 g2 ?_);have g3:es[pl[i]].2=v:=by rw[wHB,wHv li] at e;have:=wHE e;dsimp only at this;rw[g2] at this;exact this
 rw[g3];refine wHu (zJK e5 λh2 q2 k2=>wHx ⟨_,rfl,wHx (hQ h2 ?_ ?_)⟩)
 ·exact⟨o,es,ep,t,_,k2.extBut _ _ aH e1,e2,e3,e4,q2,.inr (.inr ⟨T,ot,pl,n,rfl,f1,f2,k2.extBut _ _ f2 f3,f4,f5,f6,rfl⟩)⟩
 exact λc ob hc q=>k2.extBut _ _ hc q
def zF5 {Q:Option Value->Shared->Prop} (hh:A.handled=none) (hQ:∀h',(∀b ob,s.heap.get? b=some ob->h'.get? b=some ob)->Q none { s with heap:=h' }) :
  wpAny (model prog w) A.in1 (do raiseNew (← newExc (.type "StopIteration") []):Sem Fin) (λa s'=>∃v,a=.done (.ret v)/\wpAny (model prog w) A (pure (some v)) Q E s')
   (λe s'=>wpAny (model prog w) A (do if ← isInstance e (.type "StopIteration") then pure none else throw e) Q E s') s:=by
 refine wHu ?_;simp only[newExc,newTuple];refine wHu (wIj ?_ (by size_fits));refine wHu (m:=firstArgMember _ _) (wpAny_of_eq (a:=Value.none) (by first | rfl | (simp only[firstArgMember];rfl)) ?_);refine wIj ?_ (by size_fits);simp only[raiseNew];refine wHu (wpAny_handled ?_);rw[show A.in1.handled=none from hh];refine wHu (wHx (wpAny_throw ?_));refine wHu (wpAny_isInstance (T:="StopIteration") (b:=true) ⟨_,wHG _ rfl,rfl⟩ isSubtype_stop ?_);exact wHx (hQ _ λb ob q=>wHz _ (wHz _ q))
def zNv {Q:Option Value->Shared->Prop} (hh:A.handled=none) (x:zEI w fp s.heap it S vs vs.length) (hQ:∀h',Heap.ExtBut it s.heap h'->Q none { s with heap:=h' }):wpAny (model prog w) A (pyNext (.ref it)) Q E s:=by
 have tp:=x.typeIs;obtain⟨o,es,ep,t,first,e1,e2,e3,e4,e5,e6⟩:=x;unfold pyNext;refine wHu (wpAny_attempt (wpAny_callSpecial?_slot (name:=Str.ofString "__next__") tp zA1 (wpAny_call_entry zA1 tp zDd ?_ (zDA _))));rw[zFg];refine wHu (wpAny_fieldsOf e5 rfl ?_);show wpAny _ _ (setEntries S >>= _) _ _ s;refine wHu (zDi e1 e2 e3 ?_);rw[wHD (by simp)];rcases e6 with ⟨b,⟨k,rfl⟩,rfl⟩ | ⟨b,b2,b3,b4,⟨k,rfl,b5⟩,rfl⟩ | ⟨T,ot,pl,n,rfl,f1,f2,f3,f4,f5,f6,rfl⟩
 ·show wpAny _ _ (setNext S k _ ep >>= _) _ _ s;refine wHu (zDY e1 e2 e3 b ?_);rw[Array.getElem?_eq_none (by rw[wHt];simp)];refine wHu (zJJ e5 λh1 q1 k1=>?_);exact zF5 hh λh' k'=>hQ h' λc ob hc q=>k' _ _ (k1.extBut _ _ hc q)
 ·show wpAny _ _ (setNext S k _ ep >>= _) _ _ s;refine wHu (zD3 e1 e2 e3 b b2 b3 b5 ?_);rw[Array.getElem?_eq_none (by rw[wHt];simp)];refine wHu (zJJ e5 λh1 q1 k1=>?_);exact zF5 hh λh' k'=>hQ h' λc ob hc q=>k' _ _ (k1.extBut _ _ hc q)
 show wpAny _ _ (seqItems? (.ref T) >>= _) _ _ s;refine wHu (wpAny_seqItems f3 f4 ?_);have g1:(pl.map λ(p:Nat)=>rawInt p).toArray[(((pl.map λp=>(es[p]?.map (·.2)).getD .none).length:Nat):Int).toNat]?=none:=by rw[wIs,List.getElem?_toArray,wIw (by simp)]
 show wpAny _ _ (match (pl.map λ(p:Nat)=>rawInt p).toArray[(((pl.map λp=>(es[p]?.map (·.2)).getD .none).length:Nat):Int).toNat]? with | some (.int place _)=>_ | some _=>_ | none=>_) _ _ s;rw[g1];refine wHu (zJL e5 λh0 q0 k0=>wHu (zJJ q0 λh1 q1 k1=>?_));exact zF5 hh λh' k'=>hQ h' λc ob hc q=>k' _ _ (k1.extBut _ _ hc (k0.extBut _ _ hc q))
def zNt {i:Nat} {Q:Value->Shared->Prop} (x:zEI w fp s.heap it S vs i) (h:Q (.ref it) s):wpAny (model prog w) A (pyIter (.ref it)) Q E s:=by refine wpAny_pyIter_slot x.typeIs zD5 (wpAny_call_entry zD5 x.typeIs zFY ?_ (zHi _));show wpAny _ _ (ret (.ref it)) _ _ s;exact wHx ⟨_,rfl,"set_iterator",_,x.typeIs,zA1.lookup,h⟩
def zL7 (hh:A.handled=none) (aH:S≠it) (hS:S∈fp) (hi:it∈fp):Walks prog w A it fp [it] vs.length (λi v=>vs[i]?=some v) (λi h=>zEI w fp h it S vs i) where
 sub:=λb hb=>by rw[wIM hb];exact hi
 frame:=λ_ _ _ x k=>x.frame hS hi k
 item:=λi s Q E lt x hQ=>zNu x aH hS hi (wHv lt) λh' x' k=>hQ _ h' s.toks (wHv lt) x' λb o hb q=>k b o (λe=>hb (by simp[e])) q
 done:=λs Q E x hQ=>zNv hh x λh' k=>hQ h' s.toks λb o hb q=>k b o (λe=>hb (by simp[e])) q
 self:=λ_ _ _ _ x h=>zNt x h
end
section
variable {prog:Program} {w:World} {A:Around} {E:Value->Shared->Prop} {s:Shared} {S:Addr}
def EsI.ints:∀{l:List (Int × Value)},EsI l->IntsAre (l.map (·.2)) (zDx l)
 | [],_=>.nil
 | e::l,h=>by obtain⟨_,tk,e2⟩:=h e (wIg ..);have h':EsI l:=λx hx=>h x (wHV _ hx);show IntsAre (e.2::l.map (·.2)) (numOf e.2::zDx l);rw[e2];exact .cons _ tk h'.ints
def zGL {l l':List (Int × Value)} (p:l.Perm l'):(zDx l).Perm (zDx l'):=p.map _
def zNG {es:Array (Int × Value)} {pl:List Nat} (p:pl.Perm (List.range es.size)):∃l:List (Int × Value),l.Perm es.toList/\(pl.map λp=>(es[p]?.map (·.2)).getD Value.none)=l.map (·.2):=by
 refine⟨pl.map λp=>es.getD p (0,.none),?_,?_⟩
 ·refine (p.map _).trans (List.Perm.of_eq ?_);refine List.ext_getElem (by simp) λi h1 h2=>?_;have hi:i < es.size:=by simpa using h1
  simp[hi]
 rw[List.map_map];refine List.map_congr_left λq hq=>?_;have:q < es.size:=List.mem_range.mp (p.mem_iff.mp hq);simp[this]
theorem zNl {a:Addr} {o:Obj} {es:Array (Int × Value)} {ep:Nat} {t:SetTable} {Q:Nat->Shared->Prop} (ho:s.heap.get? a=some o) (hd:o.data=.set es ep t) (hf:t.fits es.size=true) (h:Q es.size s) :
  wpAny (model prog w) A (Builtin.Frozenset.sizeOf a) Q E s:=by
 unfold Builtin.Frozenset.sizeOf;exact wHu (zDi ho hd hf (wHx h))
def zID {a:Addr} {o:Obj} {es:Array (Int × Value)} {ep:Nat} {t:SetTable} {Q:Bool->Shared->Prop} (ho:s.heap.get? a=some o) (hd:o.data=.set es ep t) (hf:t.fits es.size=true)
  (h:Q (!zBK w && (!t.plain && decide (es.size > 1))) s):wpAny (model prog w) A (setDrawn a) Q E s:=by
 rw[zHx];exact wHu (wpAny_setState_of ho hd hf (wHu (zCN (wHx h))))
def zOf (S:Addr):Builtin.«frozenset.__iter__» ⟨[.ref S],[]⟩=(do
 let n ← Builtin.Frozenset.sizeOf S
 let first ← if ← setDrawn S then newTuple ((← drawOrder n (List.range n)).map λ(i:Nat)=>rawInt i) else pure (rawInt 0)
 ret (← newFields "set_iterator" [first,rawInt 0,.ref S,rawInt n,rawInt (← setEpoch S)])):=rfl
def zMt {ks:List Int} {Q:Value->Shared->Prop} (x:zFc w s.heap S ks)
  (h:∀(h':Heap) d it vs ns fp,IntsAre vs ns->ns.Perm ks->zEI w fp h' it S vs 0->S∈fp->it∈fp->S≠it->(∀b∈fp,b < h'.objs.size)->(∀b∈fp,b=S∨s.heap.objs.size<=b)->(∀b o,s.heap.get? b=some o->h'.get? b=some o)->
   Q (.ref it) { s with heap:=h',drawn:=d }):wpAny (model prog w) A (pyIter (.ref S)) Q E s:=by
 obtain⟨o,es,ep,t,e1,e2,e3,e4,e5,e6,e7,e8,tab⟩:=x;have hT:s.TypeIs (.ref S) "set":=⟨o,e1,e2.1⟩;refine wpAny_pyIter_slot hT F.slot_set_iter (wpAny_call_entry F.slot_set_iter hT zFb ?_ (F.args_set_iter_1 _));rw[zOf];refine wHu (zNl e1 e3 e8 (wHu (zID e1 e3 e8 ?_)));have aE:=wHH e1;have plc:t.place.size=es.size:=by have:=e8;simp only[SetTable.fits,wHR,beq_iff_eq,decide_eq_true_eq] at this;exact this.1
 cases hb:zBK w with
 | true=>
  simp only[Bool.not_true,Bool.false_and,Bool.false_eq_true,if_false];refine wHu (wHx (wHu (wpAny_setEpoch_of e1 e3 e8 (wHu (wIj (wHx ⟨_,rfl,"set_iterator",_,⟨_,wHG _ rfl,rfl⟩,zA1.lookup,?_⟩))))));refine h _ s.drawn s.heap.objs.size ((pickOrder (w.params.setOrder S ep) es).toList.map (·.2)) _ [S,s.heap.objs.size] (EsI.ints (e4.perm (zEv _ _))) (e5 ▸ zGL (zEv _ _)) ?_ (by simp) (by simp) (wHO aE) (λb hb=>?_) (λb hb=>by
    simp only[wIb,wH1,or_false] at hb;rcases hb with rfl | rfl
    ·exact .inl rfl
    exact .inr (wHA _)) λb o q=>wHz _ q
  ·exact⟨o,es,ep,t,_,wHz _ e1,e3,e8,by rw[wHt,(zEv _ _).length_eq];simp,wHG _ rfl,.inl ⟨hb,⟨0,rfl⟩,rfl⟩⟩
  rw[wIk];simp only[wIb,wH1,or_false] at hb;rcases hb with rfl | rfl
  ·exact wIx aE
  exact wIv _
 | false=>
  simp only[Bool.not_false,Bool.true_and];cases hp:(!t.plain && decide (es.size > 1)) with
  | false=>
   simp only[Bool.false_eq_true,if_false];refine wHu (wHx (wHu (wpAny_setEpoch_of e1 e3 e8 (wHu (wIj (wHx ⟨_,rfl,"set_iterator",_,⟨_,wHG _ rfl,rfl⟩,zA1.lookup,?_⟩))))));have ris:zDM t.place.toList:=by
    cases aM:t.plain with
    | true=>exact (tab.rise aM).1
    | false=>
     rw[aM] at hp;have:es.size<=1:=by simpa using hp
     match hq:t.place.toList with
     | []=>exact List.Pairwise.nil
     | [a]=>exact List.pairwise_singleton _ _
     | a::b::r=>
      have:=congrArg List.length hq;simp at this;omega
   refine h _ s.drawn s.heap.objs.size (es.toList.map (·.2)) _ [S,s.heap.objs.size] (EsI.ints e4) (e5 ▸ List.Perm.refl _) ?_ (by simp) (by simp) (wHO aE) (λb hb=>?_) (λb hb=>by
    simp only[wIb,wH1,or_false] at hb;rcases hb with rfl | rfl
    ·exact .inl rfl
    exact .inr (wHA _)) λb o q=>wHz _ q
   ·exact⟨o,es,ep,t,_,wHz _ e1,e3,e8,by simp,wHG _ rfl,.inr (.inl ⟨hb,hp,by rw[tab.led,hb];rfl,ris,⟨0,rfl,zJl ris⟩,rfl⟩)⟩
   rw[wIk];simp only[wIb,wH1,or_false] at hb;rcases hb with rfl | rfl
   ·exact wIx aE
   exact wIv _
  | true=>
   simp only[if_true];refine wHu (zJx _ _ _ (by simp) λpl d aM=>?_);have pz:pl.length=es.size:=by rw[aM.length_eq,wIH]
   refine wHu (wpAny_newTuple ?_ (by rw[wHt,pz];exact wHI (wIC e7) ⋯));have z1:∀ob,(s.heap.push ob).objs.size=s.heap.objs.size+1:=λob=>wIk ..;have cF:=wHz ({ cls:=.type "tuple",data:=.seq (pl.map λ(i:Nat)=>rawInt i).toArray }:Obj) e1;refine wHu (wpAny_setEpoch_of cF e3 e8 (wHu (wIj (wHx ⟨_,rfl,"set_iterator",_,⟨_,wHG _ rfl,rfl⟩,zA1.lookup,?_⟩))));dsimp only;rw[z1];obtain⟨l,l1,l2⟩:=zNG aM;refine h _ d (s.heap.objs.size+1) (pl.map λp=>(es[p]?.map (·.2)).getD .none) (zDx l) [S,s.heap.objs.size,s.heap.objs.size+1] (l2 ▸ EsI.ints (e4.perm l1)) (e5 ▸ zGL l1) ?_ (by simp) (by simp) (wHO (wIx aE)) (λb hb=>?_) (λb hb=>by
    simp only[wIb,wH1,or_false] at hb;rcases hb with rfl | rfl | rfl
    ·exact .inl rfl
    ·exact .inr (wHA _)
    exact .inr (Nat.le_succ _)) λb o q=>wHz _ (wHz _ q)
   ·refine⟨o,es,ep,t,.ref s.heap.objs.size,wHz _ cF,e3,e8,by rw[wHt,pz],?_,.inr (.inr ⟨s.heap.objs.size,_,pl,0,rfl,by simp,wHO (wIv _),wHz _ (wHG _ rfl),rfl,pz,λp hp=>List.mem_range.mp (aM.mem_iff.mp hp),rfl⟩)⟩;rw[← z1 ({ cls:=.type "tuple",data:=.seq (pl.map λ(i:Nat)=>rawInt i).toArray }:Obj)];exact wHG _ rfl
   rw[wIk,z1];simp only[wIb,wH1,or_false] at hb;rcases hb with rfl | rfl | rfl
   ·exact wIx (wIx aE)
   ·exact wIx (wIv _)
   exact wIv _
end
def zHw:typeLookup (.type "set") "__len__"=pure (some (.builtin "set.__len__")):=F.slot_set_len.lookup
def zKH {vs:List Value} {aC:Array Value} (h:ItemsOf (λi v=>vs[i]?=some v) aC vs.length):aC.toList=vs:=by
 refine List.ext_getElem? λi=>?_;rw[wIz];rcases Nat.lt_or_ge i aC.size with q | q
 ·rw[h.2 i aC[i] (wIm q),wIm q]
 rw[Array.getElem?_eq_none q,wIw (by rw[← h.1];exact q)]
section
variable {prog:Program} {w:World} {A:Around} {E:Value->Shared->Prop} {s:Shared} {S:Addr}
set_option maxHeartbeats 3200000 in
theorem zHT {ks:List Int} {Q:List Value->Shared->Prop} (hh:A.handled=none) (x:zFc w s.heap S ks)
  (hQ:∀s' vs ns,IntsAre vs ns->ns.Perm ks->(∀b o,s.heap.get? b=some o->s'.heap.get? b=some o)->s'.gens=s.gens->s'.os=s.os->s.heap.objs.size<=s'.heap.objs.size->Q vs s'):wpAny (model prog w) A (collect (.ref S)) Q E s:=by
 have hS0:s.TypeIs (.ref S) "set":=let ⟨o,_,_,_,e,f,_⟩:=x;⟨o,e,f.1⟩;have aE:S < s.heap.objs.size:=let ⟨o,_,_,_,e,f,_⟩:=x;wHH e;have kY:ks.length < scanBound:=by obtain⟨_,es,_,_,_,_,_,_,e5,_,e7,_⟩:=x;rw[← e5];simpa [zDx] using e7
 unfold collect;refine wHu (wpAny_runValue (codeAny_builtin F.entry_proto_collect ?_));rw[Around.under_plainId F.plain_proto_collect _];show wpAny _ A.in1 (newList [] >>= λl=>again (.builtin "list.__iadd__" ⟨[l,.ref S],[]⟩)) _ _ s;refine wHu (wIj (wHx ⟨plainId_quiet F.plain_list_iadd _,codeAny_builtin F.entry_list_iadd ?_⟩));rw[Around.under_plainId F.plain_list_iadd _];show wpAny _ A.in1 (Builtin.List.listExtendWith (.ref s.heap.objs.size) (.ref S) (.ref s.heap.objs.size)) _ _ _;generalize hH:s.heap.push { cls:=.type "list",data:=.seq ([]:List Value).toArray }=H;have old:∀b o,s.heap.get? b=some o->H.get? b=some o:=λb o q=>hH ▸ wHz _ q;have hHs:H.objs.size=s.heap.objs.size+1:=by rw[← hH,wIk]
 have hL:H.get? s.heap.objs.size=some { cls:=.type "list",data:=.seq ([]:List Value).toArray }:=hH ▸ wHG _ rfl;have x1:zFc w H S ks:=x.at λo q=>old _ _ q;have hT:Shared.TypeIs { s with heap:=H } (.ref S) "set":=let ⟨o,e,f⟩:=hS0;⟨o,old _ _ e,f⟩;unfold Builtin.List.listExtendWith;refine wHu (wpAny_typeOf hT ?_);have h1:Builtin.List.listSameRef (.ref s.heap.objs.size) (.ref S)=false:=by show (s.heap.objs.size == S)=false;simp only[beq_eq_false_iff_ne];exact Ne.symm (wHO aE)
 have h2:(Value.type "set" == Value.type "list")=false:=by decide
 have h3:(Value.type "set" == Value.type "tuple")=false:=by decide
 simp only[h1,h2,h3,Bool.or_false,Bool.false_eq_true,if_false];refine wHu (zMt (w:=w) (s:={ s with heap:=H }) x1 λh2 d it vs ns fp i1 i2 i3 i4 i5 i6 i7 i8 i9=>?_);have eU:Shared.TypeIs { s with heap:=h2,drawn:=d } (.ref S) "set":=let ⟨o,e,f⟩:=hT;⟨o,i9 _ _ e,f⟩;refine wHu (wIn ?_);unfold Builtin.List.listLengthHint;refine wHu (wpAny_specialOf eU zHw ?_)
 wp_delta
 refine wHu (wpAny_isInstance (T:="set") (b:=true) eU (by rw[isSubtype_type];kernel_rfl) ?_);show wpAny _ A.in1 (typeOf (Value.ref S) >>= _) _ _ _;refine wHu (wpAny_typeOf eU (wHx ?_));rw[wHF ⋯];refine wHu (wpAny_rule ?_);have hL2:=i9 _ _ hL;show wpAny _ A.in1 ((updateSeq s.heap.objs.size (·.push .none) >>= λ_=>updateSeq s.heap.objs.size (·.pop)) >>= _) _ _ _;refine wHu (wHu (wpAny_updateSeq hL2 rfl ?_));have hL3:=wIc (Obj.mapSeq (·.push Value.none)) hL2 rfl;refine wpAny_updateSeq hL3 rfl ?_;have hL4:=wIc (Obj.mapSeq (·.pop)) hL3 rfl;have dP:s.heap.objs.size < H.objs.size:=by rw[hHs];exact wIv _
 have hLf:s.heap.objs.size∉fp:=λhm=>by
  rcases i8 _ hm with q | q
  ·exact absurd q (Ne.symm (wHO aE))
  exact absurd dP (Nat.not_lt.mpr q)
 have bO:ns.length=vs.length:=i1.length.symm;have l7:vs.length < scanBound:=by rw[← bO,i2.length_eq];exact kY
 have oth:∀b o,b≠s.heap.objs.size->h2.get? b=some o->((h2.update s.heap.objs.size (Obj.mapSeq (·.push Value.none))).update s.heap.objs.size (Obj.mapSeq (·.pop))).get? b=some o:=
  λb o hb e=>(wHN _ _ (Ne.symm hb)).trans ((wHN _ _ (Ne.symm hb)).trans e)
 dsimp only at hL4 ⊢;refine wHx ⟨plainId_quiet F.plain_extend_loop _,codeAny_extend_loopS (zL7 (vs:=vs) (A:=A.in1) hh i6 i4 i5).toS (wIC (wHT l7 ⋯)) _ hLf _ vs.length 0 _ _ _ rfl (wIp _)
  (i3.frame i4 i5 λb hb o e=>oth b o (λq=>hLf (q ▸ hb)) e) hL4 (ItemsOf.nil _) λs' acc' c' hm hS' mE=>?_⟩
 show wpAny _ A (load s.heap.objs.size >>= _) _ _ s';refine wHu (wpAny_load hS' ?_);have e:=zKH mE;refine wHx ?_;rw[e];refine hQ s' vs ns i1 i2 (λb o q=>?_) hm.gens hm.os (wIC (wHH hS'));have hb:=wHH q;refine hm.heap b o (λlQ=>?_) (oth b o (wHO hb) (i9 _ _ (old _ _ q)));rcases wIQ lQ with r | r
 ·exact absurd r (wHO hb)
 rw[wIM r] at hb;rcases i8 _ i5 with q | q
 ·exact i6 q.symm
 exact absurd (wHT dP q) (Nat.not_lt.mpr (wIC hb))
end
def zOV (w:World) (l:Addr) (ks:List Int):HO:=.ext λh=>zFc w h l ks
section
variable {X:Cx}
def Inv.drawn {pins:List (Addr × Obj)} {σ:List (Option V)} {H:Hp} {s s':Shared} (I:Inv X pins σ H s) (h:s'.heap=s.heap) (g:s'.gens=s.gens) (o:s'.os=s.os):Inv X pins σ H s':=by obtain⟨h1,g1,d1,t1,o1⟩:=s';obtain⟨h2,g2,d2,t2,o2⟩:=s;dsimp only at h g o;subst h;subst g;subst o;exact⟨I.ok,I.os,I.bare,I.base,I.loc,I.cell,I.free,I.freeC,I.pin,I.hok,I.len⟩
def zOU {P:Program} {w:World} {H:Hp} {h:Heap} {l:Addr} {ks:List Int} (x:zFc w h l ks):ObjOk P w H h l (zOV w l ks):=
 ⟨x,let ⟨o,_,_,_,e,_⟩:=x;⟨o,e⟩,λ_ _ y k=>y.at k⟩
def zLo (K:W.Frag) (hc:X.calm=true) (hK:X.K=K:=by rfl):zBp X (.type "set") (λxs H Q=>∃(p:Addr) (ns:List Int),xs=[.ref p]/\SqL K H p (ns.map V.int)/\ns.length+1 < 4096/\
  ∀(l:Addr) (ks:List Int),H l=none->(∀y,y∈ks↔y∈ns)->ks.Nodup->ks.length<=ns.length->Q (.ref l) (upd H l (zOV X.w l ks))):=by
 subst hK;intro pins s σ H xs us Q I r h;obtain⟨p,ns,rfl,hS,hb,q⟩:=h;obtain⟨u,rfl,ru⟩:=r.one;cases ru;obtain⟨its,rv,pl,hz⟩:=I.list hS;have hi:IntsAre its ns:=zBI rv;refine zM2 (w:=X.w) (ns:=ns) (I.ok.hd hc) pl.isList hi hb λh' tk ks g1 g2 g3 g4=>?_;have hl:H s.heap.objs.size=none:=I.hok.fresh (wHA _);exact⟨.ref s.heap.objs.size,_,I.laid (o:=zOV X.w s.heap.objs.size ks) (t':=tk) g4 (wHA _) (zOU g1),rfl,q _ ks hl g2 (let ⟨_,_,_,_,_,_,_,_,_,e6,_⟩:=g1;e6) g3⟩
def zIz:zRe X (zPX X.K):=by
 intro pins s σ H o i ov iv Q I ro ri h;obtain⟨p,xs,k,z,rfl,rfl,hq,he,q⟩:=h;cases ro;obtain⟨t,rfl⟩:=ri;obtain⟨its,r,pl,hz⟩:=I.list hq;obtain⟨j,h1,h2,h3,h4,h5⟩:=zGh he;obtain⟨w,ew,fe⟩:=r.get h2;have hl:=r.length;have hn:=zD8;by_cases h0:0<=k
 ·have hj:k.toNat=j:=by rw[seqIndex_of h0 h5] at h1;exact wHE h1
  exact wpAny_getItem_list pl.isList h0 ∅ (by rw[hj];simpa using ew) ⟨z,H,I,fe,q⟩
 have hj:(k+(its.toArray.size:Int)).toNat=j:=by rw[seqIndex_neg ∅ h4] at h1;rw[wHL,← hl];exact wHE h1
 exact wpAny_getItem_list_neg pl.isList ∅ (by rw[wHL]<;>omega) ∅ (by rw[hj];simpa using ew) ⟨z,H,I,fe,q⟩
end
def tab {α:Type} (n:Nat) (f:Nat->α):List α:=(List.range n).map f
section
variable {α:Type} {n:Nat} {f g:Nat->α}
def zBN:(tab n f).length=n:=by unfold tab;rw[wHt,wIH]
theorem zEb {i:Nat} (h:i < n):(tab n f)[i]?=some (f i):=by unfold tab;rw[wHB,List.getElem?_range h];rfl
def zDN {i:Nat} (h:¬i < n):(tab n f)[i]?=none:=wIw (by rw[zBN];omega)
def zIb {i:Nat} {x:α} (h:(tab n f)[i]?=some x):i < n/\x=f i:=by
 by_cases c:i < n
 ·rw[zEb c] at h;exact⟨c,(wHE h).symm⟩
 rw[zDN c] at h;cases h
def zEc (h:∀i,i < n->f i=g i):tab n f=tab n g:=by unfold tab;exact List.map_congr_left λi hi=>h i (List.mem_range.mp hi)
def zHq {i:Nat} {v:α}:(tab n f).set i v=tab n λj=>if j=i then v else f j:=by
 refine List.ext_getElem? λj=>?_;by_cases c:j < n
 ·rw[zEb c,List.getElem?_set,zEb c];by_cases e:i=j
  ·subst e;simp[zBN,c]
  rw[wHD e,wHD (Ne.symm e)]
 rw[zDN c,List.getElem?_set,zDN c];by_cases e:i=j
 ·subst e;simp[zBN,c]
 rw[wHD e]
theorem zJ9 {v:α}:List.replicate n v=tab n λ_=>v:=by
 refine List.ext_getElem? λj=>?_;by_cases c:j < n
 ·rw[zEb c,List.getElem?_replicate,wHF c]
 rw[zDN c,List.getElem?_replicate,wHD c]
theorem zQv {v:α}:∀k:Nat,(List.replicate k [v]).flatten=List.replicate k v
 | 0=>rfl
 | k+1=>by rw[wIr,wID,zQv k];rfl
def zIc:tab n f++[f n]=tab (n+1) f:=by unfold tab;rw[List.range_succ,wHC];rfl
end
def zIA {n:Nat} {f:Nat->V} {k:Int} (h0:0<=k) (h:k < n):atI (tab n f) k=some (f k.toNat):=zBE h0 (zEb ∅)
def zD1 {n:Nat} {f:Nat->V} {k:Nat} (h:k < n):atI (tab n f) (k:Int)=some (f k):=by rw[zIA ∅ ∅];rfl
def zDT {n:Nat} {f:Nat->V} {k:Nat} (h:k < n):ixN (tab n f).length (k:Int)=some k:=by rw[zBN,zMT ∅ ∅];rfl
def Sg (f:Nat->Int):Nat->Int
 | 0=>0
 | n+1=>Sg f n+f n
theorem zF0 {f g:Nat->Int}:∀{n:Nat},(∀i,i < n->f i=g i)->Sg f n=Sg g n
 | 0,_=>rfl
 | n+1,h=>by unfold Sg;rw[zF0 (n:=n) λi hi=>h i ∅,h n ∅]
theorem zLt {f:Nat->Int} {n:Nat} (h:∀i,i < n->f i=0):Sg f n=0:=by
 induction n with
 | zero=>rfl
 | succ n ih=>unfold Sg;rw[ih λi hi=>h i ∅,h n ∅];rfl
theorem zLu {f g:Nat->Int}:∀{n:Nat},Sg (λi=>f i-g i) n=Sg f n-Sg g n
 | 0=>rfl
 | n+1=>by unfold Sg;rw[zLu (n:=n)];omega
theorem zFz {c:Int} {f:Nat->Int}:∀{n:Nat},Sg (λi=>c*f i) n=c*Sg f n
 | 0=>by unfold Sg;rw[Int.mul_zero]
 | n+1=>by unfold Sg;rw[zFz (n:=n),Int.mul_add]
theorem zPV {f g:Nat->Int}:∀{n:Nat},(∀i,i < n->f i<=g i)->Sg f n<=Sg g n
 | 0,_=>wII _
 | n+1,h=>by have a:=zPV (n:=n) λi hi=>h i ∅;have b:=h n ∅;unfold Sg;omega
theorem zFy {f:Nat->Int} {p:Nat}:∀{n:Nat},p < n->Sg f n=f p+Sg (λi=>if i=p then 0 else f i) n
 | n+1,h=>by
  unfold Sg;by_cases c:p=n
  ·subst c;rw[wHF rfl,zF0 (f:=f) (g:=λi=>if i=p then 0 else f i) λi hi=>by rw[wHD ∅]];omega
  have hp:p < n:=by omega
  rw[zFy hp,wHD (Ne.symm c)];omega
abbrev Wys:=List (Nat × Nat × Int)
def wg (ws:Wys) (k:Nat):Nat:=(ws.getD k (0,0,0)).1
def wt (ws:Wys) (k:Nat):Nat:=(ws.getD k (0,0,0)).2.1
def wp (ws:Wys) (k:Nat):Int:=(ws.getD k (0,0,0)).2.2
def zBr (ws:Wys) (i h:Nat):Int:=Sg (λk=>if wg ws k=h then wp ws k else 0) i
def keeps (ws:Wys) (h:Nat):Int:=1000-zBr ws ws.length h
structure WyOk (n:Nat) (ws:Wys):Prop where
 g:∀k,k < ws.length->wg ws k < n
 t:∀k,k < ws.length->wt ws k < n
 d:∀k,k < ws.length->wg ws k≠wt ws k
 p:∀k,k < ws.length->1<=wp ws k/\wp ws k<=1000
 o:∀h,zBr ws ws.length h<=1000
structure WyAt (K:W.Frag) (H:Hp) (r:Addr) (rs:List V) (ws:Wys):Prop where
 sq:SqL K H r rs
 len:rs.length=ws.length
 at_:∀k,k < ws.length->∃q,rs[k]?=some (.ref q)/\H q=some (.tup [.int (wg ws k:Nat),.int (wt ws k:Nat),.int (wp ws k)])
def WyAt.mono {K:W.Frag} {H H':Hp} {r:Addr} {rs:List V} {ws:Wys} (h:WyAt K H r rs ws) (s:zAi H H'):WyAt K H' r rs ws:=
 ⟨s.seq h.sq,h.len,λk hk=>let ⟨q,e1,e2⟩:=h.at_ k hk;⟨q,e1,s _ _ e2⟩⟩
def zCA {ws:Wys} {w:Nat × Nat × Int} {k:Nat} (h:k < ws.length):(ws++[w]).getD k (0,0,0)=ws.getD k (0,0,0):=by rw[wHw,wHw,wHJ h]
theorem zCB {ws:Wys} {w:Nat × Nat × Int}:(ws++[w]).getD ws.length (0,0,0)=w:=by rw[wHw,wHK (wHA _),Nat.sub_self];rfl
def zIW {ws:Wys} {w:Nat × Nat × Int} {h:Nat}:zBr (ws++[w]) (ws.length+1) h=zBr ws ws.length h+if w.1=h then w.2.2 else 0:=by unfold zBr;show Sg _ ws.length+_=_;rw[zF0 (g:=λk=>if wg ws k=h then wp ws k else 0) λi hi=>by unfold wg wp;rw[zCA hi]];show _+(if ((ws++[w]).getD ws.length (0,0,0)).1=h then ((ws++[w]).getD ws.length (0,0,0)).2.2 else 0)=_;rw[zCB]
theorem WyOk.nil (n:Nat):WyOk n []:=⟨λk h=>absurd h (wIy _),λk h=>absurd h (wIy _),λk h=>absurd h (wIy _),λk h=>absurd h (wIy _),λh=>by show (0:Int)<=1000;decide⟩
def WyOk.snoc {n:Nat} {ws:Wys} {g t:Nat} {p:Int} (h:WyOk n ws) (h1:g < n) (h2:t < n) (h3:g≠t) (h4:1<=p) (h5:p<=1000-zBr ws ws.length g) (h6:p<=1000):WyOk n (ws++[(g,t,p)]):=by
 have L:(ws++[(g,t,p)]).length=ws.length+1:=by rw[wHy];rfl
 have iT:∀{P:Nat × Nat × Int->Prop},(∀k,k < ws.length->P (ws.getD k (0,0,0)))->P (g,t,p)->∀k,k < (ws++[(g,t,p)]).length->P ((ws++[(g,t,p)]).getD k (0,0,0)):=by
  intro P a b k hk;by_cases c:k < ws.length
  ·rw[zCA c];exact a k c
  have:k=ws.length:=by omega
  subst this;rw[zCB];exact b
 refine⟨iT (P:=λw=>w.1 < n) h.g h1,iT (P:=λw=>w.2.1 < n) h.t h2,iT (P:=λw=>w.1≠w.2.1) h.d h3,iT (P:=λw=>1<=w.2.2/\w.2.2<=1000) h.p ⟨h4,h6⟩,λx=>?_⟩;rw[L,zIW];have:=h.o x;show _+(if g=x then p else 0)<=1000;by_cases c:g=x
 ·subst c;rw[wHF rfl];omega
 rw[wHD c];omega
def WyAt.snoc {K:W.Frag} {H H':Hp} {r q:Addr} {rs:List V} {ws:Wys} {g t:Nat} {p:Int} (h:WyAt K H r rs ws) (s:∀b xs,H b=some (.tup xs)->H' b=some (.tup xs)) (e:H' r=some (.lst (rs++[.ref q]))) (e2:H' q=some (.tup [.int (g:Nat),.int (t:Nat),.int p])) :
  WyAt K H' r (rs++[.ref q]) (ws++[(g,t,p)]):=by
 refine⟨SqL.of e,by rw[wHy,wHy,h.len];rfl,λk hk=>?_⟩;by_cases c:k < ws.length
 ·obtain⟨q',a,b⟩:=h.at_ k c;refine⟨q',by rw[wHJ (by rw[h.len];exact c)];exact a,?_⟩;unfold wg wt wp;rw[zCA c];exact s _ _ b
 have:k=ws.length:=by rw[wHy] at hk;simp at hk;omega
 subst this;refine⟨q,by rw[wHK (by rw[h.len];exact wHA _),h.len,Nat.sub_self];rfl,?_⟩;unfold wg wt wp;rw[zCB];exact e2
inductive Rch (m:Nat) (a b:Nat->Nat) (mk:Nat->Bool):Nat->Prop
 | base {j:Nat}:mk j=true->Rch m a b mk j
 | step {k:Nat}:k < m->Rch m a b mk (a k)->Rch m a b mk (b k)
def zCk (a b:Nat->Nat) (mk:Nat->Bool):Nat->Nat->Bool
 | 0=>mk
 | i+1=>if zCk a b mk i (a i)=true then λj=>if j=b i then true else zCk a b mk i j else zCk a b mk i
def trn (m:Nat) (a b:Nat->Nat) (mk:Nat->Bool):Nat->Nat->Bool
 | 0=>mk
 | t+1=>zCk a b (trn m a b mk t) m
section
variable {m n:Nat} {a b:Nat->Nat} {mk:Nat->Bool}
theorem zCj {j:Nat} (h:mk j=true):∀i,zCk a b mk i j=true
 | 0=>h
 | i+1=>by
  have:=zCj h i;unfold zCk;split
  ·show (if j=b i then true else zCk a b mk i j)=true
   split
   ·rfl
   exact this
  exact this
def zNw {j:Nat} {i:Nat} (h:zCk a b mk i j=true):zCk a b mk (i+1) j=true:=by
 show (if zCk a b mk i (a i)=true then λj=>if j=b i then true else zCk a b mk i j else zCk a b mk i) j=true
 split
 ·show (if j=b i then true else zCk a b mk i j)=true
  split
  ·rfl
  exact h
 exact h
theorem zJE {j:Nat} {i:Nat} (h:zCk a b mk i j=true):∀d,zCk a b mk (i+d) j=true
 | 0=>h
 | d+1=>zNw (zJE h d)
def zL9 {k:Nat} (hk:k < m) (h:mk (a k)=true):zCk a b mk m (b k)=true:=by
 have e:zCk a b mk (k+1) (b k)=true:=by show (if zCk a b mk k (a k)=true then λj=>if j=b k then true else zCk a b mk k j else zCk a b mk k) (b k)=true;rw[wHF (zCj h k)];show (if b k=b k then true else _)=true;rw[wHF rfl]
 have:=zJE e (m-(k+1))
 rwa [show k+1+(m-(k+1))=m by omega] at this
theorem zDl {R:Nat->Prop} (h0:∀j,mk j=true->R j) (hs:∀k,k < m->R (a k)->R (b k)):∀i,i<=m->∀j,zCk a b mk i j=true->R j
 | 0,_,j,h=>h0 j h
 | i+1,hi,j,h=>by
  have ih:=zDl h0 hs i ∅;unfold zCk at h
  split at h
  ·rename_i c
   have h':(if j=b i then true else zCk a b mk i j)=true:=h
   split at h'
   ·rename_i e;rw[e];exact hs i ∅ (ih _ c)
   exact ih j h'
  exact ih j h
theorem zGr:∀t j,trn m a b mk t j=true->Rch m a b mk j
 | 0,j,h=>.base h
 | t+1,j,h=>zDl (R:=Rch m a b mk) (λj h=>zGr t j h) (λk hk h=>.step hk h) m (wHA _) j h
def Clo (m:Nat) (a b:Nat->Nat) (f:Nat->Bool):Prop:=∀k,k < m->f (a k)=true->f (b k)=true
def cnt (f:Nat->Bool):Nat->Nat
 | 0=>0
 | n+1=>cnt f n+if f n=true then 1 else 0
theorem zI6 (f:Nat->Bool):∀n,cnt f n<=n
 | 0=>wHA _
 | n+1=>by have:=zI6 f n;unfold cnt;split<;>omega
theorem zLg {f:Nat->Bool}:∀{n:Nat},n<=cnt f n->∀j,j < n->f j=true
 | n+1,h,j,hj=>by
  have:=zI6 f n;unfold cnt at h
  split at h
  ·rename_i c
   by_cases e:j=n
   ·rw[e];exact c
   exact zLg (n:=n) ∅ j ∅
  omega
theorem zGe {f g:Nat->Bool} (h:∀j,f j=true->g j=true):∀n,cnt f n<=cnt g n
 | 0=>wHA _
 | n+1=>by
  have:=zGe h n;unfold cnt;by_cases c:f n=true
  ·rw[wHF c,wHF (h n c)];omega
  rw[wHD c];split<;>omega
theorem zGd {f g:Nat->Bool} {j:Nat} (h:∀j,f j=true->g j=true) (h1:¬f j=true) (h2:g j=true):∀{n:Nat},j < n->cnt f n+1<=cnt g n
 | n+1,hj=>by
  unfold cnt;by_cases e:j=n
  ·have:=zGe h n;rw[← e] at *;rw[wHD h1,wHF h2];omega
  have ih:=zGd h h1 h2 (n:=n) ∅;by_cases c:f n=true
  ·rw[wHF c,wHF (h n c)];omega
  rw[wHD c];split<;>omega
def zMz {f:Nat->Bool} (h:Clo m a b f):∀j,zCk a b f m j=true->f j=true:=λj q=>zDl (R:=λj=>f j=true) (λ_ z=>z) h m (wHA _) j q
theorem zIa (hb:∀k,k < m->b k < n):∀t,Clo m a b (trn m a b mk t)∨t<=cnt (trn m a b mk t) n
 | 0=>.inr (wIp _)
 | t+1=>by
  by_cases c:Clo m a b (trn m a b mk t)
  ·refine .inl λk hk h=>?_;exact zCj (c k hk (zMz c _ h)) m
  rcases zIa hb t with z | z
  ·exact absurd z c
  have:∃k,k < m/\trn m a b mk t (a k)=true/\¬trn m a b mk t (b k)=true:=by refine wIt λno=>c λk hk h=>wIt λq=>no ⟨k,hk,h,q⟩
  obtain⟨k,hk,h1,h2⟩:=this;have:=zGd (f:=trn m a b mk t) (g:=trn m a b mk (t+1)) (λj h=>zCj h m) h2 (zL9 hk h1) (hb k hk);exact .inr ∅
def zNp (ha:∀k,k < m->a k < n) (hb:∀k,k < m->b k < n):Clo m a b (trn m a b mk n):=by
 rcases zIa (mk:=mk) (a:=a) hb n with z | z
 ·exact z
 exact λk hk _=>zLg z _ (hb k hk)
def zOF {j t:Nat} (h:mk j=true):trn m a b mk t j=true:=by
 induction t with
 | zero=>exact h
 | succ t ih=>exact zCj ih m
def zNo (ha:∀k,k < m->a k < n) (hb:∀k,k < m->b k < n) {j:Nat}:trn m a b mk n j=true↔Rch m a b mk j:=by
 refine⟨zGr n j,λh=>?_⟩
 induction h with
 | base h=>exact zOF h
 | step hk _ ih=>exact zNp ha hb _ hk ih
end
def plc (f:Nat->Bool):Nat->List Int
 | 0=>[]
 | n+1=>if f n=true then plc f n++[(n:Int)] else plc f n
theorem zCI (f:Nat->Bool):∀n,(plc f n).length<=n
 | 0=>wHA _
 | n+1=>by
  have:=zCI f n;unfold plc;split
  ·rw[wHy];simp;omega
  omega
theorem zCf {f:Nat->Bool} {z:Int}:∀{n:Nat},z∈plc f n↔∃j:Nat,j < n/\f j=true/\z=(j:Int)
 | 0=>⟨λh=>(by cases h),λ⟨j,h,_⟩=>absurd h (wIy _)⟩
 | n+1=>by
  unfold plc
  split
  ·rename_i c
   rw[List.mem_append,zCf (n:=n),List.mem_singleton];constructor
   ·rintro (⟨j,h1,h2⟩ | h)
    ·exact⟨j,by omega,h2⟩
    exact⟨n,by omega,c,h⟩
   rintro⟨j,h1,h2,h3⟩;by_cases e:j=n
   ·exact .inr (by rw[h3,e])
   exact .inl ⟨j,by omega,h2,h3⟩
  rename_i c
  rw[zCf (n:=n)];constructor
  ·rintro⟨j,h1,h2⟩;exact⟨j,by omega,h2⟩
  rintro⟨j,h1,h2,h3⟩;refine⟨j,?_,h2,h3⟩;by_cases e:j=n
  ·rw[e] at h2;exact absurd h2 c
  omega
theorem zG7 {f g:Nat->Bool}:∀{n:Nat},(∀j,j < n->(f j=true↔g j=true))->plc f n=plc g n
 | 0,_=>rfl
 | n+1,h=>by
  unfold plc;rw[zG7 (n:=n) λj hj=>h j ∅];by_cases c:f n=true
  ·rw[wHF c,wHF ((h n ∅).mp c)]
  rw[wHD c,wHD λz=>c ((h n ∅).mpr z)]
structure PrAt (K:W.Frag) (H:Hp) (r:Addr) (rs:List V) (m:Nat) (a b:Nat->Nat):Prop where
 sq:SqL K H r rs
 len:rs.length=m
 at_:∀k,k < m->∃q,rs[k]?=some (.ref q)/\H q=some (.tup [.int (a k:Nat),.int (b k:Nat)])
def PrAt.mono {K:W.Frag} {H H':Hp} {r:Addr} {rs:List V} {m:Nat} {a b:Nat->Nat} (h:PrAt K H r rs m a b) (s:zAi H H'):PrAt K H' r rs m a b:=
 ⟨s.seq h.sq,h.len,λk hk=>let ⟨q,e1,e2⟩:=h.at_ k hk;⟨q,e1,s _ _ e2⟩⟩
def PrAt.snoc {K:W.Frag} {H H':Hp} {r q:Addr} {rs:List V} {m:Nat} {a b:Nat->Nat} (h:PrAt K H r rs m a b) (s:∀b xs,H b=some (.tup xs)->H' b=some (.tup xs)) (e:H' r=some (.lst (rs++[.ref q]))) (e2:H' q=some (.tup [.int (a m:Nat),.int (b m:Nat)])) :
  PrAt K H' r (rs++[.ref q]) (m+1) a b:=by
 refine⟨SqL.of e,by rw[wHy,h.len];rfl,λk hk=>?_⟩;by_cases c:k < m
 ·obtain⟨q',x,y⟩:=h.at_ k c;exact⟨q',by rw[wHJ (by rw[h.len];exact c)];exact x,s _ _ y⟩
 have:k=m:=by omega
 subst this;exact⟨q,by rw[wHK (by rw[h.len];exact wHA _),h.len,Nat.sub_self];rfl,e2⟩
def zOR {c b:Int} (hc:0 < c) (h:c*b<=0):b<=0:=by
 rcases Int.lt_or_le 0 b with z | z
 ·have:=Int.mul_pos hc z;omega
 exact z
def zOT {c b:Int} (hc:0 < c) (h:0<=c*b):0<=b:=by
 rcases Int.lt_or_le b 0 with z | z
 ·have:=Int.mul_neg_of_pos_of_neg hc z;omega
 exact z
def zOS {c b:Int} (hc:0 < c) (h:0 < c*b):0 < b:=by
 rcases Int.lt_or_le 0 b with z | z
 ·exact z
 have:=Int.mul_nonpos_of_nonneg_of_nonpos (wIK hc) z;omega
def zMF {c a b:Int} (hc:0 < c) (h:c*a=c*b):a=b:=Int.eq_of_mul_eq_mul_left ∅ h
def zP0 {a b:Int} (ha:0<=a) (hb:0<=b):0<=a*b:=Int.mul_nonneg ha hb
def zK5 {a b:Int} (ha:0<=a) (hb:b<=0):a*b<=0:=Int.mul_nonpos_of_nonneg_of_nonpos ha hb
def zPz {a b:Int} (ha:a<=0) (hb:b<=0):0<=a*b:=by have:=Int.mul_nonneg (a:=-a) (b:=-b) ∅ ∅;rw[Int.neg_mul_neg] at this;exact this
def zQL {f:Nat->Int} {n:Nat} (h:∀i,i < n->f i<=0):Sg f n<=0:=by have:=zPV (g:=λ_=>0) h;rw[zLt (f:=λ_=>0) λ_ _=>rfl] at this;exact this
abbrev Mx:=Nat->Nat->Int
structure Good (n k:Nat) (A:Mx):Prop where
 off:∀i j,i < n->j < n->i≠j->A i j<=0
 rhs:∀i,i < n->0<=A i n
 zero:∀i j,i < n->j < k->i≠j->A i j=0
 cert:∃y:Nat->Int,(∀i,i < n->0 < y i)/\∀j,j < n->0 < Sg (λi=>y i*A i j) n
section
variable {n k p:Nat} {A B:Mx} {c x:Nat->Int} {l:Int}
def Good.piv (h:Good n k A) (hp:p < n):0 < A p p:=by
 obtain⟨y,y0,ys⟩:=h.cert;have h1:=ys p hp;rw[zFy hp] at h1;have h2:Sg (λi=>if i=p then 0 else y i*A i p) n<=0:=zQL λi hi=>by
  show (if i=p then 0 else y i*A i p)<=0;by_cases e:i=p
  ·rw[wHF e];exact wII _
  rw[wHD e];exact zK5 (wIK (y0 i hi)) (h.off i p hi hp e)
 exact zOS (y0 p hp) ∅
structure Stp (n p:Nat) (A B:Mx) (c:Nat->Int):Prop where
 own:∀j,j<=n->B p j=A p j
 pos:∀i,i < n->i≠p->0 < c i
 eq:∀i j,i < n->i≠p->j<=n->c i*B i j=A p p*A i j-A i p*A p j
def Good.step (h:Good n p A) (hp:p < n) (s:Stp n p A B c):Good n (p+1) B:=by
 have pv:=h.piv hp;refine⟨λi j hi hj ne=>?_,λi hi=>?_,λi j hi hj ne=>?_,?_⟩
 ·by_cases e:i=p
  ·subst e;rw[s.own j ∅];exact h.off _ _ hi hj ne
  refine zOR (s.pos i hi e) ?_;rw[s.eq i j hi e ∅];by_cases e2:j=p
  ·subst e2;rw[Int.mul_comm (A j j)];omega
  have a1:=zK5 (wIK pv) (h.off i j hi hj ne);have a2:=zPz (h.off i p hi hp e) (h.off p j hp hj (Ne.symm e2));omega
 ·by_cases e:i=p
  ·subst e;rw[s.own n (wHA _)];exact h.rhs _ hi
  refine zOT (s.pos i hi e) ?_;rw[s.eq i n hi e (wHA _)];have a1:=zP0 (wIK pv) (h.rhs i hi);have a2:=zK5 (h.rhs p hp) (h.off i p hi hp e);rw[Int.mul_comm] at a2;omega
 ·have hjn:j < n:=by omega
  by_cases e:i=p
  ·subst e;rw[s.own j ∅];exact h.zero _ _ hi ∅ ne
  refine zMF (s.pos i hi e) ?_;rw[s.eq i j hi e ∅,Int.mul_zero];by_cases e2:j=p
  ·subst e2;rw[Int.mul_comm (A j j)];omega
  rw[h.zero i j hi ∅ ne,h.zero p j hp ∅ (Ne.symm e2)];simp
 obtain⟨y,y0,ys⟩:=h.cert;refine⟨λi=>if i=p then Sg (λi=>y i*A i p) n else y i*c i,λi hi=>?_,λj hj=>?_⟩
 ·show 0 < (if i=p then _ else _);by_cases e:i=p
  ·rw[wHF e];exact ys p hp
  rw[wHD e];exact Int.mul_pos (y0 i hi) (s.pos i hi e)
 have e1:Sg (λi=>(if i=p then Sg (λi=>y i*A i p) n else y i*c i)*B i j) n=A p p*Sg (λi=>y i*A i j) n:=by
  rw[zFy hp,wHF rfl,s.own j ∅,zFy (f:=λi=>y i*A i p) hp,zFy (f:=λi=>y i*A i j) hp];have e2:Sg (λi=>if i=p then 0 else (if i=p then y p*A p p+Sg (λi=>if i=p then 0 else y i*A i p) n else y i*c i)*B i j) n =
    Sg (λi=>A p p*(if i=p then 0 else y i*A i j)-A p j*(if i=p then 0 else y i*A i p)) n:=zF0 λi hi=>by
   show (if i=p then 0 else _)=_;by_cases e:i=p
   ·rw[wHF e,wHF e,wHF e];simp
   rw[wHD e,wHD e,wHD e,wHD e,Int.mul_assoc,s.eq i j hi e ∅]
   grind
  rw[e2,zLu,zFz,zFz]
  grind
 rw[e1];exact Int.mul_pos pv (ys j hj)
def Sol (n:Nat) (A:Mx) (x:Nat->Int) (l:Int):Prop:=∀i,i < n->Sg (λj=>A i j*x j) n=A i n*l
def Stp.sums (s:Stp n p A B c) {i:Nat} (hi:i < n) (e:i≠p):c i*Sg (λj=>B i j*x j) n=A p p*Sg (λj=>A i j*x j) n-A i p*Sg (λj=>A p j*x j) n:=by
 rw[← zFz,← zFz,← zFz,← zLu];refine zF0 λj hj=>?_;rw[← Int.mul_assoc,s.eq i j hi e ∅]
 grind
def Stp.owns (s:Stp n p A B c):Sg (λj=>B p j*x j) n=Sg (λj=>A p j*x j) n:=zF0 λj hj=>by rw[s.own j ∅]
theorem Stp.back (s:Stp n p A B c) (pv:0 < A p p) (hp:p < n) (h:Sol n B x l):Sol n A x l:=by
 have hpp:Sg (λj=>A p j*x j) n=A p n*l:=by rw[← s.owns,h p hp,s.own n (wHA _)]
 intro i hi;by_cases e:i=p
 ·rw[e];exact hpp
 have h1:=s.sums (x:=x) hi e;have h2:=s.eq i n hi e (wHA _);rw[h i hi,hpp] at h1;refine zMF pv ?_;have h3:c i*(B i n*l)=c i*B i n*l:=by rw[Int.mul_assoc]
 rw[h3,h2] at h1
 grind
def Good.last (h:Good n n A) {i:Nat} (hi:i < n):Sg (λj=>A i j*x j) n=A i i*x i:=by
 rw[zFy hi,zLt (f:=λj=>if j=i then 0 else A i j*x j) λj hj=>by
  show (if j=i then 0 else _)=_;by_cases e:j=i
  ·rw[wHF e]
  rw[wHD e,h.zero i j hi hj (Ne.symm e)];simp]
 omega
end
def Bt (k:Nat) (i:Int):Prop:=i.natAbs < 2 ^ k
def Bt.mono {j k:Nat} {i:Int} (h:Bt j i) (e:j<=k):Bt k i:=wHT h (Nat.pow_le_pow_right ⋯ e)
def Bt.mul {j k:Nat} {a b:Int} (h:Bt j a) (h':Bt k b):Bt (j+k) (a*b):=by unfold Bt at *;rw[wIJ,Nat.pow_add];exact Nat.mul_lt_mul'' h h'
def Bt.sub {k:Nat} {a b:Int} (h:Bt k a) (h':Bt k b):Bt (k+1) (a-b):=by unfold Bt at *;rw[Nat.pow_succ];omega
def Bt.small {k:Nat} {i:Int} (h:i.natAbs < 1024) (e:10<=k):Bt k i:=Bt.mono (j:=10) h e
structure MxAt (H:Hp) (r:Addr) (q:Nat->Addr) (n:Nat) (A:Mx):Prop where
 top:H r=some (.lst (tab n λi=>V.ref (q i)))
 row:∀i,i < n->H (q i)=some (.lst (tab (n+1) λj=>V.int (A i j)))
def MxAt.mono {H H':Hp} {r:Addr} {q:Nat->Addr} {n:Nat} {A:Mx} (h:MxAt H r q n A) (s:zAi H H'):MxAt H' r q n A:=⟨s _ _ h.top,λi hi=>s _ _ (h.row i hi)⟩
structure FrAt (H:Hp) (r:Addr) (q:Nat->Addr) (n:Nat) (x y:Nat->Int):Prop where
 top:H r=some (.lst (tab n λi=>V.ref (q i)))
 row:∀i,i < n->H (q i)=some (.tup [.int (x i),.int (y i)])
def FrAt.mono {H H':Hp} {r:Addr} {q:Nat->Addr} {n:Nat} {x y:Nat->Int} (h:FrAt H r q n x y) (s:zAi H H'):FrAt H' r q n x y:=⟨s _ _ h.top,λi hi=>s _ _ (h.row i hi)⟩
section
variable {n:Nat} {ws:Wys}
def zRC (n:Nat) (ws:Wys):Prop:=∀j,j < n->Rch ws.length (wt ws) (wg ws) (λj=>decide (0 < keeps ws j)) j
def zRw {P:Nat->Prop}:∀t,P t->∃s,s<=t/\P s/\∀r,r < s->¬P r
 | 0,h=>⟨0,wHA _,h,λr hr=>absurd hr (wIy _)⟩
 | t+1,h=>by
  by_cases c:∃s,s<=t/\P s
  ·obtain⟨s,h1,h2⟩:=c;clear h;have:∀m s,s<=m->P s->∃s',s'<=s/\P s'/\∀r,r < s'->¬P r:=by
    intro m
    induction m with
    | zero=>intro s hs ps;exact⟨s,wHA _,ps,λr hr=>by omega⟩
    | succ m ih=>
     intro s hs ps;by_cases d:∃r,r < s/\P r
     ·obtain⟨r,r1,r2⟩:=d;obtain⟨s',a,b,cc⟩:=ih r ∅ r2;exact⟨s',by omega,b,cc⟩
     exact⟨s,wHA _,ps,λr hr pr=>d ⟨r,hr,pr⟩⟩
   obtain⟨s',a,b,cc⟩:=this t s h1 h2;exact⟨s',by omega,b,cc⟩
  exact⟨t+1,wHA _,h,λr hr pr=>c ⟨r,by omega,pr⟩⟩
end
open PySem.W (KasT)
def AllK {α:Type} (n:Nat) (P:α->Prop):KasT α->Prop
 | .ret a=>P a
 | .ask i j k=>i < n/\j < n/\∀b,AllK n P (k b)
theorem AllK.bind {α β:Type} {n:Nat} {P:α->Prop} {R:β->Prop} {f:α->KasT β}:∀{t:KasT α},AllK n P t->(∀a,P a->AllK n R (f a))->AllK n R (t.bind f)
 | .ret a,h,k=>k a h
 | .ask i j g,⟨h1,h2,h3⟩,k=>⟨h1,h2,λb=>AllK.bind (h3 b) k⟩
theorem AllK.wp {α:Type} {n:Nat} {P:α->Prop} {cmp:Nat->Nat->(Bool->Shared->Prop)->Shared->Prop} {Q:α->Shared->Prop} {s:Shared} (hc:∀i j C,i < n->j < n->(∀b,C b s)->cmp i j C s) (hq:∀a,P a->Q a s):∀{t:KasT α},AllK n P t->KasT.kasWp cmp t Q s
 | .ret a,h=>hq a h
 | .ask i j g,⟨h1,h2,h3⟩=>hc i j _ h1 h2 λb=>AllK.wp hc hq (h3 b)
def Pm (n:Nat) (p:Array Nat):Prop:=p.toList.Perm (List.range n)
def Pm.lt {n:Nat} {p:Array Nat} (h:Pm n p) (hn:0 < n) (k:Nat):p.getD k 0 < n:=by
 rw[Array.getD_eq_getD_getElem?];cases e:p[k]? with
 | none=>exact hn
 | some x=>
  have:x∈p.toList:=by have:=Array.mem_of_getElem? e;exact Array.mem_toList_iff.mpr this
  exact List.mem_range.mp (h.mem_iff.mp this)
section
variable {n:Nat} (hn:0 < n)
include hn
end
section
variable {H:Hp}
def _root_.L2.ObjOk.there {P:Program} {w:World} {H:Hp} {h:Heap} {a:Addr} {o:HO} (x:ObjOk P w H h a o):∃u,h.get? a=some u:=by
 cases o with
 | lst xs=>obtain⟨_,_,_,_,e⟩:=x;exact⟨_,e⟩
 | tup xs=>obtain⟨_,_,_,p⟩:=x;obtain⟨o,e,_⟩:=p;exact⟨o,e⟩
 | dK kvs=>obtain⟨_,_,_,_,o,_,_,e,_⟩:=x;exact⟨_,e⟩
 | dT kvs=>obtain⟨_,_,_,_,o,_,_,e,_⟩:=x;exact⟨_,e⟩
 | set S n=>obtain⟨o,_,_,_,e,_⟩:=x;exact⟨_,e⟩
 | ins C dx fs=>obtain⟨_,_,_,e,_⟩:=x;exact⟨_,e⟩
 | own y=>obtain⟨_,e⟩:=x;exact⟨_,e⟩
 | xd fs=>obtain⟨_,⟨_,_,_,e,_⟩,_⟩:=x;exact⟨_,e⟩
 | rng lo hi=>obtain⟨_,_,_,e⟩:=x;exact⟨_,e⟩
 | frz ob u=>obtain⟨e,_⟩:=x;exact⟨_,e⟩
 | tbl ps=>exact⟨_,(show h.get? a=some _ from x)⟩
 | met f y=>exact⟨_,(show h.get? a=some _ from x)⟩
 | ext φ=>obtain⟨_,⟨_,e⟩,_⟩:=x;exact⟨_,e⟩
end
structure Ord (n:Nat) (sp:Nat->Nat):Prop where
 lt:∀k,k < n->sp k < n
 inj:∀k j,k < n->j < n->sp k=sp j->k=j
 sur:∀h,h < n->∃k,k < n/\sp k=h
def Ord.of {n:Nat} {π:List Nat} (h:π.Perm (List.range n)):Ord n (λk=>π.getD k 0):=by
 have hl:π.length=n:=by rw[h.length_eq,wIH]
 have hg:∀k (hk:k < n),π.getD k 0=π[k]:=λk hk=>by rw[wHw,wHv ∅];rfl
 refine⟨λk hk=>?_,λk j hk hj e=>?_,λx hx=>?_⟩
 ·show π.getD k 0 < n;rw[hg k hk];exact List.mem_range.mp (h.mem_iff.mp (wHZ _))
 ·have e':π.getD k 0=π.getD j 0:=e;rw[hg k hk,hg j hj] at e';exact (List.getElem_inj (h.nodup_iff.mpr List.nodup_range)).mp e'
 obtain⟨k,hk,ek⟩:=List.mem_iff_getElem.mp (h.mem_iff.mpr (List.mem_range.mpr hx));exact⟨k,by omega,by show π.getD k 0=x;rw[hg k ∅];exact ek⟩
def zK4 (z:Value):slotArgs "__next__" 0 ⟨[z],[]⟩=pure (z,[]):=rfl
def zNn {h:Heap} {z TI TO:Addr} {f0:Value} (e:IsZip h z TI TO f0) (x:Value):IsZip (h.update z (Obj.mapFields λv=>v.setIfInBounds 0 x)) z TI TO x:=by show (h.update z _).get? z=_;rw[wIc _ e rfl];rfl
def zOB {h:Heap} {z TI TO:Addr} {f0:Value} (e:IsZip h z TI TO f0):IsZip (h.update z (Obj.mapFields λv=>v.setIfInBounds 1 (.bool false))) z TI TO f0:=by show (h.update z _).get? z=_;rw[wIc _ e rfl];rfl
def tx (l:List Nat):Str:=⟨l.toArray⟩
def zAL (a b:List Nat):tx a++tx b=tx (a++b):=by show Str.mk (a.toArray++b.toArray)=Str.mk (a++b).toArray;simp
def zAI (l:List Nat):(tx l).length=l.length:=by show l.toArray.size=_;simp
def zAN (l:List Nat):(tx l).cps.toList=l:=by show l.toArray.toList=l;simp
def zFQ (x:Str):x=tx x.cps.toList:=by cases x;show Str.mk _=Str.mk _;simp
def zJ0 {a b:List Nat} (h:tx a=tx b):a=b:=by have:=congrArg (λs:Str=>s.cps.toList) h;simpa [zAN] using this
def zAC (x:Str):x.length=x.cps.toList.length:=by show x.cps.size=_;simp
def dg (m:Nat):List Nat:=(Nat.toDigits 10 m).map Char.toNat
def zCL (m:Nat):Str.ofString (toString ((m:Nat):Int))=tx (dg m):=by rw[zFQ (Str.ofString (toString ((m:Nat):Int))),PySem.W.KIN.signs_num];rfl
def zB3 {m:Nat} (h:m < 10):dg m=[48+m]:=by
 unfold dg;rw[Nat.toDigits_of_lt_base h]
 revert m
 decide
def zGa {m:Nat} (h:10<=m):dg m=dg (m / 10)++[48+m%10]:=by
 have e:m=10*(m / 10)+m%10:=by omega
 have p:0 < m / 10:=by omega
 have q:m%10 < 10:=by omega
 have:dg m=dg (m / 10)++dg (m%10):=by
  unfold dg
  conv=>lhs;rw[e]
  rw[← Nat.toDigits_append_toDigits ⋯ p q,wHC]
 rw[this,zB3 q]
theorem zPN {m:Nat} (h:0 < m):Str.ofString (toString (-((m:Nat):Int)))=tx (45::dg m):=by
 obtain⟨k,rfl⟩:∃k,m=k+1:=⟨m-1,by omega⟩;rw[zFQ (Str.ofString _),signs_ofString];have e:(toString (-((k+1:Nat):Int))).toList='-'::Nat.toDigits 10 (k+1):=by show ("-"++Nat.repr (k+1)).toList=_;rw[String.toList_append,Nat.toList_repr];rfl
 rw[e];rfl
def zPO (m:Nat):dg m≠[]:=by
 by_cases h:m < 10
 ·rw[zB3 h];intro z;cases z
 rw[zGa ∅];intro z;have:=congrArg List.length z;rw[wHy] at this;cases this
theorem zGX:∀(k m:Nat),m < 10 ^ (k+1)->(dg m).length<=k+1
 | 0,m,h=>by rw[zB3 ∅];exact wHA _
 | k+1,m,h=>by
  by_cases c:m < 10
  ·rw[zB3 c];exact Nat.le_add_left _ _
  rw[zGa ∅,wHy];have:=zGX k (m / 10) (by rw[Nat.pow_succ] at h;omega);show _+1<=_;omega
theorem zHR:∀(k m:Nat),m < 10 ^ (k+1)->∀c∈dg m,48<=c/\c<=57
 | 0,m,h=>by rw[zB3 ∅];intro c hc;rw[wIM hc];omega
 | k+1,m,h=>by
  by_cases c:m < 10
  ·rw[zB3 c];intro c hc;rw[wIM hc];omega
  rw[zGa ∅];intro c hc;rcases wIP hc with z | z
  ·exact zHR k (m / 10) (by rw[Nat.pow_succ] at h;omega) c z
  rw[wIM z];omega
def sz (n:Nat) (h:n<=16777216):n<=sizeLine:=by rw[sizeLine_eq];exact h
def Shw:V->Str->Prop
 | .int i,y=>i.natAbs.log2 < 1920/\y=Str.ofString (toString i)
 | .str z,y=>z.length<=sizeLine/\y=z
 | _,_=>False
abbrev TJ:=St->Hp->Str->(Str->Hp->Prop)->Prop
section
variable {X:Cx}
def PJ (X:Cx) (es:List Expr) (t:TJ):Prop:=
 ∀(pins:List (Addr × Obj)) (s:Shared) (σ:St) (H:Hp) (out:Str) (Q:Str->Hp->Prop),Inv X pins σ H s->t σ H out Q->
  wpAny (model X.prog X.w) X.A (joinParts out (evalEach es X.env)) (EP X pins σ λv H'=>∃y,v=.str y/\Q y H') X.xe s
def zR1:TJ:=λ_ H out Q=>out.length<=sizeLine/\Q out H
def zR2 (y:Str) (t:TJ):TJ:=λσ H out Q=>(out++y).length<=sizeLine/\t σ H (out++y) Q
inductive JVal (t:TJ) (out:Str) (Q:Str->Hp->Prop) (x:V) (σ:St) (H1:Hp):Prop
 | mk (y:_):Shw x y->((out++y).length<=sizeLine)->(t σ H1 (out++y) Q)->JVal t out Q x σ H1
def zRz (te:TE) (t:TJ):TJ:=λσ H out Q=>te σ H λx H1=>JVal t out Q x σ H1
def zB1:PJ X [] zR1:=λpins s σ H out Q I h=>joinParts_nil ⟨.str out,H,I.tok _,⟨_,rfl⟩,out,rfl,h.2⟩ h.1
def zAX {y:Str} {j pos} {es:List Expr} {t:TJ} (h:PJ X es t):PJ X (.Constant (.str y) j pos::es) (zR2 y t):=λpins s σ H out Q I hq=>
 joinParts_cons (Calls.Constant_str ⟨hq.1,h pins _ σ H (out++y) Q (I.tok _) hq.2⟩)
def zCv {e:Expr} {te:TE} {pos} {es:List Expr} {t:TJ} (he:PE X e te) (h:PJ X es t):PJ X (.FormattedValue e (-1) none pos::es) (zRz te t):=λpins s σ H out Q I hq=>by
 refine joinParts_cons (FormattedValue_plain (thn (he pins s σ H _ I hq) λv s1 aA=>?_));obtain⟨x,H1,I1,r1,y,sh,hz,q⟩:=aA;cases x<;>first
  | exact sh.elim
  | skip
 ·obtain⟨hl,rfl⟩:=sh;obtain⟨t1,rfl⟩:=r1;exact formatField_int_small hl ⟨hz,h pins _ σ H1 _ Q (I1.tok _) q⟩
 obtain⟨hl,rfl⟩:=sh;obtain⟨t1,rfl⟩:=r1;exact formatField_str (λt' tk=>⟨hz,h pins _ σ H1 _ Q (I1.tok _) q⟩) hl
def zQl (t:TJ):TE:=λσ H Q=>t σ H Str.empty λy H'=>Q (.str y) H'
def zAy {a b:Expr} {es:List Expr} {pos:Pos} {t:TJ} (h:PJ X (a::b::es) t):PE X (.JoinedStr (a::b::es) pos) (zQl t):=λpins s σ H Q I hq=>
 JoinedStr_many (thn (h pins s σ H _ _ I hq) λv s1 ⟨x,H1,I1,r1,y,e,q⟩=>⟨x,H1,I1,r1,by rw[e];exact q⟩)
theorem zHr:∀{xs:List Str} {us:List Value},zAv (xs.map V.str) us->StrsAre us xs
 | [],_,.nil=>.nil
 | x::xs,_,.cons ⟨t,e⟩ r=>by subst e;exact .cons x t (zHr r)
inductive RJoin (K:W.Frag) (x:V) (vs:List V) (H:Hp) (Q:VK):Prop
 | mk (sep:Str) (p:Addr) (xs:List Str):(x=.str sep)->(vs=[.ref p])->(SqL K H p (xs.map V.str))->((xs.map (·.length)).sum+xs.length*sep.length<=16777216)->(Q (.str (Str.join sep xs)) H)->RJoin K x vs H Q
def zPb (K:W.Frag):V->List V->Hp->VK->Prop:=λx vs H Q=>RJoin K x vs H Q
def zNW:MtR X "str.join" (zPb X.K):=by intro pins s σ H x xs v us Q I rx rs h;obtain⟨sep,p,ys,rfl,rfl,hq,hz,q⟩:=h;obtain⟨t,rfl⟩:=rx;obtain⟨u,rfl,r1⟩:=zAv.one rs;cases (show u=Value.ref p from r1);obtain⟨its,rv,pl,fh⟩:=I.list hq;refine join_list pl.isList (by simpa using zHr rv) hz λt' k=>⟨.str _,H,I.tok _,⟨_,rfl⟩,?_⟩;have e:Txt.join sep ys=Str.join sep ys:=StrLaws.glued_eq_join sep ys;rw[e];exact q
def zC2 (K:W.Frag) (h:X.K=K:=by rfl):MtR X "str.join" (zPb K):=by subst h;exact zNW
def zFm:OpR X (binaryOp .Mult) (λx y H Q=>∃z n,x=.str z/\y=.int n/\0<=n/\n<=1000/\z.length<=1000/\Q (.str (tx (List.replicate n.toNat z.cps.toList).flatten)) H):=by
 intro pins s σ H x y v u Q I rx ry h;obtain⟨z,n,rfl,rfl,n0,n1,hz,q⟩:=h;obtain⟨t,rfl⟩:=rx;obtain⟨t',rfl⟩:=ry;have hs:sizeLine=16777216:=sizeLine_eq;have em:Txt.mul z n=tx (List.replicate n.toNat z.cps.toList).flatten:=by
  unfold Txt.mul;by_cases c:n < 1
  ·rw[wHF c];have:n.toNat=0:=by omega
   rw[this];rfl
  rw[wHD c];by_cases d:(n == 1 || z.length == 0)=true
  ·rw[wHF d];rcases Bool.or_eq_true _ _ ▸ d with d | d
   ·have:n=1:=by simpa using d
    subst this;show z=tx ([z.cps.toList].flatten);rw[List.flatten_singleton];exact zFQ z
   have d:z.length=0:=by simpa using d
   have e:z.cps.toList=[]:=List.eq_nil_of_length_eq_zero (by rw[← zAC];exact d);rw[e]
   conv=>lhs;rw[zFQ z,e]
   congr 1
   generalize n.toNat=k
   induction k with
   | zero=>rfl
   | succ k ih=>rw[wIr,wID,← ih];rfl
  rw[wHD d];show Str.mk _=Str.mk _
  congr 1
  generalize n.toNat=k;have:∀(k:Nat) (aC:Array Nat),(List.replicate k z.cps).foldl (·++·) aC=aC++(List.replicate k z.cps.toList).flatten.toArray:=by
   intro k
   induction k with
   | zero=>intro aC;simp
   | succ k ih=>
    intro aC;rw[wIr,List.foldl_cons,ih,wIr,wID,Array.append_assoc]
    congr 1
    rw[← Array.toList_inj];simp
  rw[this];simp
 have b1:z.length*n.toNat<=1000*1000:=Nat.mul_le_mul hz ∅;refine SB.mul ⟨?_,λ_ _=>?_,λ_ _=>?_⟩ λt' k=>⟨.str _,H,I.tok _,⟨_,rfl⟩,by rw[em];exact q⟩
 ·have e1:decide (n < -(2 ^ 63:Int))=false:=wHX ∅;have e2:decide (n≥2 ^ 63)=false:=wHX ∅;rw[e1,e2];rfl
 ·rename_i c _
  intro z1;have b2:(1000:Int)*n<=2 ^ 63-1:=by omega
  have:(1000:Int)<=(2 ^ 63-1) / n:=Int.le_ediv_of_mul_le ∅ b2;omega
 unfold Builtin.Str.tooLong;exact wHX (by rw[hs];omega)
end
def jn (sep:List Nat):List (List Nat)->List Nat
 | []=>[]
 | [x]=>x
 | x::y::r=>x++sep++jn sep (y::r)
theorem zBB (sep:List Nat):∀ls:List (List Nat),Str.join (tx sep) (ls.map tx)=tx (jn sep ls)
 | []=>rfl
 | [x]=>rfl
 | x::y::r=>by show tx x++tx sep++Str.join (tx sep) ((y::r).map tx)=tx (x++sep++jn sep (y::r));rw[zBB sep (y::r),zAL,zAL]
theorem zIt (sep:List Nat) (B:Nat):∀(ls:List (List Nat)),(∀l∈ls,l.length<=B)->(jn sep ls).length<=ls.length*(B+sep.length)
 | [],_=>wIp _
 | [x],h=>by have:=h x (List.mem_singleton.mpr rfl);show x.length<=1*(B+sep.length);omega
 | x::y::r,h=>by have h1:=h x wIg;have h2:=zIt sep B (y::r) λl hl=>h l (wHV _ hl);show (x++sep++jn sep (y::r)).length<=(r.length+1+1)*(B+sep.length);have e:(y::r).length=r.length+1:=rfl;rw[e] at h2;rw[wHy,wHy,Nat.succ_mul (r.length+1)];omega
def vx (l:List Nat):V:=.str (tx l)
def zJz (ls:List (List Nat)):(ls.map tx).map V.str=ls.map vx:=by rw[List.map_map];rfl
def zOA {ls:List (List Nat)} {i:Nat} {x:V} (h:(ls.map vx)[i]?=some x):∃l,ls[i]?=some l/\x=vx l:=by
 rw[wHB] at h;cases e:ls[i]? with
 | none=>rw[e] at h;cases h
 | some l=>rw[e] at h;exact⟨l,rfl,(wHE h).symm⟩
def ofS (s:String):Str.ofString s=tx (s.toList.map Char.toNat):=by rw[zFQ (Str.ofString s),signs_ofString]
theorem zM6 {xs:List Nat} {k:Int} {v:Nat} (h0:0<=k) (h:xs[k.toNat]?=some v):atI xs k=some v:=by
 have ek:k=((k.toNat:Nat):Int):=by omega
 rw[ek];exact zCy h
def zD2 (h:Heap) (e T:Addr) (cls:Value) (dd:Option Addr) (fl:Value):Prop:=
 ∃oe vs oT ts,h.get? e=some oe/\oe.cls=cls/\oe.dict=dd/\oe.data=.fields vs/\vs[1]?=some (.ref T)/\vs[2]?=some .none/\T≠e/\h.get? T=some oT/\oT.data=.fields ts/\ts[3]?=some fl
structure Moved (fs ch:List Addr) (h h':Heap):Prop where
 keep:∀b o,b∉fs->b∉ch->h.get? b=some o->h'.get? b=some o
 slot:∀b o,b∉ch->h.get? b=some o->∃sl,h'.get? b=some { o with slots:=sl }
def Moved.refl {fs ch:List Addr} {h:Heap}:Moved fs ch h h:=⟨λ_ _ _ _ e=>e,λ_ o _ e=>⟨o.slots,e⟩⟩
def Moved.trans {fs ch:List Addr} {h h1 h2:Heap} (x:Moved fs ch h h1) (y:Moved fs ch h1 h2):Moved fs ch h h2:=
 ⟨λb o n m e=>y.keep b o n m (x.keep b o n m e),λb o m e=>let ⟨_,e1⟩:=x.slot b o m e;let ⟨sl,e2⟩:=y.slot b _ m e1;⟨sl,e2⟩⟩
def Moved.mono {fs ch dH ch':List Addr} {h h':Heap} (x:Moved fs ch h h') (a:∀b∈fs,b∈dH) (c:∀b∈ch,b∈ch'):Moved dH ch' h h':=
 ⟨λb o n m e=>x.keep b o (λz=>n (a b z)) (λz=>m (c b z)) e,λb o m e=>x.slot b o (λz=>m (c b z)) e⟩
def Moved.upd1 {h:Heap} {a:Addr} {f:Obj->Obj}:Moved [] [a] h (h.update a f):=by have k:∀b,b∉[a]->(h.update a f).get? b=h.get? b:=λb n=>wHN _ _ λz=>n (by rw[z];exact List.mem_singleton.mpr rfl);exact⟨λb o _ n e=>(k b n).trans e,λb o n e=>⟨o.slots,(k b n).trans e⟩⟩
def Moved.push {h:Heap} {o:Obj}:Moved [] [] h (h.push o):=⟨λb u _ _ e=>wHz _ e,λb u _ e=>⟨u.slots,wHz _ e⟩⟩
def Moved.slots {S:List Addr} {h h':Heap} (x:Heap.SlotsOnly S h h'):Moved S [] h h':=⟨λb o n _ e=>(x.2.1 b n).trans e,λb o _ e=>x.2.2 b o e⟩
def FunFrames.moved {base h h':Heap} {ch:List Addr} {fs:List Addr} {l:List Env} (x:h.FunFrames base l) (m:Moved fs ch h h') (hc:∀b∈ch,∀o,h.get? b=some o->∃vs,o.data=.fields vs):h'.FunFrames base l:=
 x.of_keeps λb o e hn=>by obtain⟨sl,q⟩:=m.slot b o (λz=>let ⟨vs,hv⟩:=hc b z o e;hn vs hv) e;exact⟨_,q,rfl⟩
section
variable {M:Model} {A:Around} {E:Value->Shared->Prop} {s:Shared} {base:Heap} {env:Env} {outer:List Env} {L e:Addr} {Q:Unit->Shared->Prop}
def zNb {oe:Obj} {vs:Array Value} {head:Value} {dF:Bool} (dA:A.frames=some (env::outer)) (hl:s.heap.FunFrames base (env::outer)) (hf:env.frame=some L)
  (he:s.heap.get? e=some oe) (hd:oe.data=.fields vs) (h2:vs[2]?=some .none)
  (k:∀h' T,Moved (frs (env::outer)) [e] s.heap h'->s.heap.get? T=none->zD2 h' e T oe.cls oe.dict (rawInt L)->Q PUnit.unit { s with heap:=h' }) :
  wpAny M A (do let a ← frameOf env;let pl ← entryPlaceOf L dF;let b ← EntryCells.newEntry head a .none (rawInt L) .none pl;setField (.ref e) 1 b) Q E s:=by
 have nfr:e∉frs (env::outer):=λz=>by obtain⟨_,o,ho,hn⟩:=hl.mem z;rw[he] at ho;cases ho;exact hn vs hd
 have sz2:2 < vs.size:=(Array.getElem?_eq_some_iff.mp h2).1;refine wHu (wpAny_frameOf_fun dA hl hf λh1 so=>wHu (wpAny_entryPlaceOf λpl ip=>?_));have e1:h1.get? e=some oe:=(so.2.1 e nfr).trans he;unfold EntryCells.newEntry newFields;refine wHu (wIj ?_ (ip.sizeOk5 _ _ _ _ _));generalize lK:(([head,.ref L,.none,rawInt L,.none]++(if pl.isEmpty then List.replicate 6 Value.none else pl)).toArray:Array Value)=cells;have c3:cells[3]?=some (rawInt L):=by rw[← lK];simp
 refine wpAny_setField (wHz _ e1) hd ∅ (k _ h1.objs.size ?_ ?_ ?_)
 ·exact ((Moved.slots so).mono (λ_ z=>z) (λ_ z=>nomatch z)).trans (((Moved.push).mono (λ_ z=>nomatch z) (λ_ z=>nomatch z)).trans (Moved.upd1.mono (λ_ z=>nomatch z) λ_ z=>z))
 ·exact wIF (wIG so.1.symm)
 have hTe:h1.objs.size≠e:=Nat.ne_of_gt (wHH e1);have cA:=Obj.data_mapFields hd (·.setIfInBounds 1 (Value.ref h1.objs.size));refine⟨_,_,_,cells,wIc _ (wHz _ e1) (Obj.isFreed_of_fields cA),Obj.cls_mapFields _ _,?_,cA,?_,?_,hTe,(wHN _ _ (Ne.symm hTe)).trans (wHG h1 rfl),rfl,c3⟩
 ·obtain⟨c,d,dt,sl⟩:=oe;cases hd
  rfl
 ·rw[Array.getElem?_setIfInBounds_self_of_lt ∅]
 rw[Array.getElem?_setIfInBounds_ne ⋯];exact h2
def zMe {oe:Obj} {vs:Array Value} (dA:A.frames=some (env::outer)) (hl:s.heap.FunFrames base (env::outer)) (hf:env.frame=some L)
  (he:s.heap.get? e=some oe) (hd:oe.data=.fields vs) (h1:vs[1]?=some .none) (h2:vs[2]?=some .none)
  (k:∀h' T,Moved (frs (env::outer)) [e] s.heap h'->s.heap.get? T=none->zD2 h' e T oe.cls oe.dict (rawInt L)->Q PUnit.unit { s with heap:=h' }):wpAny M A (noteFrame (.ref e) env) Q E s:=by
 unfold noteFrame;simp only[hf];refine wHu (wIq he hd h1 ?_);rw[wHD ⋯];exact zNb dA hl hf he hd h2 k
def zK3 {T:Addr} {cls:Value} {dd:Option Addr} (dA:A.frames=some (env::outer)) (hl:s.heap.FunFrames base (env::outer)) (hf:env.frame=some L) (x:zD2 s.heap e T cls dd .none)
  (k:∀h' T',Moved (frs (env::outer)) [e,T] s.heap h'->s.heap.get? T'=none->zD2 h' e T' cls dd (rawInt L)->Q PUnit.unit { s with heap:=h' }):wpAny M A (noteFrame (.ref e) env) Q E s:=by
 obtain⟨oe,vs,oT,ts,he,rfl,rfl,hd,h1,h2,aH,hT,eQ,h3⟩:=x;unfold noteFrame;simp only[hf];refine wHu (wIq he hd h1 ?_);rw[wHF (show (Value.ref T != Value.none)=true from rfl)];refine wHu (wIq hT eQ h3 ?_);rw[wHD (show ¬((Value.none == rawInt L)=true) from by simp[rawInt])];refine wHu (wpAny_setField hT eQ (Array.getElem?_eq_some_iff.mp h3).1 ?_);have m1:Moved [] [T] s.heap (s.heap.update T (Obj.mapFields (·.setIfInBounds 3 Value.none))):=Moved.upd1;refine zNb (s:={ s with heap:=_ }) dA (FunFrames.moved hl m1 λb hb o ho=>?_) hf ((wHN _ _ aH).trans he) hd h2 λh' T' m n x'=>k h' T' ((m1.mono (λ_ z=>nomatch z) λb z=>by simp at z;simp[z]).trans (m.mono (λ_ z=>z) λb z=>by simp at z;simp[z])) ?_ x'
 ·rw[wIM hb,hT] at ho;cases ho;exact⟨ts,eQ⟩
 cases q:s.heap.get? T' with
 | none=>rfl
 | some o=>
  by_cases z:T'=T
  ·subst z;have:=wIc (Obj.mapFields (·.setIfInBounds 3 Value.none)) hT (Obj.isFreed_of_fields (Obj.data_mapFields eQ _));rw[this] at n;cases n
  rw[wHN _ _ (Ne.symm z),q] at n;cases n
def zFX {T:Addr} {cls fl:Value} {dd:Option Addr} (x:zD2 s.heap e T cls dd fl) (k:∀h',Moved [] [T] s.heap h'->zD2 h' e T cls dd .none->Q PUnit.unit { s with heap:=h' }):wpAny M A (setFlight (.ref e) none) Q E s:=by obtain⟨oe,vs,oT,ts,he,rfl,rfl,hd,h1,h2,aH,hT,eQ,h3⟩:=x;have s3:3 < ts.size:=(Array.getElem?_eq_some_iff.mp h3).1;unfold setFlight;refine wHu (wIq he hd h1 ?_);rw[wHF (show (Value.ref T != Value.none)=true from rfl)];refine wpAny_setField hT eQ s3 (k _ Moved.upd1 ?_);have cA:=Obj.data_mapFields eQ (·.setIfInBounds 3 ((none:Option Addr).elim Value.none λf=>rawInt f));exact⟨oe,vs,_,_,(wHN _ _ aH).trans he,rfl,rfl,hd,h1,h2,aH,wIc _ hT (Obj.isFreed_of_fields cA),cA,by rw[Array.getElem?_setIfInBounds_self_of_lt s3];rfl⟩
def zFs {oe:Obj} {vs:Array Value} (dA:A.frames=some (env::outer)) (hl:s.heap.FunFrames base (env::outer)) (hf:env.frame=some L)
  (he:s.heap.get? e=some oe) (hd:oe.data=.fields vs) (h1:vs[1]?=some .none) (h2:vs[2]?=some .none)
  (k:∀h' T,Moved (frs (env::outer)) [e,T] s.heap h'->s.heap.get? T=none->zD2 h' e T oe.cls oe.dict .none->Q PUnit.unit { s with heap:=h' }):wpAny M A (leaving env (.ref e)) Q E s:=
 wHu (zMe dA hl hf he hd h1 h2 λh' T m n x=>zFX (s:={ s with heap:=h' }) x λdG m' x'=>k dG T ((m.mono (λ_ z=>z) λb z=>by simp at z;simp[z]).trans (m'.mono (λ_ z=>nomatch z) λb z=>by simp at z;simp[z])) n x')
def zKC {T:Addr} {cls:Value} {dd:Option Addr} (dA:A.frames=some (env::outer)) (hl:s.heap.FunFrames base (env::outer)) (hf:env.frame=some L) (x:zD2 s.heap e T cls dd .none)
  (k:∀h' T',Moved (frs (env::outer)) [e,T,T'] s.heap h'->s.heap.get? T'=none->zD2 h' e T' cls dd .none->Q PUnit.unit { s with heap:=h' }):wpAny M A (leaving env (.ref e)) Q E s:=
 wHu (zK3 dA hl hf x λh' T' m n x=>zFX (s:={ s with heap:=h' }) x λdG m' x'=>k dG T' ((m.mono (λ_ z=>z) λb z=>by simp at z;rcases z with z | z<;>simp[z]).trans (m'.mono (λ_ z=>nomatch z) λb z=>by simp at z;simp[z])) n x')
end
def zIy {P:Program} {w:World} {H:Hp} {h:Heap} {a:Addr} {o:HO} (x:HOk P w H h) (e:H a=some o):∃ob,h.get? a=some ob:=by
 have y:=x a o e;cases o with
 | lst xs=>obtain⟨_,_,_,_,e⟩:=y;exact⟨_,e⟩
 | tup xs=>obtain⟨_,_,_,o,e,_⟩:=y;exact⟨_,e⟩
 | dK kvs=>obtain⟨_,_,_,_,o,_,_,e,_⟩:=y;exact⟨_,e⟩
 | dT kvs=>obtain⟨_,_,_,_,o,_,_,e,_⟩:=y;exact⟨_,e⟩
 | set S n=>obtain⟨o,_,_,_,e,_⟩:=y;exact⟨_,e⟩
 | ins C dx fs=>obtain⟨_,_,_,e,_⟩:=y;exact⟨_,e⟩
 | own z=>obtain⟨_,e⟩:=y;exact⟨_,e⟩
 | xd fs=>obtain⟨_,⟨_,_,_,e,_⟩,_⟩:=y;exact⟨_,e⟩
 | rng lo hi=>obtain⟨_,_,_,e⟩:=y;exact⟨_,e⟩
 | frz o u=>exact⟨_,y.1⟩
 | tbl ps=>exact⟨_,y⟩
 | met f z=>exact⟨_,y⟩
 | ext φ=>exact y.2.1
def zC4 {P:Program} {w:World} {H:Hp} {h:Heap} {a:Addr} (x:HOk P w H h) (e:h.get? a=none):H a=none:=by
 cases q:H a with
 | none=>rfl
 | some o=>obtain⟨ob,z⟩:=zIy x q;rw[e] at z;cases z
def HOk.moved {P:Program} {w:World} {H:Hp} {h h':Heap} {fs ch:List Addr} (x:HOk P w H h) (m:Moved fs ch h h') (n:∀b o,H b=some o->b∉fs/\b∉ch):HOk P w H h':=λa u e=>by
 refine (x a u e).stay (λc v hc q=>?_) (λ_ q=>q) λ_ _ q=>q;rcases hc with z | z
 ·rw[z] at q ⊢;exact m.keep _ _ (n a u e).1 (n a u e).2 q
 exact m.keep _ _ (n c _ z).1 (n c _ z).2 q
def Un.moved {fs dH ch:List Addr} {H H':Hp} {h h1 h2:Heap} (u:Un fs [] H H' h h1) (m:Moved dH ch h1 h2) (hc:∀b o,h.get? b=some o->b∉ch) (hf:∀b o,h.get? b=some o->b∈dH->b∈fs):Un fs [] H H' h h2 where
 keep:=λb o e n nf ne=>m.keep b o (λz=>nf (hf b o e z)) (hc b o e) (u.keep b o e n nf ne)
 slot:=λb o e n nf ne=>let ⟨_,q⟩:=u.slot b o e n nf ne;let ⟨sl,q2⟩:=m.slot b _ (hc b o e) q;⟨sl,q2⟩
 free:=u.free
 there:=λb o e ne=>let ⟨o',q⟩:=u.there b o e ne;let ⟨sl,q2⟩:=m.slot b o' (hc b o e) q;⟨_,q2⟩
 tups:=u.tups
 frzs:=u.frzs
 tbls:=u.tbls
def CXx (P:Program) (w:World):CXT:=λouter H s E ev s'=>∃(e T:Addr) (cls:Value) (dd:Option Addr) (H':Hp),ev=.ref e/\s'.os=s.os/\AllBare s'.gens/\Un (frs outer) [] H H' s.heap s'.heap/\HOk P w H' s'.heap/\
 zD2 s'.heap e T cls dd .none/\s.heap.get? e=none/\s.heap.get? T=none/\H' e=none/\H' T=none/\E cls dd H'
section
variable {P:Program} {w:World} {K:W.Frag} {mg:Str->Option Value} {base:Heap} {N:List Str} {qual:Str} {scope:Scope} {f:Addr} {cd:Value} {A:Around} {outer:List Env} {s0:Shared} {H0:Hp} {E:XK}
def zKp {pins:List (Addr × Obj)} {σ:St} {H':Hp} {s s'':Shared} {e T:Addr} {cls:Value} {dd:Option Addr} {ch:List Addr} (I:Inv (zD9 (CXx P w) P w K mg base N qual scope f cd A outer s0 H0 E) pins σ H' s)
  (m:Moved (frs (envOfC qual scope s0.heap.objs.size f cd::outer)) ch s.heap s''.heap) (os:s''.os=s.os) (ba:AllBare s''.gens) (x:zD2 s''.heap e T cls dd .none) (hc:∀b∈ch,s0.heap.get? b=none) (hH:∀b∈ch,H' b=none) (he:s0.heap.get? e=none) (hT:s0.heap.get? T=none) (eW:H' e=none) (eX:H' T=none) (q:E cls dd H') :
  CXx P w outer H0 s0 E (.ref e) s'':=by
 have bs:Un (frs outer) [] H0 H' s0.heap s.heap:=I.base;refine⟨e,T,cls,dd,H',rfl,os.trans I.os,ba,bs.moved m (λb o eb z=>by rw[hc b z] at eb;cases eb) (λb o eb z=>?_),I.hok.moved m λb o eb=>⟨λz=>?_,λz=>?_⟩,x,he,hT,eW,eX,q⟩
 ·unfold frs at z;rw[List.filterMap_cons] at z;rcases wIQ (show b∈s0.heap.objs.size::frs outer from z) with y | y
  ·rw[y,wIF (wHA _)] at eb;cases eb
  exact y
 ·rw[I.stkFree b z] at eb;cases eb
 rw[hH b z] at eb;cases eb
def zB7:zDg (CXx P w) (zD9 (CXx P w) P w K mg base N qual scope f cd A outer s0 H0 E) E:=by
 intro pins σ H s ev s' I hx;obtain⟨e,T,cls,dd,H',rfl,os,bare,un,hok,x,ne,nT,he,hT,q⟩:=hx;have I':=I.call' (ch:=[]) os un hok bare (λb z=>nomatch z);have old:∀b,s.heap.get? b=none->s0.heap.get? b=none:=λb z=>by
  cases y:s0.heap.get? b with
  | none=>rfl
  | some o=>obtain⟨o',h'⟩:=I.base.there b o y (λz=>nomatch z);rw[z] at h';cases h'
 have fM:∀b,s'.heap.get? b=none->s0.heap.get? b=none:=λb z=>by
  cases y:s0.heap.get? b with
  | none=>rfl
  | some o=>obtain⟨o',h'⟩:=I'.base.there b o y (λz=>nomatch z);rw[z] at h';cases h'
 refine zKC I'.ok.frames I'.stack rfl x λdG T' m n x'=>?_;have hT':H' T'=none:=zC4 hok n;exact zKp (s'':={ s' with heap:=dG }) I' m rfl I'.bare x' (λb hb=>by
  simp at hb;rcases hb with z | z | z
  ·rw[z];exact old e ne
  ·rw[z];exact old T nT
  ·rw[z];exact fM T' n) (λb hb=>by
  simp at hb;rcases hb with z | z | z
  ·rw[z];exact he
  ·rw[z];exact hT
  rw[z];exact hT') (old e ne) (fM T' n) he hT' q
def zOs {h:Heap} {C:Addr} {bmB:List Value} {newId:String} (X:K.In h) (q:W.excIn K C bmB newId=true) :
  ∃tl ns nm qn bs hd sn sub ab col dd k0 k1 k2 k3 k5 mN,h.get? C=some (excClassObj nm qn C ns bs tl hd sn sub ab col dd k0 k1 k2 k3 k5 newId)/\h.Ns ns mN/\mN "__init__"=none/\OwnTail h bmB tl:=by
 unfold W.excIn at q
 split at q
 case h_2=>cases q
 case h_1 dd cd sl ho=>
  split at q
  case h_2=>cases q
  case h_1 C' tl k0 k1 k2 k3 n k5 hm hs=>
   simp only[wHR,beq_iff_eq,Bool.not_eq_true'] at q;obtain⟨⟨⟨⟨⟨hC,hn⟩,gF⟩,ht⟩,hok⟩,iH⟩:=q;subst hC hn;have bJ:sl=#[k0,k1,k2,k3,some (.builtin n),k5]:=Array.toList_inj.mp hs;rcases cd with ⟨nm,bs,mro,ns,qn,hd,sn,sub,ab,col,del⟩;simp only at hm gF hok iH;subst hm gF bJ;exact⟨tl,ns,nm,qn,bs,hd,sn,sub,ab,col,dd,k0,k1,k2,k3,k5,_,X _ _ ho,.of_isNs (W.isNs_of_in X hok),W.nsMap_none_of_in X hok iH,W.tail_of_in X ht⟩
abbrev vEr:List Value:=[.type "ValueError",.type "Exception",.type "BaseException",.type "object"]
def zOX (E:XK) (C:Addr) (te:TE):TS:=λ_ σ H=>te σ H λ_ H1=>E (.ref C) none H1
def zA0 {x:Str} {C:Addr} {e:Expr} {te:TE} {np aB pos:Pos} (hx:W.excIn K C vEr "ValueError.__new__"=true) (hg:Gl (zD9 (CXx P w) P w K mg base N qual scope f cd A outer s0 H0 E) x) (hm:mg x=some (.ref C))
  (he:PE (zD9 (CXx P w) P w K mg base N qual scope f cd A outer s0 H0 E) e te) (hd:(x == ("__debug__":Str))=false:=by decide)
  (aF:starEach [e] (zD9 (CXx P w) P w K mg base N qual scope f cd A outer s0 H0 E).env=[(false,eval e (zD9 (CXx P w) P w K mg base N qual scope f cd A outer s0 H0 E).env)]:=by rfl) :
  PS (zD9 (CXx P w) P w K mg base N qual scope f cd A outer s0 H0 E) (.Raise (some (.Call (.Name x np) [e] [] aB)) none pos) (zOX E C te):=by
 intro pins s σ H D I h;obtain⟨tl,ns,nm,qn,bs,fq,sn,sub,ab,col,dd,k0,k1,k2,k3,k5,mN,hC,hN,iH,T⟩:=zOs I.ok.mod.kin hx;refine wpAny_Raise_call_subT (C:=C) (nm:=nm) (q:=qn) (N:=ns) (bs:=bs) (bm:=tl) (hdct:=fq) (sn:=sn) (sub:=sub) (ab:=ab) (col:=col) (dd:=dd) (k0:=k0) (k1:=k1) (k2:=k2) (k3:=k3) (k5:=k5)
  F.excBase_ValueError (mN:=mN) (T.hasType rfl) (I.ok.hd rfl) (by rw[aF];rfl) iH (zBA I hg hm ⟨rfl,?_⟩ hd)
 rw[aF];refine Calls.evalArgs_plain (wH4 (Calls.spliced_cons (wH4 (he pins s σ H _ I h) (λv s2 ⟨y,H1,I1,r1,q⟩=>Calls.spliced_nil ?_) λ_ _ z=>z)) (λus s2 z=>z) λ_ _ z=>z);refine⟨rfl,(show 1<=sizeLine by decide),I1.bk _ _ hC,hN.keeps I1.bk,T.keeps I1.bk,λh' e' mk=>?_⟩;obtain⟨t,e1,e2,e3⟩:=mk.there;have old:∀b,s2.heap.get? b=none->s0.heap.get? b=none:=λb z=>by
  cases y:s0.heap.get? b with
  | none=>rfl
  | some o=>obtain⟨o',h'⟩:=I1.base.there b o y (λz=>nomatch z);rw[z] at h';cases h'
 have I2:=I1.kept (h':=h') (t':=s2.toks) mk.keeps;refine zFs (s:={ s2 with heap:=h' }) I2.ok.frames I2.stack rfl e1 rfl rfl rfl λdG T' m n x'=>?_;have eW:H1 e'=none:=zC4 I1.hok mk.new;have nT:s2.heap.get? T'=none:=by
  cases y:s2.heap.get? T' with
  | none=>rfl
  | some o=>have:=mk.keeps _ _ y;rw[show h'.get? T'=none from n] at this;cases this
 have eX:H1 T'=none:=zC4 I1.hok nT;exact zKp (s'':={ s2 with heap:=dG }) I2 m rfl I2.bare x' (λb hb=>by
  simp at hb;rcases hb with z | z
  ·rw[z];exact old e' mk.new
  ·rw[z];exact old T' nT) (λb hb=>by
  simp at hb;rcases hb with z | z
  ·rw[z];exact eW
  rw[z];exact eX) (old e' mk.new) (old T' nT) eW eX q
end
def zJp (e:Addr) (cls:Value) (dd:Option Addr):HO:=.ext λh=>∃oe vs,h.get? e=some oe/\oe.cls=cls/\oe.dict=dd/\oe.data=.fields vs/\vs[2]?=some .none
def zJp.ok {P:Program} {w:World} {H:Hp} {h:Heap} {e T:Addr} {cls fl:Value} {dd:Option Addr} (x:zD2 h e T cls dd fl):ObjOk P w H h e (zJp e cls dd):=by obtain⟨oe,vs,oT,ts,he,hc,hd,hf,h1,h2,_⟩:=x;exact⟨⟨oe,vs,he,hc,hd,hf,h2⟩,⟨oe,he⟩,λh1 h2 ⟨oe,vs,a,b⟩ k=>⟨oe,vs,k _ a,b⟩⟩
def zJp.get {P:Program} {w:World} {H:Hp} {h:Heap} {e:Addr} {cls:Value} {dd:Option Addr} (x:HOk P w H h) (q:H e=some (zJp e cls dd)):∃oe vs,h.get? e=some oe/\oe.cls=cls/\oe.dict=dd/\oe.data=.fields vs/\vs[2]?=some .none:=(x e _ q).1
def HOk.put {P:Program} {w:World} {H:Hp} {h:Heap} {a:Addr} {o:HO} (x:HOk P w H h) (n:H a=none) (new:ObjOk P w (upd H a o) h a o):HOk P w (upd H a o) h:=λb u e=>by
 by_cases z:b=a
 ·subst z;rw[zB] at e;cases e;exact new
 rw[zJ z] at e;refine (x b u e).stay (λ_ _ _ q=>q) (λc q=>?_) λc xs q=>?_
 ·rw[zJ (zM q n)];exact q
 rw[zJ (zM q n)];exact q
def Un.put {fs:List Addr} {H H':Hp} {h h':Heap} {a:Addr} {o:HO} (u:Un fs [] H H' h h') (n:h.get? a=none) (n':H' a=none):Un fs [] H (upd H' a o) h h' where
 keep:=u.keep
 slot:=u.slot
 free:=λb ob e q x=>by
  have:b≠a:=λz=>by rw[z,n] at e;cases e
  rw[zJ this];exact u.free b ob e q x
 there:=u.there
 tups:=λb xs e=>by have:=u.tups b xs e;rw[zJ (zM this n')];exact this
 frzs:=λb ob xs e=>by have:=u.frzs b ob xs e;rw[zJ (zM this n')];exact this
 tbls:=λb ps e=>by obtain⟨m,q⟩:=u.tbls b ps e;exact⟨m,by rw[zJ (zM q n')];exact q⟩
def Cx.hot (X:Cx) (e:Addr):Cx:={ X with A:=X.A.mark (some (.ref e)),calm:=false,xe:=λ_ _=>False }
section
variable {X:Cx} {pins:List (Addr × Obj)} {σ:St} {H:Hp} {s:Shared} {e:Addr}
def Inv.hot (I:Inv X pins σ H s):Inv (X.hot e) pins σ H s:=
 ⟨⟨I.ok.mod,I.ok.kind,I.ok.glob,I.ok.blt,I.ok.above,I.ok.inj,I.ok.has,I.ok.cab,λz=>(nomatch (show false=true from z)),I.ok.frames,I.ok.stk,I.ok.exf,I.ok.bs,I.ok.bsz,I.ok.noex,I.ok.exfs,I.ok.funs,I.ok.frf⟩,I.os,I.bare,I.base,I.loc,I.cell,I.free,I.freeC,I.pin,I.hok,I.len⟩
def Inv.cool (ok:X.Ok) (I:Inv (X.hot e) pins σ H s):Inv X pins σ H s:=⟨ok,I.os,I.bare,I.base,I.loc,I.cell,I.free,I.freeC,I.pin,I.hok,I.len⟩
def zFW {M:Model} {A:Around} {E:Value->Shared->Prop} {i:Nat} {x:Str} {pos:Pos} {Q:Unit->Shared->Prop} (I:Inv X pins σ H s) (hN:X.N.Nodup) (hi:X.N[i]?=some x) (hk:X.env.scope.names.lookup x=some .local)
  (h:∀s',Inv X pins (σ.set i none) H s'->Q PUnit.unit s'):wpAny M A (do bindName X.env x .none;unbindBehindTheSuite X.env x pos) Q E s:=by
 obtain⟨m,hn,hl⟩:=id I.loc;have eS:(X.env.scope.kind == .class || (X.env.scope.kind == .module && X.env.locals != X.env.globals))=false:=by rw[I.ok.kind];rfl
 refine wpAny_nameGoes_keeps hk hn eS λh' v fk hs=>h _ ?_;have lt:∀b o,X.s₀.heap.get? b=some o->b≠X.env.locals:=λb o e=>wHO (wHT (wHH e) I.ok.above);have nl:∀b o,H b=some o->b≠X.env.locals:=λb o e z=>by rw[z,I.free] at e;cases e
 refine⟨I.ok,I.os,I.bare,⟨λb o e n hb hx=>(hs.2 b (lt b o e)).trans (I.base.keep b o e n hb hx),λb o e n hb hx=>?_,I.base.free,λb o e hx=>?_,I.base.tups,I.base.frzs,I.base.tbls⟩,⟨_,fk,λj y v' e1 e2 e3=>?_⟩,λy c e=>?_,I.free,I.freeC,λp hp=>?_,λb ob e=>?_,by rw[List.length_set];exact I.len⟩
 ·obtain⟨sl,q⟩:=I.base.slot b o e n hb hx;exact⟨sl,(hs.2 b (lt b o e)).trans q⟩
 ·obtain⟨o',q⟩:=I.base.there b o e hx;exact⟨o',(hs.2 b (lt b o e)).trans q⟩
 ·have hj:j≠i:=λz=>by
   subst z;by_cases q:j < σ.length
   ·rw[List.getElem?_set_self q] at e2;cases e2
   rw[wIw (by rw[List.length_set];omega)] at e2;cases e2
  rw[List.getElem?_set_ne (Ne.symm hj)] at e2;obtain⟨u',r',q⟩:=hl j y v' e1 e2 e3;refine⟨u',r',?_⟩;rcases q with ⟨k,e⟩ | ⟨k,c,e,z⟩
  ·refine .inl ⟨k,?_⟩;have:y≠x:=λe=>hj (zFR hN e1 (e ▸ hi));simp[this,e]
  exact .inr ⟨k,c,e,z.sameBut hs (I.cne y c e)⟩
 ·obtain⟨w',z⟩:=I.cell y c e;exact⟨w',z.sameBut hs (I.cne y c e)⟩
 ·obtain⟨e,n,ne,nf,d⟩:=I.pin p hp;exact⟨(hs.2 p.1 ne).trans e,n,ne,nf,d⟩
 refine (I.hok b ob e).stay (λc w' hc q=>(hs.2 c ?_).trans q) (λ_ q=>q) λ_ _ q=>q;rcases hc with z | z
 ·rw[z];exact nl b ob e
 exact nl c _ z
end
abbrev XR:=Value->Option Addr->St->Hp->Prop
def XP (X:Cx) (pins:List (Addr × Obj)) (R:XR) (ev:Value) (s':Shared):Prop:=
 ∃σ₁ H₁ s₁,Inv X pins σ₁ H₁ s₁/\CXx X.prog X.w X.stack H₁ s₁ (λcls dd H'=>R cls dd σ₁ H') ev s'
abbrev TEx:=St->Hp->VK->XK->Prop
abbrev TAx:=St->Hp->(List V->Hp->Prop)->XK->Prop
abbrev TSx:=Ends->XR->St->Hp->Prop
def atS (σ:St) (R:XK):XR:=λcls dd σ' H'=>σ'=σ/\R cls dd H'
def PEx (X:Cx) (e:Expr) (t:TEx):Prop:=
 ∀(pins:List (Addr × Obj)) (s:Shared) (σ:St) (H:Hp) (Q:VK) (R:XK),Inv X pins σ H s->t σ H Q R->wpAny (model X.prog X.w) X.A (eval e X.env) (EP X pins σ Q) (XP X pins (atS σ R)) s
def PAx (X:Cx) (es:List Expr) (t:TAx):Prop:=
 ∀(pos:Pos) (pins:List (Addr × Obj)) (s:Shared) (σ:St) (H:Hp) (Q:List V->Hp->Prop) (R:XK),Inv X pins σ H s->t σ H Q R->wpAny (model X.prog X.w) X.A (spliced (backTo pos (starEach es X.env))) (AP X pins σ Q) (XP X pins (atS σ R)) s
def PSx (X:Cx) (st:Stmt) (t:TSx):Prop:=
 ∀(pins:List (Addr × Obj)) (s:Shared) (σ:St) (H:Hp) (D:Ends) (R:XR),Inv X pins σ H s->t D R σ H->wpAny (model X.prog X.w) X.A (exec st X.env) (SP X pins D) (XP X pins R) s
def zRd (X:Cx) (st:List Stmt) (t:TSx):Prop:=
 ∀(pins:List (Addr × Obj)) (s:Shared) (σ:St) (H:Hp) (D:Ends) (R:XR),Inv X pins σ H s->t D R σ H->wpAny (model X.prog X.w) X.A (execs st X.env) (SP X pins D) (XP X pins R) s
section
variable {X:Cx} {k:Nat} {f:Addr} {fd:FuncData} {ps:List Str} {sp:Sp} {aG:List V} {ds:List Value} {x:Str} {p pos:Pos} {e:Expr} {es:List Expr} {te:TE} {t:TA}
def xOf (t:TE):TEx:=λσ H Q _=>t σ H Q
def zPk (h:PE X e te) (hx:∀v s,X.xe v s->False:=by exact λ_ _ z=>z):PEx X e (xOf te):=λpins s σ H Q R I q=>wH4 (h pins s σ H Q I q) (λ_ _ z=>z) λv s' z=>(hx v s' z).elim
def zJV {pins:List (Addr × Obj)} {σ:St} {H:Hp} {s:Shared} {Q:VK} {R:XK} {us:List Value} {vs:List V} (F:FnOk X.prog X.w X.K X.mg X.base (CXx X.prog X.w) k f fd ps sp) (hr:Room k X.A) (hb:zAg X.K fd ps ds) (hd:zAv aG ds)
  (I:Inv X pins σ H s) (r:zAv vs us) (h:sp (vs++aG) H Q R):wpAny (model X.prog X.w) X.A (call (.ref f) us) (EP X pins σ Q) (XP X pins (atS σ R)) s:=by
 have r2:zAv (vs++aG) (us++ds):=r.append hd;have hl:(us++ds).length=ps.length:=by rw[← r2.length];exact F.len _ _ _ _ h
 refine wpAny_call (codeAny_mono (F.run X.A X.stack s H ⟨us,[]⟩ (us++ds) (vs++aG) Q R hr I.env0 (hb s us I.kIn hl) r2 h) λr s' hq=>?_);cases r with
 | error ev=>
  obtain⟨e,T,cls,dd,H',a1,a2,a3,a4,a5,a6,a7,a8,a9,nI,nG⟩:=(show CXx X.prog X.w X.stack H s R ev s' from hq);exact⟨σ,H,s,I,e,T,cls,dd,H',a1,a2,a3,a4,a5,a6,a7,a8,a9,nI,rfl,nG⟩
 | ok fl=>
  cases fl with
  | ret u=>exact I.after hq
  | next=>exact wIh hq
  | brk=>exact wIh hq
  | cont=>exact wIh hq
def zQd (sp:Sp) (aG:List V) (t:TA):TEx:=λσ H Q R=>t σ H λvs H1=>sp (vs++aG) H1 Q R
def zLU (F:FnOk X.prog X.w X.K X.mg X.base (CXx X.prog X.w) k f fd ps sp) (hr:Room k X.A) (hg:Gl X x) (hm:X.mg x=some (.ref f)) (hk:W.keepIn X.K (.ref f)=true) (hb:zAg X.K fd ps ds) (hd:zAv aG ds)
  (ha:PA X (e::es) t) (hx:∀v s,X.xe v s->False:=by exact λ_ _ z=>z) (bG:(x == ("__debug__":Str))=false:=by decide) (he:starEach (e::es) X.env=(false,eval e X.env)::starEach es X.env:=by rfl) (aM:(backTo pos (starEach es X.env)).any (·.1)=false:=by rfl) :
  PEx X (.Call (.Name x p) (e::es) [] pos) (zQd sp aG t):=by
 intro pins s σ H Q R I h;refine wpAny_Call_Name_kw (zBA I hg hm ?_ bG);refine W.callWith_K (h₀:=X.base) I.ok.mod.kin hk (wH4 (ha pos pins s σ H _ I h) (λus s1 ⟨vs,H1,I1,r,q⟩=>⟨I1.kIn,?_⟩) λv s' z=>(hx v s' z).elim) he aM;exact zJV F hr hb hd I1 r q
end
section
variable {X:Cx} {k:Nat} {f:Addr} {fd:FuncData} {ps:List Str} {sp:Sp} {aG:List V} {ds:List Value} {x:Str} {p pos:Pos} {e o:Expr} {es:List Expr} {ta:TE} {te:TEx} {t:TAx}
def zQF:TAx:=λ_ H Q _=>Q [] H
def zPR (ta:TEx) (tr:TAx):TAx:=λσ H Q R=>ta σ H (λx H1=>tr σ H1 (λxs H2=>Q (x::xs) H2) R) R
def zNM:PAx X [] zQF:=λ_ _ _ _ H Q _ I h=>Calls.spliced_nil ⟨[],H,I,.nil,h⟩
def zIm (ha:PEx X e te) (hr:PAx X es t) (hs:starEach (e::es) X.env=(false,eval e X.env)::starEach es X.env:=by rfl):PAx X (e::es) (zPR te t):=by intro pos pins s σ H Q R I h;rw[hs];refine Calls.spliced_cons (wH4 (ha pins s σ H _ R I h) (λu s1 ⟨x,H1,I1,r1,q1⟩=>?_) λ_ _ z=>z);exact wH4 (hr pos pins s1 σ H1 _ R I1 q1) (λus s2 ⟨xs,H2,I2,r2,q2⟩=>⟨x::xs,H2,I2,.cons r1 r2,q2⟩) λ_ _ z=>z
def zO4 (sp:Sp) (aG:List V) (t:TAx):TEx:=λσ H Q R=>t σ H (λvs H1=>sp (vs++aG) H1 Q R) R
def zKk (F:FnOk X.prog X.w X.K X.mg X.base (CXx X.prog X.w) k f fd ps sp) (hr:Room k X.A) (hg:Gl X x) (hm:X.mg x=some (.ref f)) (hk:W.keepIn X.K (.ref f)=true) (hb:zAg X.K fd ps ds) (hd:zAv aG ds)
  (ha:PAx X (e::es) t) (bG:(x == ("__debug__":Str))=false:=by decide) (he:starEach (e::es) X.env=(false,eval e X.env)::starEach es X.env:=by rfl) (aM:(backTo pos (starEach es X.env)).any (·.1)=false:=by rfl) :
  PEx X (.Call (.Name x p) (e::es) [] pos) (zO4 sp aG t):=by
 intro pins s σ H Q R I h;refine wpAny_Call_Name_kw (zBA I hg hm ?_ bG);refine W.callWith_K (h₀:=X.base) I.ok.mod.kin hk (wH4 (ha pos pins s σ H _ R I h) (λus s1 ⟨vs,H1,I1,r,q⟩=>⟨I1.kIn,?_⟩) λ_ _ z=>z) he aM;exact zJV F hr hb hd I1 r q
def zQc {pins:List (Addr × Obj)} {σ:St} {R:XR} {v:Value} {s:Shared} (h:XP X pins (atS σ λcls dd H1=>R cls dd σ H1) v s):XP X pins R v s:=by obtain⟨σ1,H1,s1,I1,e,T,cls,dd,H',a1,a2,a3,a4,a5,a6,a7,a8,a9,nI,rfl,nG⟩:=h;exact⟨_,H1,s1,I1,e,T,cls,dd,H',a1,a2,a3,a4,a5,a6,a7,a8,a9,nI,nG⟩
def zRg (te:TEx):TSx:=λD R σ H=>te σ H D.rt (λcls dd H1=>R cls dd σ H1)
def zNF (he:PEx X e te):PSx X (.Return (some e) pos) (zRg te):=by intro pins s σ H D R I h;exact wpAny_Return_some (wH4 (he pins s σ H _ _ I h) (λv s1 ⟨x,H1,I1,r1,q1⟩=>⟨x,σ,H1,I1,r1,q1⟩) λ_ _ z=>zQc z)
def zLR {st:Stmt} {ts:TSx} (h1:PSx X st ts):zRd X [st] ts:=by
 intro pins s σ H D R I h;refine wpAny_execs_cons (wH4 (h1 pins s σ H D R I h) (λf s1 q=>?_) λ_ _ z=>z);cases f with
 | next=>exact wpAny_execs_nil q
 | ret v=>exact q
 | brk=>exact q
 | cont=>exact q
def zRi (K:W.Frag) (Cc:Addr) (i:Nat) (tb:TSx) (th:Addr->TS):TS:=λD σ H=>tb D (λcls dd σ' H'=>W.exmOne K cls (.ref Cc)=some true/\∀e,H' e=none->
 th e { nx:=λσ2 H2=>D.nx (σ2.set i none) H2,rt:=D.rt,bk:=λσ2 H2=>D.bk (σ2.set i none) H2,ct:=λσ2 H2=>D.ct (σ2.set i none) H2 } (σ'.set i (some (.ref e))) (upd H' e (zJp e cls dd))) σ H
def zPd {Cc:Addr} {i:Nat} {n c:Str} {body:List Stmt} {b0:Stmt} {dM:List Stmt} {tb:TSx} {th:Addr->TS} {cp lE:Pos} (hN:X.N.Nodup) (hi:X.N[i]?=some n) (hn:X.env.scope.names.lookup n=some .local)
  (hg:Gl X c) (hm:X.mg c=some (.ref Cc)) (hb:zRd X body tb) (hh:∀e,PSs (X.hot e) (b0::dM) (th e)) (hS:X.stack=X.env::X.outer:=by rfl) (hF:X.env.frame=some X.env.locals:=by rfl) (hd:(c == ("__debug__":Str))=false:=by decide) :
  PS X (.Try body [.ExceptHandler (some (.Name c cp)) (some n) (b0::dM) lE] [] [] pos) (zRi X.K Cc i tb th):=by
 intro pins s σ H D I h;refine wpAny_Try_except (wH4 (hb pins s σ H D _ I h) (λfl s1 q=>?_) λev s1 q=>?_)
 ·cases fl with
  | next=>exact wpAny_execs_nil q
  | ret v=>exact q
  | brk=>exact q
  | cont=>exact q
 obtain⟨σ1,H1,s0,I1,e,T,cls,dd,H',rfl,os,bare,un,hok,x,ne,nT,he,hT,hmt,hth⟩:=q;have I1':=I1.call' (ch:=[]) os un hok bare (λb z=>nomatch z);have old:∀b,s1.heap.get? b=none->s0.heap.get? b=none:=λb z=>by
  cases y:s0.heap.get? b with
  | none=>rfl
  | some o=>obtain⟨o',h'⟩:=un.there b o y (λz=>nomatch z);rw[z] at h';cases h'
 have held:∀(h':Heap) (T':Addr) (fl:Value),s1.heap.get? T'=none->Moved (frs X.stack) [e,T,T'] s1.heap h'->zD2 h' e T' cls dd fl->Inv X pins σ1 (upd H' e (zJp e cls dd)) { s1 with heap:=h' }:=λh' T' fl nT' mv x'=>by
  refine I1.call' (ch:=[]) os ((un.moved mv (λb o eb z=>?_) λ_ _ _ z=>z).put ne he) ((hok.moved mv λb o eb=>⟨λz=>?_,λz=>?_⟩).put he (zJp.ok x')) bare (λb z=>nomatch z)
  ·simp at z;rcases z with z | z | z
   ·rw[z,ne] at eb;cases eb
   ·rw[z,nT] at eb;cases eb
   rw[z,old T' nT'] at eb;cases eb
  ·rw[I1'.stkFree b z] at eb;cases eb
  simp at z;rcases z with z | z | z
  ·rw[z,he] at eb;cases eb
  ·rw[z,hT] at eb;cases eb
  rw[z,zC4 hok nT'] at eb;cases eb
 have frames:X.A.frames=some (X.env::X.outer):=by rw[← hS];exact I.ok.frames
 have stack:s1.heap.FunFrames X.base (X.env::X.outer):=by rw[← hS];exact I1'.stack
 refine zK3 frames stack hF x λh2 T' m2 n2 x2=>zFX (s:={ s1 with heap:=h2 }) x2 λh3 m3 x3=>?_;have m2':Moved (frs X.stack) [e,T,T'] s1.heap h2:=by rw[hS];exact m2.mono (λ_ z=>z) λb z=>by simp at z;rcases z with z | z<;>simp[z]
 have m3':Moved (frs X.stack) [e,T,T'] s1.heap h3:=m2'.trans (m3.mono (λ_ z=>nomatch z) λb z=>by simp at z;simp[z]);have I3:=held h3 T' .none n2 m3' x3;refine wpAny_handleBy_cons (codeAny_handlers_test (zBA (X:=X.hot e) I3.hot hg hm ?_ hd)) (by intro z;cases z);have lt:PySem.W.Looks (model X.prog X.w) h3 (typeOf (.ref e)) cls:=by obtain⟨oe,vs,oT,ts,g1,g2,_⟩:=x3;exact g2 ▸ (PySem.W.Looks.ld g1).andThen .now
 refine (W.exm_one I3.kIn lt hmt).at ?_;show codeAny _ _ _ _ _;refine codeAny_handlers_suite_as (zFX (s:={ s1 with heap:=h3 }) x3 λh4 m4 x4=>?_);have I4:=held h4 T' .none n2 (m3'.trans (m4.mono (λ_ z=>nomatch z) λb z=>by simp at z;simp[z])) x4;refine zDP (X:=X.hot e) (v:=.ref e) I4.hot hN hi (.inl hn) rfl (λs5 I5=>?_) (.inr hn);refine wH4 (hh e pins s5 _ _ _ I5 (hth e he)) (λfl s6 q=>?_) λ_ _ z=>z.elim;cases fl with
 | next=>
  obtain⟨σ6,H6,I6,q6⟩:=q;exact zFW (I6.cool I.ok) hN hi hn λs7 I7=>⟨_,H6,I7,q6⟩
 | ret v=>
  obtain⟨v6,σ6,H6,I6,r6,q6⟩:=q;exact zFW (I6.cool I.ok) hN hi hn λs7 I7=>⟨v6,_,H6,I7,r6,q6⟩
 | brk=>
  obtain⟨σ6,H6,I6,q6⟩:=q;exact zFW (I6.cool I.ok) hN hi hn λs7 I7=>⟨_,H6,I7,q6⟩
 | cont=>
  obtain⟨σ6,H6,I6,q6⟩:=q;exact zFW (I6.cool I.ok) hN hi hn λs7 I7=>⟨_,H6,I7,q6⟩
end
section
variable {P:Program} {w:World} {K:W.Frag} {mg:Str->Option Value} {base:Heap}
def Fun.okX {x qual:Str} {st:Stmt} {f:Addr} {fd:FuncData} {N ps:List Str} {k:Nat} {sp:Sp} (F:Fun K x qual st f fd) (S:FnScope N ps (zK st)) (len:∀vs H Q E,sp vs H Q E->vs.length=ps.length)
  (aR:∀(cdv:Value) (A:Around) (outer:List Env) (s:Shared) (H:Hp) (vs:List V) (Q:VK) (E:XK),Room k (A.deeper (envOfC qual (zK st) s.heap.objs.size f cdv))->sp vs H Q E->
   ∃t,PSs (zD9 (CXx P w) P w K mg base N qual (zK st) f cdv A outer s H E) (zAU st) t/\t { nx:=λ_ H'=>Q .non H',rt:=Q } (zCP N vs) H):FnOk P w K mg base (CXx P w) (k+1) f fd ps sp:=by
 obtain⟨oc,od,kV,doc,pm,an,cdv,ct,cI,rfl,lk,aO⟩:=F.ex;exact zPJ lk aO S len λA outer s H vs Q E hr bL=>aR cdv A outer s H vs Q E hr bL
def zRb (A:Around):Around:={ A with handled:=none }
structure RoomH (k:Nat) (e:Addr) (A:Around):Prop where
 hd:A.handled=some (.ref e)
 rm:Room k (zRb A)
def RoomH.mono {j k:Nat} {e:Addr} {A:Around} (r:RoomH k e A) (h:j<=k):RoomH j e A:=⟨r.hd,r.rm.mono h⟩
def RoomH.of {k:Nat} {e:Addr} {A:Around} (r:Room k A):RoomH k e (A.mark (some (.ref e))):=⟨rfl,⟨rfl,r.dp,r.un⟩⟩
structure FnOkH (P:Program) (w:World) (K:W.Frag) (mg:Str->Option Value) (base:Heap) (k:Nat) (f:Addr) (fd:FuncData) (ps:List Str) (sp:Addr->Sp):Prop where
 len:∀e vs H Q E,sp e vs H Q E->vs.length=ps.length
 run:∀(e:Addr) (A:Around) (outer:List Env) (s:Shared) (H:Hp) (args:Args) (us:List Value) (vs:List V) (Q:VK) (E:XK),RoomH k e A->Env0 P w K mg base A outer s H->BindsTo s fd args (ps.zip us)->zAv vs us->sp e vs H Q E->
  codeAny (model P w) A (.call (.ref f) args) (CR CX0 outer P w H s Q E) s
def FnOkH.mono {j k:Nat} {f:Addr} {fd:FuncData} {ps:List Str} {sp:Addr->Sp} (F:FnOkH P w K mg base j f fd ps sp) (h:j<=k):FnOkH P w K mg base k f fd ps sp:=⟨F.len,λe A outer s H args us vs Q E hr=>F.run e A outer s H args us vs Q E (hr.mono h)⟩
def cxH (P:Program) (w:World) (K:W.Frag) (mg:Str->Option Value) (base:Heap) (N:List Str) (qual:Str) (scope:Scope) (f:Addr) (cd:Value) (A:Around) (outer:List Env) (s:Shared) (H:Hp) (E:XK):Cx:=
 { zD9 CX0 P w K mg base N qual scope f cd A outer s H E with calm:=false,xe:=λ_ _=>False }
def Fun.okH {x qual:Str} {st:Stmt} {f:Addr} {fd:FuncData} {N ps:List Str} {k:Nat} {sp:Addr->Sp} (F:Fun K x qual st f fd) (S:FnScope N ps (zK st)) (len:∀e vs H Q E,sp e vs H Q E->vs.length=ps.length)
  (aR:∀(cdv:Value) (e:Addr) (A:Around) (outer:List Env) (s:Shared) (H:Hp) (vs:List V) (Q:VK) (E:XK),RoomH k e (A.deeper (envOfC qual (zK st) s.heap.objs.size f cdv))->sp e vs H Q E->
   ∃t,PSs (cxH P w K mg base N qual (zK st) f cdv A outer s H E) (zAU st) t/\t { nx:=λ_ H'=>Q .non H',rt:=Q } (zCP N vs) H):FnOkH P w K mg base (k+1) f fd ps sp:=by
 obtain⟨oc,od,kV,doc,pm,an,cdv,ct,cI,rfl,lk,aO⟩:=F.ex;refine⟨len,λe A outer s H args us vs Q E hr e0 hb r bL=>?_⟩;have hl:=len _ _ _ _ _ bL;have kx:K.In s.heap:=e0.mod.kin.keeps λb o q=>(e0.bs b o q).1;have lim:s.heap.NoLimit:=e0.mod.nolimit.keeps λb o q=>(e0.bs b o q).1;refine codeAny_call_function (show A.depth < recursionLimit from hr.rm.depth) (kx _ _ lk) rfl S.co S.gen rfl (W.codeRec_of kx aO) (hb _ _ _ _ ?_);refine wpAny_newFunctionEnv_cells S.kind (λy hy=>?_) λenv he s1 x=>?_
 ·rcases S.par y.1 (List.of_mem_zip (a:=y.1) (b:=y.2) hy).1 with q | q
  ·exact .inl q
  exact .inr ⟨q,W.cellsFrom_some _ _ _ (.inl q)⟩
 subst he;refine⟨lim.keeps x.toInCall.keep,codeAny_func ?_⟩;obtain⟨t,ht,hq⟩:=aR cdv e A outer s H vs Q E ⟨hr.hd,⟨rfl,(hr.rm.deeper (envOfC qual (zK st) s.heap.objs.size f cdv)).dp,(hr.rm.deeper (envOfC qual (zK st) s.heap.objs.size f cdv)).un⟩⟩ bL;have I0:Inv (zD9 CX0 P w K mg base N qual (zK st) f cdv (zRb A) outer s H E) [] (zCP N vs) H s1:=zGR S rfl ⟨e0.frames,e0.mod,e0.bs,e0.bsz,e0.funs,e0.frf,e0.hok,e0.bare⟩ hl r x;have I:Inv (cxH P w K mg base N qual (zK st) f cdv A outer s H E) [] (zCP N vs) H s1:=
  ⟨⟨I0.ok.mod,I0.ok.kind,I0.ok.glob,I0.ok.blt,I0.ok.above,I0.ok.inj,I0.ok.has,I0.ok.cab,λz=>(nomatch (show false=true from z)),I0.ok.frames,I0.ok.stk,I0.ok.exf,I0.ok.bs,I0.ok.bsz,I0.ok.noex,I0.ok.exfs,I0.ok.funs,I0.ok.frf⟩,I0.os,I0.bare,I0.base,I0.loc,I0.cell,I0.free,I0.freeC,I0.pin,I0.hok,I0.len⟩
 refine wH4 (ht [] s1 (zCP N vs) H _ I hq) (λfl s' hs=>?_) λ_ _ z=>z.elim;cases fl with
 | ret u=>
  obtain⟨v,σ',H',J,rv,q⟩:=hs;exact⟨v,H',J.os,J.bare,J.base,J.hok,rv,q⟩
 | next=>
  obtain⟨σ',H',J,q⟩:=hs;exact⟨V.non,H',J.os,J.bare,J.base,J.hok,rfl,q⟩
 | brk=>
  obtain⟨_,_,_,q⟩:=hs;exact wIh q
 | cont=>
  obtain⟨_,_,_,q⟩:=hs;exact wIh q
end
section
variable {X:Cx} {k:Nat} {f:Addr} {fd:FuncData} {ps:List Str} {x:Str} {p pos:Pos} {a:Expr} {es:List Expr} {t:TA}
def zOO (e:Addr) (sp:Addr->Sp) (t:TA):TE:=λσ H Q=>t σ H λvs H1=>sp e vs H1 Q E0
def zIl {sp:Addr->Sp} {e:Addr} (F:FnOkH X.prog X.w X.K X.mg X.base k f fd ps sp) (hr:RoomH k e X.A) (hg:Gl X x) (hm:X.mg x=some (.ref f)) (hk:W.keepIn X.K (.ref f)=true) (hb:zAg X.K fd ps [])
  (ha:PA X (a::es) t) (bG:(x == ("__debug__":Str))=false:=by decide) (he:starEach (a::es) X.env=(false,eval a X.env)::starEach es X.env:=by rfl) (aM:(backTo pos (starEach es X.env)).any (·.1)=false:=by rfl) :
  PE X (.Call (.Name x p) (a::es) [] pos) (zOO e sp t):=by
 intro pins s σ H Q I h;refine wpAny_Call_Name_kw (zBA I hg hm ?_ bG);refine W.callWith_K (h₀:=X.base) I.ok.mod.kin hk (thn (ha pos pins s σ H _ I h) λus s1 ⟨vs,H1,I1,r,q⟩=>⟨I1.kIn,?_⟩) he aM;have hl:us.length=ps.length:=by rw[← r.length];exact F.len _ _ _ _ _ q
 refine wpAny_call (codeAny_mono (F.run e X.A X.stack s1 H1 ⟨us,[]⟩ us vs Q E0 hr I1.env0 (by have:=hb s1 us I1.kIn (by rw[wHQ];exact hl);rwa [wHQ] at this) r q) λr s' hq=>?_);cases r with
 | error ev=>exact wIh hq
 | ok fl=>
  cases fl with
  | ret u=>exact I1.after hq
  | next=>exact wIh hq
  | brk=>exact wIh hq
  | cont=>exact wIh hq
end
def zKV {K:W.Frag} {C:Addr} {od:Option Obj} {name:Str} {a g:Value} (hc:(W.clsIn K C).isSome=true) (ha:W.findIn K (.ref C) name=some (some a)) (hg:W.specialIn K a "__get__"=some (some g)) (ht:W.takesIn K a=some true) :
  W.findObj K C od name=some (.bind g a):=by
 cases q:W.clsIn K C with
 | none=>rw[q] at hc;cases hc
 | some cd=>simp[W.findObj,q,ha,hg,ht]
def vcl:V->Value
 | .ref D=>.ref D
 | .ty n=>.type n
 | _=>.none
def Its (x:Str):It:=⟨λi _=>i < x.length,λi H v H'=>H'=H/\∃c,x.cps.toList[i]?=some c/\v=.str (tx [c]),λi _=>x.length<=i⟩
def zLd {x:Str} {i c:Nat} (h:x.cps.toList[i]?=some c):x.cps[i]?=some c:=by simpa using h
def zJ3 {P:Program} {w:World} {K:W.Frag} {tg:Expr} (it:Addr) (x:Str) (t:Tok):Turn P w K tg (Its x) [it] it (λi h=>h.IsStrIter it "str_ascii_iterator" x t i) where
 mem:=by simp
 obj:=λi h st b hb=>by obtain⟨o,e,c,d⟩:=st;rw[show b=it from by simpa using hb];exact⟨o,e,λv z=>by rw[d] at z;cases z⟩
 keep:=λi h h' ⟨o,e,r⟩ k=>⟨o,k it (by simp) o e,r⟩
 item:=by
  intro X hP hw hK hc i pins s σ H E I hf st hg;subst hP hw hK;obtain⟨f0,f1,f2,f3,f4,f5⟩:=hf it (by simp);have hi:i < x.cps.toList.length:=by rw[← zAC];exact hg
  have hx:x.cps.toList[i]?=some x.cps.toList[i]:=wHv hi;refine wpAny_pyNext_ascii_item st (zLd hx) λh' bA sb=>?_;have I1:Inv X pins σ H { s with heap:=h',toks:=s.toks+1 }:=I.turned (λb o hb e=>(sb.2 b hb).trans e) f0 f1 f3 f4 f5;obtain⟨o,e,c,d⟩:=id bA;exact⟨_,rfl,zKP (s:={ s with heap:=h',toks:=s.toks+1 }) e c d ⋯ ⟨.str (tx [x.cps.toList[i]]),H,I1,⟨_,rfl⟩,⟨rfl,_,hx,rfl⟩,bA,λb hb=>(hf b hb).1⟩⟩
 done:=by
  intro X hP hw hK hc i pins s σ H E I hf st hg;subst hP hw hK;obtain⟨f0,f1,f2,f3,f4,f5⟩:=hf it (by simp);have hn:x.cps[i]?=none:=by rw[← wIz];exact wIw (by rw[← zAC];exact hg)
  exact wpAny_pyNext_ascii_end (I.ok.hd hc) st hn λh' eb=>⟨rfl,I.turned (t':=s.toks) (λb o hb e=>eb b o hb e) f0 f1 f3 f4 f5⟩
 self:=λ_ _ _ _ _ st h=>wpAny_pyIter_striter_ascii st h
def zJ2 {P:Program} {w:World} {K:W.Frag} {tg:Expr} (it:Addr) (x:Str) (t:Tok):Turn P w K tg (Its x) [it] it (λi h=>h.IsStrIter it "str_iterator" x t i) where
 mem:=by simp
 obj:=λi h st b hb=>by obtain⟨o,e,c,d⟩:=st;rw[show b=it from by simpa using hb];exact⟨o,e,λv z=>by rw[d] at z;cases z⟩
 keep:=λi h h' ⟨o,e,r⟩ k=>⟨o,k it (by simp) o e,r⟩
 item:=by
  intro X hP hw hK hc i pins s σ H E I hf st hg;subst hP hw hK;obtain⟨f0,f1,f2,f3,f4,f5⟩:=hf it (by simp);have hi:i < x.cps.toList.length:=by rw[← zAC];exact hg
  have hx:x.cps.toList[i]?=some x.cps.toList[i]:=wHv hi;refine wpAny_pyNext_wide_item st (zLd hx) λh' bA sb=>?_;have I1:Inv X pins σ H { s with heap:=h',toks:=s.toks+1 }:=I.turned (λb o hb e=>(sb.2 b hb).trans e) f0 f1 f3 f4 f5;obtain⟨o,e,c,d⟩:=id bA;exact⟨_,rfl,zKP (s:={ s with heap:=h',toks:=s.toks+1 }) e c d ⋯ ⟨.str (tx [x.cps.toList[i]]),H,I1,⟨_,rfl⟩,⟨rfl,_,hx,rfl⟩,bA,λb hb=>(hf b hb).1⟩⟩
 done:=by
  intro X hP hw hK hc i pins s σ H E I hf st hg;subst hP hw hK;obtain⟨f0,f1,f2,f3,f4,f5⟩:=hf it (by simp);have hn:x.cps[i]?=none:=by rw[← wIz];exact wIw (by rw[← zAC];exact hg)
  exact wpAny_pyNext_wide_end (I.ok.hd hc) st hn λh' eb=>⟨rfl,I.turned (t':=s.toks) (λb o hb e=>eb b o hb e) f0 f1 f3 f4 f5⟩
 self:=λ_ _ _ _ _ st h=>wpAny_pyIter_striter_wide st h
section
variable {X:Cx} {tg:Expr}
inductive IStr (x:V) (H1:Hp) (R:It->Hp->Prop):Prop
 | mk (z:_):(x=.str z)->(R (Its z) H1)->IStr x H1 R
def zR5 (tl:TE):TI:=λσ H R=>tl σ H λx H1=>IStr x H1 R
def zMN {l:Expr} {tl:TE} (hl:PE X l tl):PI X tg l (zR5 tl):=by
 intro pins s σ H R I h;refine thn (hl pins s σ H _ I h) λv s1 aA=>?_;obtain⟨x,H1,I1,r1,z,e,q⟩:=aA;subst e;obtain⟨t,rfl⟩:=r1;have fp:∀b∈[s1.heap.objs.size],zGm X pins H1 b:=λb hb=>by rw[show b=s1.heap.objs.size from by simpa using hb];exact I1.fpOk (wHA _) (I1.hok.fresh (wHA _))
 cases ha:z.cps.all (· < 128)
 ·exact wpAny_pyIter_wide ha ⟨s1.heap.objs.size,[s1.heap.objs.size],_,_,H1,rfl,I1.kept (t':=s1.toks) λb o e=>wHz _ e,zJ2 _ z t,⟨_,wHG _ rfl,rfl,rfl⟩,fp,q⟩
 exact wpAny_pyIter_ascii ha ⟨s1.heap.objs.size,[s1.heap.objs.size],_,_,H1,rfl,I1.kept (t':=s1.toks) λb o e=>wHz _ e,zJ3 _ z t,⟨_,wHG _ rfl,rfl,rfl⟩,fp,q⟩
end
def zI5 {l:Addr} {x:Str} {g:TG} {tt:TT} {te:TE} {fin:Hp->Prop} {σ0:St} {H0:Hp} (Pv:Nat->St->Hp->Prop) (h0:Pv 0 σ0 H0)
  (hs:∀i c σ H,x.cps.toList[i]?=some c->Pv i σ H->g (.str (tx [c])) σ H λσ2 H2=>tt σ2 H2 λb H3=>if b=true then te σ2 H3 λv H4=>∃xs,H4 l=some (.lst xs)/\xs.length < sizeLine/\Pv (i+1) σ2 (upd H4 l (.lst (xs++[v]))) else Pv (i+1) σ2 H3)
  (hd:∀σ H,Pv x.length σ H->fin H):zEd l (Its x) g tt te fin σ0 H0:=by
 refine⟨λi m σ H=>m=x.length-i/\i<=x.length/\Pv i σ H,⟨x.length,by simp,wIp _,h0⟩,?_⟩;rintro i m σ H ⟨rfl,hi,p⟩;by_cases aE:i < x.length
 ·refine .inr ⟨aE,Pv (i+1),λσ' H' p'=>⟨x.length-(i+1),by omega,rfl,aE,p'⟩,λv H' aA=>?_⟩;obtain⟨e,c,hc,ev⟩:=aA;subst e ev;exact hs i c σ _ hc p
 have e:i=x.length:=by omega
 subst e;exact .inl ⟨wHA _,hd σ H p⟩
open Builtin.Str in
theorem zPA (i:Int) (u:Option Int) (n:Nat) (h:0<=i):strSliceIndices (some i) u 1 n=strSliceIndices (some (min i n)) u 1 n:=by
 have e:max 0 (min i (n:Int))=max 0 (min (min i (n:Int)) (n:Int)):=by omega
 have e1:(if i < 0 then i+(n:Int) else i)=i:=wHD ∅;have e2:(if min i (n:Int) < 0 then min i (n:Int)+(n:Int) else min i (n:Int))=min i (n:Int):=wHD ∅;unfold strSliceIndices;simp only[e1,e2];rw[show (if (1:Int) > 0 then max 0 (min i (n:Int)) else max (-1) (min i ((n:Int)-1)))=(if (1:Int) > 0 then max 0 (min (min i (n:Int)) (n:Int)) else max (-1) (min (min i (n:Int)) ((n:Int)-1))) from by rw[wHF ⋯,wHF ⋯,e]]
open Builtin.Str in
theorem zPB (i:Int) (l:Option Int) (n:Nat) (h:0<=i):strSliceIndices l (some i) 1 n=strSliceIndices l (some (min i n)) 1 n:=by
 have e:max 0 (min i (n:Int))=max 0 (min (min i (n:Int)) (n:Int)):=by omega
 have e1:(if i < 0 then i+(n:Int) else i)=i:=wHD ∅;have e2:(if min i (n:Int) < 0 then min i (n:Int)+(n:Int) else min i (n:Int))=min i (n:Int):=wHD ∅;unfold strSliceIndices;simp only[e1,e2];rw[show (if (1:Int) > 0 then max 0 (min i (n:Int)) else max (-1) (min i ((n:Int)-1)))=(if (1:Int) > 0 then max 0 (min (min i (n:Int)) (n:Int)) else max (-1) (min (min i (n:Int)) ((n:Int)-1))) from by rw[wHF ⋯,wHF ⋯,e]]
theorem zLB (x:Str) (j:Int) (h:0<=j):StrLaws.sliceText x none (some j)=tx (x.cps.toList.take j.toNat):=by
 have e:StrLaws.sliceText x none (some j)=StrLaws.sliceText x none (some (min j x.length)):=by unfold StrLaws.sliceText;rw[zPB j none x.length h]
 have l:=zAC x;rw[e,StrLaws.sliceText_to ⟨by omega,by omega⟩];show tx _=tx _;rw[List.drop_zero,Int.sub_zero];by_cases c:j<=x.length
 ·rw[Int.min_eq_left c]
 rw[Int.min_eq_right ∅,wIo ∅,wIo ∅]
theorem zIO (x:Str) (i:Int) (h:0<=i):StrLaws.sliceText x (some i) none=tx (x.cps.toList.drop i.toNat):=by
 have e:StrLaws.sliceText x (some i) none=StrLaws.sliceText x (some (min i x.length)) none:=by unfold StrLaws.sliceText;rw[zPA i none x.length h]
 have l:=zAC x;rw[e,StrLaws.sliceText_from ⟨by omega,by omega⟩];show tx _=tx _;by_cases c:i<=x.length
 ·rw[Int.min_eq_left c,wIo (by rw[wIu];omega)]
 rw[Int.min_eq_right ∅,List.drop_of_length_le (show x.cps.toList.length<=i.toNat by omega),List.drop_of_length_le (show x.cps.toList.length<=(x.length:Int).toNat by omega)];simp
section
variable {X:Cx}
def zRr:V->Option Int->Option Int->Hp->VK->Prop:=λx lo hi H Q=>∃z,x=.str z/\z.length<=sizeLine/\((lo=none/\∃j,hi=some j/\0<=j/\Q (.str (tx (z.cps.toList.take j.toNat))) H)∨(∃i,lo=some i/\hi=none/\0<=i/\Q (.str (tx (z.cps.toList.drop i.toNat))) H))
def zMD:SlR X zRr:=by
 intro pins s σ H x v vl vu lo hi sl Q I rx hs pl pu h;obtain⟨z,rfl,hz,h⟩:=h;obtain⟨t,rfl⟩:=rx;refine⟨"str",_,F.slot_str_getitem.lookup,typeIs_str _ _ _,?_⟩;obtain⟨o,g1,g2,g3⟩:=hs;rcases h with ⟨rfl,j,rfl,j0,q⟩ | ⟨i,rfl,rfl,i0,q⟩
 ·cases pl;cases pu with
  | int _ tj=>
   refine wpAny_getItem_str_slice (l:=none) (u:=some (j,tj)) (st:=none) ⟨o,g1,g2,g3⟩ rfl (post_val_or_str (c:=((1:Int) == 1 && (slicePicked z none (some (j,tj)) none).length == z.length)=true) ⟨wHI (Txt.slice_le z _ _) hz,λt' k=>⟨.str _,H,I.tok _,⟨_,rfl⟩,?_⟩⟩);have e:=zLB z j j0;unfold StrLaws.sliceText at e;unfold slicePicked;rw[show (none:Option (Int × Tok)).map (·.1)=none from rfl,show (some (j,tj)).map (·.1)=some j from rfl];rw[show ((none:Option Int)).getD 1=1 from rfl];rw[e];exact q
 cases pu;cases pl with
 | int _ ti=>
  refine wpAny_getItem_str_slice (l:=some (i,ti)) (u:=none) (st:=none) ⟨o,g1,g2,g3⟩ rfl (post_val_or_str (c:=((1:Int) == 1 && (slicePicked z (some (i,ti)) none none).length == z.length)=true) ⟨wHI (Txt.slice_le z _ _) hz,λt' k=>⟨.str _,H,I.tok _,⟨_,rfl⟩,?_⟩⟩);have e:=zIO z i i0;unfold StrLaws.sliceText at e;unfold slicePicked;rw[show (none:Option (Int × Tok)).map (·.1)=none from rfl,show (some (i,ti)).map (·.1)=some i from rfl];rw[show ((none:Option Int)).getD 1=1 from rfl];rw[e];exact q
inductive RInS (x:V) (y:V) (H:Hp) (Q:VK):Prop
 | mk (c:_) (z:_):(x=.str (tx [c]))->(y=.str z)->(Q (.bl (decide (c∈z.cps.toList))) H)->RInS x y H Q
def zFo:OpR X (compareOp .In) (λx y H Q=>RInS x y H Q):=by intro pins s σ H x y v u Q I rx ry h;obtain⟨c,z,rfl,rfl,q⟩:=h;refine zKs pins s σ H _ _ v u Q I rx ry ⟨tx [c],z,rfl,rfl,?_⟩;rw[show tx [c]=(⟨#[c]⟩:Str) from rfl,StrLaws.found_one];exact q
theorem zI8:∀{bs:List Bool} {us:List Value},zAv (bs.map V.bl) us->us=bs.map Value.bool
 | [],_,.nil=>rfl
 | b::bs,_,.cons e r=>by rw[show _=Value.bool b from e,zI8 r];rfl
inductive RAll (K:W.Frag) (xs:List V) (H:Hp) (Q:VK):Prop
 | mk (p:Addr) (bs:List Bool):(xs=[.ref p])->(SqL K H p (bs.map V.bl))->(Q (.bl (bs.all id)) H)->RAll K xs H Q
def zM4 (hc:X.calm=true):zBp X (.builtin "all") (λxs H Q=>RAll X.K xs H Q):=by
 intro pins s σ H xs us Q I r h;obtain⟨p,bs,rfl,hS,q⟩:=h;obtain⟨u,rfl,ru⟩:=r.one;cases ru;obtain⟨its,rv,pl,hz⟩:=I.list hS;have hi:=zI8 rv;have hp:p < s.heap.objs.size:=by obtain⟨o,n,e,_⟩:=pl;exact wHH e
 refine call_all_walk (wpAny_pyIter_list pl.isList ?_);refine⟨s.heap.objs.size,_,_,_,_,_,λi=>bs.getD i true,rfl,Walks.list (A:=X.A.in1) (show X.A.in1.handled=none from I.ok.hd hc) s.heap.objs.size p (wHO hp) its.toArray,⟨⟨_,wHG _ rfl,rfl,rfl⟩,pl.isList.push _⟩,λi v s' Q' E' hv q'=>?_,λh' tk hm=>?_⟩
 ·have bU:its.toArray[i]?=some v:=hv;have:v=.bool (bs.getD i true):=by
   rw[hi] at bU;simp only[List.getElem?_toArray,wHB] at bU;rw[wHw];cases e:bs[i]? with
   | none=>rw[e] at bU;cases bU
   | some b=>rw[e] at bU;exact (wHE bU).symm
  rw[this];exact wpAny_truthy_bool q'
 have e:(List.range its.toArray.size).all (λi=>bs.getD i true)=bs.all id:=by
  rw[wHL,hi,wHt];rw[Bool.eq_iff_iff,List.all_eq_true,List.all_eq_true];constructor
  ·intro h b hb;obtain⟨i,aE,rfl⟩:=List.getElem_of_mem hb;have:=h i (List.mem_range.mpr aE);rw[wHw,wHv aE] at this;exact this
  intro h i hi;rw[wHw,wHv (List.mem_range.mp hi)];exact h _ (wHZ _)
 rw[e];exact⟨.bl (bs.all id),H,I.kept λb o q=>hm b o (λz=>by rw[wIM z] at q;exact absurd (wHH q) (Nat.lt_irrefl _)) (wHz _ q),rfl,q⟩
def zR0 (te:TE) (t:TJ):TJ:=λσ H out Q=>te σ H λx H1=>∃z,x=.str z/\(∀c∈z.cps.toList,c < 16 ^ 8)/\z.length<=100000/\∀y:Str,y.length<=1000002->(out++y).length<=sizeLine/\t σ H1 (out++y) Q
def zEu {e:Expr} {te:TE} {pos} {es:List Expr} {t:TJ} (he:PE X e te) (h:PJ X es t):PJ X (.FormattedValue e 114 none pos::es) (zR0 te t):=λpins s σ H out Q I hq=>by
 refine joinParts_cons (wpAny_FormattedValue_repr (thn (he pins s σ H _ I hq) λv s1 aA=>?_));obtain⟨x,H1,I1,r1,z,ez,hc,hz,q⟩:=aA;subst ez;obtain⟨t1,rfl⟩:=r1;have lr:=PySem.StrLaws.reprText_len z hc;have lr2:(PySem.reprText z).length<=1000002:=by omega
 have lr3:(PySem.reprText z).length<=sizeLine:=sz _ ∅;obtain⟨q1,q2⟩:=q _ lr2;exact wpAny_pyReprObj_str (formatField_str (λt' tk=>⟨q1,h pins _ σ H1 _ Q (I1.tok _) q2⟩) lr3) lr3
end
def zQy {P:Program} {w:World} {X:Cx}:zDg (CXx P w) X E0:=by intro pins σ H s ev s' I hx;obtain⟨_,_,_,_,_,_,_,_,_,_,_,_,_,_,_,q⟩:=hx;exact q.elim
inductive Deed where
 | house (n:Str)
 | pact (g t:Str) (p f l:Int)
 | loss (h:Str) (d a:Int)
def Deed.tag:Deed->Str
 | .house _=>Str.ofString "house"
 | .pact ..=>Str.ofString "pact"
 | .loss ..=>Str.ofString "loss"
def Deed.rest:Deed->List V
 | .house n=>[.str n]
 | .pact g t p f l=>[.str g,.str t,.int p,.int f,.int l]
 | .loss h d a=>[.str h,.int d,.int a]
def Deed.vs (d:Deed):List V:=.str d.tag::d.rest
def Deed.isH:Deed->Bool
 | .house _=>true
 | _=>false
def Deed.isP:Deed->Bool
 | .pact ..=>true
 | _=>false
def Deed.isL:Deed->Bool
 | .loss ..=>true
 | _=>false
def tg1:decide (V.str "pact"=V.str "house")=false:=by nofun
def tg2:decide (V.str "loss"=V.str "house")=false:=by nofun
def tg3:decide (V.str "house"=V.str "pact")=false:=by nofun
def tg4:decide (V.str "loss"=V.str "pact")=false:=by nofun
def tg5:decide (V.str "house"=V.str "loss")=false:=by nofun
def tg6:decide (V.str "pact"=V.str "loss")=false:=by nofun
def zJ8 (d:Deed):decide (V.str d.tag=V.str "house")=d.isH:=by
 cases d
 ·exact wHU rfl
 ·exact tg1
 exact tg2
def zL5 (d:Deed):decide (V.str d.tag=V.str "pact")=d.isP:=by
 cases d
 ·exact tg3
 ·exact wHU rfl
 exact tg4
def zL6 (d:Deed):decide (V.str d.tag=V.str "loss")=d.isL:=by
 cases d
 ·exact tg5
 ·exact tg6
 exact wHU rfl
def zQ (ds:List Deed):List Str:=ds.filterMap λd=>match d with | .house n=>some n | _=>none
abbrev Pct:=Str × Str × Int × Int × Int
def Pct.vs (p:Pct):List V:=[.str p.1,.str p.2.1,.int p.2.2.1,.int p.2.2.2.1,.int p.2.2.2.2]
def zAb (ds:List Deed):List Pct:=ds.filterMap λd=>match d with | .pact g t p f l=>some (g,t,p,f,l) | _=>none
abbrev Lss:=Str × Int × Int
def Lss.vs (p:Lss):List V:=[.str p.1,.int p.2.1,.int p.2.2]
def zA6 (ds:List Deed):List Lss:=ds.filterMap λd=>match d with | .loss h y a=>some (h,y,a) | _=>none
def zCe (a b:List Deed):zQ (a++b)=zQ a++zQ b:=List.filterMap_append
def zCa (a b:List Deed):zAb (a++b)=zAb a++zAb b:=List.filterMap_append
def zB2 (a b:List Deed):zA6 (a++b)=zA6 a++zA6 b:=List.filterMap_append
def zE2 {ds:List Deed} {i:Nat} {d:Deed} (h:ds[i]?=some d):zQ (ds.take (i+1))=zQ (ds.take i)++zQ [d]:=by rw[← zCe,wId,h];rfl
def zEx {ds:List Deed} {i:Nat} {d:Deed} (h:ds[i]?=some d):zAb (ds.take (i+1))=zAb (ds.take i)++zAb [d]:=by rw[← zCa,wId,h];rfl
def zDK {ds:List Deed} {i:Nat} {d:Deed} (h:ds[i]?=some d):zA6 (ds.take (i+1))=zA6 (ds.take i)++zA6 [d]:=by rw[← zB2,wId,h];rfl
def zGH (ds:List Deed):(zQ ds).length<=ds.length:=List.length_filterMap_le _ _
def zKn (ds:List Deed):(zAb ds).length<=ds.length:=List.length_filterMap_le _ _
def zJf (ds:List Deed):(zA6 ds).length<=ds.length:=List.length_filterMap_le _ _
def zBk (x:Addr) (H H':Hp):Prop:=∀b o,b≠x->H b=some o->H' b=some o
def zBk.of {x:Addr} {H H':Hp} (s:zAi H H'):zBk x H H':=λb o _ e=>s b o e
def zBk.trans {x:Addr} {H H1 H2:Hp} (a:zBk x H H1) (b:zBk x H1 H2):zBk x H H2:=λc o n e=>b c o n (a c o n e)
def zBk.upd {x:Addr} {H:Hp} {o:HO}:zBk x H (upd H x o):=λb u n e=>(zJ n).trans e
def zBk.seq {K:W.Frag} {x:Addr} {H H':Hp} {a:Addr} {xs:List V} (k:zBk x H H') (n:a≠x) (h:SqL K H a xs):SqL K H' a xs:=by
 rcases h with (h | ⟨o,h⟩) | h
 ·exact .inl (.inl (k _ _ n h))
 ·exact .inl (.inr ⟨o,k _ _ n h⟩)
 exact .inr h
def zAs (H:Hp) (C b tl:Addr) (ds:List Deed):Prop:=
 ∃(dx:Addr) (q:List Addr),H b=some (.ins C dx [("told",.ref tl)])/\H tl=some (.lst (q.map V.ref))/\q.length=ds.length/\∀(i:Nat) (a:Addr) (d:Deed),q[i]?=some a->ds[i]?=some d->H a=some (.tup d.vs)
def zAs.same {H H':Hp} {C b tl:Addr} {ds:List Deed} (x:zAs H C b tl ds) (s:zAi H H'):zAs H' C b tl ds:=by obtain⟨dx,q,h1,h2,h3,h4⟩:=x;exact⟨dx,q,s _ _ h1,s _ _ h2,h3,λi a d e1 e2=>s _ _ (h4 i a d e1 e2)⟩
def zAs.keep {H H':Hp} {C b tl y:Addr} {ds:List Deed} (x:zAs H C b tl ds) (k:zBk y H H') (n:tl≠y) (ho:∃xs,H y=some (.lst xs)):zAs H' C b tl ds:=by obtain⟨dx,q,h1,h2,h3,h4⟩:=x;obtain⟨xs,hy⟩:=ho;exact⟨dx,q,k _ _ (zFS h1 hy (by intro z;cases z)) h1,k _ _ n h2,h3,λi a d e1 e2=>k _ _ (zFS (h4 i a d e1 e2) hy (by intro z;cases z)) (h4 i a d e1 e2)⟩
def zAs.snoc {H:Hp} {C b tl p:Addr} {ds:List Deed} {d:Deed} {q:List Addr} {dx:Addr} (h1:H b=some (.ins C dx [("told",.ref tl)])) (h2:H tl=some (.lst (q.map V.ref))) (h3:q.length=ds.length)
  (h4:∀(i:Nat) (a:Addr) (d:Deed),q[i]?=some a->ds[i]?=some d->H a=some (.tup d.vs)) (hp:H p=some (.tup d.vs)):zAs (upd H tl (.lst (q.map V.ref++[V.ref p]))) C b tl (ds++[d]):=by
 refine⟨dx,q++[p],?_,?_,by rw[wHy,wHy,h3];rfl,λi a d' e1 e2=>?_⟩
 ·rw[zJ (zFS h1 h2 (by intro z;cases z))];exact h1
 ·rw[zB,wHC];rfl
 have g:H a=some (.tup d'.vs):=by
  by_cases c:i < q.length
  ·rw[wHJ c] at e1;rw[wHJ ∅] at e2;exact h4 i a d' e1 e2
  rw[wHK ∅] at e1;rw[wHK ∅] at e2;have z:i-q.length=0:=by have:=(wIL e1).1;rw[wIl] at this;omega
  have z2:i-ds.length=0:=by omega
  rw[z] at e1;rw[z2] at e2;cases e1;cases e2;exact hp
 rw[zJ (zFS g h2 (by intro z;cases z))];exact g
def zOt {n:Nat}:Str.empty.length<=n:=wIp _
def zQY {a b:Str} {n k:Nat} (ha:a.length<=n) (hb:b.length<=k):(a++b).length<=n+k:=by rw[zFQ a,zFQ b,zAL,zAI,wHy];rw[zAC] at ha hb;omega
def zGl (n:Str):Prop:=(∀c∈n.cps.toList,97<=c/\c<=122)/\1<=n.length/\n.length<=8
def zKJ (c:Nat):Bool:=decide (c∈(Str.ofString "abcdefghijklmnopqrstuvwxyz").cps.toList)
def zGO (c:Nat):zKJ c=true↔97<=c/\c<=122:=by
 have e:(Str.ofString "abcdefghijklmnopqrstuvwxyz").cps.toList=(List.range 26).map (97 + ·):=by nofun
 unfold zKJ;rw[e,decide_eq_true_iff,List.mem_map];constructor
 ·rintro⟨a,ha,rfl⟩;have:=List.mem_range.mp ha;omega
 rintro⟨h1,h2⟩;exact⟨c-97,List.mem_range.mpr ∅,by omega⟩
instance (n:Str):Decidable (zGl n):=inferInstanceAs (Decidable (_/\_/\_))
def zBL (n:Str):Prop:=(∀c∈n.cps.toList,c < 1114112)/\n.length<=1000
def zBL.c16 {n:Str} (h:zBL n):∀c∈n.cps.toList,c < 16 ^ 8:=λc hc=>by have:=h.1 c hc;omega
def zGl.sane {n:Str} (h:zGl n):zBL n:=⟨λc hc=>by have:=h.1 c hc;omega,by have:=h.2.2;omega⟩
def zKL (n:Str) (ns:List Str):inV (.str n) (ns.map V.str)=decide (n∈ns):=by
 unfold inV;rw[Bool.eq_iff_iff,decide_eq_true_iff]
 induction ns with
 | nil=>simp
 | cons x r ih=>
  simp only[wH6,List.any_cons,Bool.or_eq_true,wIb];rw[ih];constructor
  ·rintro (z | z)
   ·left
    have z':(x == n)=true:=z;exact (beq_iff_eq.mp z').symm
   exact .inr z
  rintro (z | z)
  ·left
   show (x == n)=true;rw[z];exact beq_self_eq_true _
  exact .inr z
def zBy (ns:List Str):(ns.map V.str).all zEA=true:=by
 rw[List.all_eq_true];intro x hx;obtain⟨z,_,rfl⟩:=List.mem_map.mp hx
 rfl
mutual
inductive RdD (K:W.Frag) (H:Hp):V->PyData->Prop
 | non:RdD K H .non .none
 | bl (b:Bool):RdD K H (.bl b) (.bool b)
 | int (i:Int):RdD K H (.int i) (.int i)
 | str (x:Str):RdD K H (.str x) (.str x)
 | lst {a:Addr} {xs:List V} {ds:List PyData}:SqL K H a xs->RdA K H xs ds->RdD K H (.ref a) (.list ds)
 | tup {a:Addr} {xs:List V} {ds:List PyData}:SqT K H a xs->RdA K H xs ds->RdD K H (.ref a) (.tuple ds)
inductive RdA (K:W.Frag) (H:Hp):List V->List PyData->Prop
 | nil:RdA K H [] []
 | cons {x:V} {xs:List V} {d:PyData} {ds:List PyData}:RdD K H x d->RdA K H xs ds->RdA K H (x::xs) (d::ds)
end
section
variable {X:Cx} {pins:List (Addr × Obj)} {σ:St} {H:Hp} {s:Shared}
mutual
theorem RdD.reads (I:Inv X pins σ H s):∀{x:V} {d:PyData},RdD X.K H x d->∀u,zAV x u->∃as,Reads s.heap u d as
 | _,_,.non,u,r=>by cases r;exact⟨_,.none⟩
 | _,_,.bl b,u,r=>by cases r;exact⟨_,.bool b⟩
 | _,_,.int i,u,r=>by obtain⟨t,rfl⟩:=r;exact⟨_,.int i t⟩
 | _,_,.str i,u,r=>by obtain⟨t,rfl⟩:=r;exact⟨_,.str i t⟩
 | _,_,.lst h g,u,r=>by cases r;obtain⟨its,rv,pl,hz⟩:=I.list h;obtain⟨as,ra⟩:=RdA.reads I g its rv;obtain⟨o,n,e1,e2,_,e3⟩:=pl;exact⟨_,.list e1 e2 e3 (by simpa using ra)⟩
 | _,_,.tup h g,u,r=>by cases r;obtain⟨its,rv,pl,hz⟩:=I.tuple h;obtain⟨as,ra⟩:=RdA.reads I g its rv;obtain⟨o,e1,e2,n,e3⟩:=pl;exact⟨_,.tuple e1 e2 e3 (by simpa using ra)⟩
theorem RdA.reads (I:Inv X pins σ H s):∀{xs:List V} {ds:List PyData},RdA X.K H xs ds->∀us,zAv xs us->∃as,ReadsAll s.heap us ds as
 | _,_,.nil,us,r=>by cases r;exact⟨_,.nil⟩
 | _,_,.cons h g,us,r=>by
  cases r with
  | cons r1 r2=>
   obtain⟨a1,h1⟩:=RdD.reads I h _ r1;obtain⟨a2,h2⟩:=RdA.reads I g _ r2;exact⟨_,.cons h1 h2⟩
end
inductive REqD (K:W.Frag) (x:V) (y:V) (H:Hp) (Q:VK):Prop
 | mk (d e:PyData):RdD K H x d->RdD K H y e->(PySem.SeqAt.shaped d=true)->(PySem.SeqAt.shaped e=true)->(Q (.bl (PyData.eqv d e)) H)->REqD K x y H Q
def zKv (hu:X.A.units+64 < cLine):OpR X (compareOp .Eq) (λx y H Q=>REqD X.K x y H Q):=by intro pins s σ H x y v u Q I rx ry h;obtain⟨d,e,h1,h2,h3,h4,q⟩:=h;obtain⟨as,r1⟩:=h1.reads I v rx;obtain⟨bs,r2⟩:=h2.reads I u ry;exact eq_dataH r1 r2 h3 h4 hu ⟨.bl _,H,I,rfl,q⟩
inductive RNeD (K:W.Frag) (x:V) (y:V) (H:Hp) (Q:VK):Prop
 | mk (d e:PyData):RdD K H x d->RdD K H y e->(PySem.SeqAt.shaped d=true)->(PySem.SeqAt.shaped e=true)->(Q (.bl (!PyData.eqv d e)) H)->RNeD K x y H Q
def zMR (hu:X.A.units+64 < cLine):OpR X (compareOp .NotEq) (λx y H Q=>RNeD X.K x y H Q):=by intro pins s σ H x y v u Q I rx ry h;obtain⟨d,e,h1,h2,h3,h4,q⟩:=h;obtain⟨as,r1⟩:=h1.reads I v rx;obtain⟨bs,r2⟩:=h2.reads I u ry;exact ne_dataH r1 r2 h3 h4 hu ⟨.bl _,H,I,rfl,q⟩
end
theorem zEr {K:W.Frag} {H:Hp}:∀ns:List Str,RdA K H (ns.map V.str) (ns.map PyData.str)
 | []=>.nil
 | n::ns=>.cons (.str n) (zEr ns)
def sOk {n:Str} (h:zBL n):PyData.strOk n=true:=by unfold PyData.strOk;rw[← Array.all_toList,List.all_eq_true];intro c hc;exact wHU (h.1 c hc)
def zBP {ns:List Str} (h:∀n∈ns,zBL n):PySem.SeqAt.shaped (.list (ns.map PyData.str))=true:=by
 have c:∀ns:List Str,(∀n∈ns,zBL n)->PyData.canLayAll0 (ns.map PyData.str)=true/\PyData.depthAll (ns.map PyData.str)=0:=by
  intro ns
  induction ns with
  | nil=>intro _;exact⟨rfl,rfl⟩
  | cons n ns ih=>
   intro h;obtain⟨h1,h2⟩:=ih λm hm=>h m (wHV _ hm);refine⟨?_,?_⟩
   ·show (PyData.strOk n && PyData.canLayAll0 (ns.map PyData.str))=true;rw[sOk (h n wIg),h1];rfl
   show max 0 (PyData.depthAll (ns.map PyData.str))=0;rw[h2];rfl
 obtain⟨h1,h2⟩:=c ns h;show (PyData.canLayAll0 (ns.map PyData.str) && decide (PyData.depthAll (ns.map PyData.str)+1<=64))=true;rw[h1,h2];rfl
def zDz (xs:List PyData):PyData.eqv (.list xs) (.list [])=xs.isEmpty:=by cases xs<;>simp[PyData.eqv,PyData.eqvAll]
end L2
namespace L2
open PySem PySem.Spec PyProof.Rows PySem.W
section
variable {prog:Program} {w:World} {A:Around} {E:Value->Shared->Prop} {s:Shared} {K:W.Frag} {x C:Addr} {ox:Obj} {od:Option Obj} {name:Str} {tk:Tok}
def zLz {g a:Value} {Q:Fin->Shared->Prop} (X:K.In s.heap) (I:W.InstAt s.heap x ox C od) (hf:W.findObj K C od name=some (.bind g a))
  (h:wpAny (model prog w) A (call g [a,.ref x,.ref C]) (λv s'=>Q (.done (.ret v)) s') E s) :
  wpAny (model prog w) A (Builtin.«object.__getattribute__» ⟨[.ref x,.str name tk],[]⟩) Q E s:=by
 have L0:=I.type (M:=model prog w);have L1:=looks_find (M:=model prog w) X I hf;unfold Builtin.«object.__getattribute__»;refine wHu (wHx ?_);refine wHu (wHx ?_);refine wHu (L0.here ?_);refine wHu (L1.here ?_);show wpAny _ _ (holding [a] (call g [a,.ref x,.ref C]) >>= ret) _ _ _;exact wHu (wIn (wH4 h (λv s' z=>wHx z) λ_ _ z=>z))
def zJs {v:Value} {Q:Fin->Shared->Prop} (X:K.In s.heap) (I:W.InstAt s.heap x ox C od) (hf:W.findObj K C od name=some (.value v))
  (h:Q (.done (.ret v)) s) :
  wpAny (model prog w) A (Builtin.«object.__getattribute__» ⟨[.ref x,.str name tk],[]⟩) Q E s:=by
 have L0:=I.type (M:=model prog w);have L1:=looks_find (M:=model prog w) X I hf;unfold Builtin.«object.__getattribute__»;refine wHu (wHx ?_);refine wHu (wHx ?_);refine wHu (L0.here ?_);refine wHu (L1.here ?_);exact wHx h
def zJt {M:Model} {dQ:Value} {Q:Unit->Shared->Prop} (X:K.In s.heap) (I:W.InstAt s.heap x ox C od) (hm:W.mroIn K C (.type "BaseException")=some true) (hq:Q PUnit.unit s) :
  wpAny M A (checkBuiltinCall "BaseException.__getattribute__" ⟨[.ref x,dQ],[]⟩) Q E s:=by
 have L0:=I.type (M:=M);have L1:=looks_mroIn (M:=M) X hm;have hk:builtinKind "BaseException.__getattribute__"=some .slot:=by nofun
 have eL:splitId "BaseException.__getattribute__"=some ("BaseException","__getattribute__"):=by nofun
 have ha:=F.args_bexc_ga (.ref x) dQ;simp only[checkBuiltinCall,hk,eL];refine wHu ?_;unfold isInstance;refine wHu (L0.here (L1.here ?_));obtain⟨hh,gg,d,t,os⟩:=s
 repeat (first | exact hq | wp_step)
def zM8 {fill expr:Bool} {Q:Value->Shared->Prop} (X:K.In s.heap) (I:W.InstAt s.heap x ox C od) (hga:W.findIn K (.ref C) "__getattribute__"=some (some (.builtin "BaseException.__getattribute__")))
  (hk:W.findIn K (.ref C) "__getattr__"=some none) (hm:W.mroIn K C (.type "BaseException")=some true)
  (h:∀A',wpAny (model prog w) A' (Builtin.«object.__getattribute__» ⟨[.ref x,.str name tk],[]⟩) (λfin s'=>match fin with | .done (.ret v)=>wpAny (model prog w) A (handedOut v) Q E s' | _=>False) (λ_ _=>False) s) :
  wpAny (model prog w) A (getAttrBy (.ref x) (.str name tk) fill expr) Q E s:=by
 have L0:=I.type (M:=model prog w);have L1:=looks_findIn (M:=model prog w) X hga;have L2:=looks_findIn (M:=model prog w) X hk;have lu:(expr && onTheHeap (Value.builtin "BaseException.__getattribute__"))=false:=by cases expr<;>rfl
 have hx2:(Value.builtin "BaseException.__getattribute__" == Value.builtin "object.__getattribute__")=false:=by nofun
 unfold getAttrBy;refine wIn (wHu (L0.here (wHu (L1.here ?_))));dsimp only;rw[hx2,Bool.and_false,wHD ⋯];unfold getAttrByItsOwn;refine wHu ?_;show wpAny _ _ (typeLookup (.ref C) "__getattr__") _ _ _;refine L2.here ?_;refine wHu (wpAny_attempt (wIn ?_));unfold callGetattribute;rw[lu,wHD ⋯];unfold boundAndCalled;refine wHu (wpAny_of_eq (F.attrBase_ValueError.ga.bind (.ref x)) ?_);refine wpAny_call ?_;refine codeAny_call_builtin F.attrBase_ValueError.ga.plain F.entry_bexc_ga (zJt X I hm (wH4 (h _) (λfin s' z=>?_) λ_ _ z=>z.elim));rcases fin with (_ | _ | _ | _) | _<;>first | exact z | exact z.elim
end
structure ExcX (K:W.Frag) (C:Addr):Prop where
 ga:W.findIn K (.ref C) "__getattribute__"=some (some (.builtin "BaseException.__getattribute__"))
 gt:W.findIn K (.ref C) "__getattr__"=some none
 mb:W.mroIn K C (.type "BaseException")=some true
 cl:(W.clsIn K C).isSome=true
 fc:W.findIn K (.ref C) "__class__"=some (some (.builtin "object.__class__"))
 sg:W.specialIn K (.builtin "object.__class__") "__get__"=some (some (.builtin "getset_descriptor.__get__"))
 tk:W.takesIn K (.builtin "object.__class__")=some true
 mo:W.mroIn K C (.type "object")=some true
def zGK {K:W.Frag} {e C:Addr} (k:ExcX K C):PySem.W.KitX K (.ref e) (.ref C) (λh=>∃oe od,W.InstAt h e oe C od) where
 ty:=λ_ _ _ ⟨_,_,I⟩=>I.type
 it:=λM h X _=>by
  have hc:=k.cl;unfold W.clsIn at hc
  split at hc
  case h_2=>cases hc
  case h_1 c' d' cd' fH ho=>
   intro A' Q' E' s' kk q;unfold isType loadHead;exact wHu (wpAny_loadPart (kk _ _ (X _ _ ho)) (wHx q))
 ne:=λh tp dd its n sl X htp=>by
  refine wIO λq=>?_;have z:C=tp:=Value.ref.inj (beq_iff_eq.mp q);subst z;have hc:=k.cl;unfold W.clsIn at hc
  split at hc
  case h_2=>cases hc
  case h_1 c' d' cd' fH ho=>cases (X _ _ ho).symm.trans htp
 ca:=λ{prog w A E Q s} X I q=>by obtain⟨oe,od,I⟩:=I;unfold getAttr? getAttrBy?;refine wHu (wpAny_mkText (wHu (wpAny_attempt ?_)));refine zM8 (s:={ s with toks:=s.toks+1 }) X I k.ga k.gt k.mb λA'=>?_;refine zLz (s:={ s with toks:=s.toks+1 }) X I (zKV k.cl k.fc k.sg k.tk) ?_;exact wpAny_call (W.class_get (s:={ s with toks:=s.toks+1 }) (ox:=oe) (od:=od) X I k.mo (W.handed_on rfl (wHx q)))
def zCz (H:Hp) (dd:Option Addr):Prop:=∀dx,dd=some dx->∃fs,H dx=some (.xd fs)
def zCz.no {H:Hp}:zCz H none:=λ_ e=>nomatch e
def zCz.same {H H':Hp} {dd:Option Addr} (x:zCz H dd) (s:zAi H H'):zCz H' dd:=λdx e=>let ⟨fs,q⟩:=x dx e;⟨fs,s _ _ q⟩
section
variable {X:Cx}
inductive RIsX (K:W.Frag) (xs:List V) (H:Hp) (Q:VK):Prop
 | mk (e:_) (C:_) (dd:_) (y:_) (b:_):(xs=[.ref e,y])->(H e=some (zJp e (.ref C) dd))->zCz H dd->ExcX K C->(vcl y≠.none)->(W.kitOne K (.ref C) (vcl y)=some b)->(Q (.bl b) H)->RIsX K xs H Q
def zBf:zBp X (.builtin "isinstance") (λxs H Q=>RIsX X.K xs H Q):=by
 intro pins s σ H xs us Q I r h;obtain⟨e,C,dd,y,b,rfl,he,hD,k,hv,hb,q⟩:=h;obtain⟨u,v,rfl,r1,r2⟩:=zAv.two r;cases (show u=Value.ref e from r1);have ev:v=vcl y:=by
  cases y<;>first
   | exact absurd rfl hv
   | exact r2
 rw[ev];obtain⟨oe,vs,g1,g2,g3,g4,g5⟩:=zJp.get I.hok he;have nc:W.notCls oe=true:=by
  obtain⟨c,d,dt,sl⟩:=oe;cases g4
  rfl
 cases dd with
 | none=>exact W.kia_one (zGK k) I.kIn ⟨oe,none,g1,g2,nc,by rw[g3];trivial⟩ hb (λz=>nomatch z) λtk=>⟨.bl b,H,I.tok _,rfl,q⟩
 | some dx=>
  obtain⟨fs,hx⟩:=hD dx rfl;obtain⟨ob,lK⟩:=zIy I.hok hx;exact W.kia_one (zGK k) I.kIn ⟨oe,some ob,g1,g2,nc,by rw[g3];exact lK⟩ hb (λz=>nomatch z) λtk=>⟨.bl b,H,I.tok _,rfl,q⟩
end
def zMy {K:W.Frag} {a l:Addr} {ys:List V} {g:TG} {tt:TT} {te:TE} {fin:Hp->Prop} {σ0:St} {H0:Hp} (Pv:Nat->St->Hp->Prop) (h0:Pv 0 σ0 H0) (hl:∀i σ H,i<=ys.length->Pv i σ H->SqT K H a ys)
  (hs:∀i x σ H,ys[i]?=some x->Pv i σ H->g x σ H λσ2 H2=>tt σ2 H2 λb H3=>if b=true then te σ2 H3 λv H4=>∃xs,H4 l=some (.lst xs)/\xs.length < sizeLine/\Pv (i+1) σ2 (upd H4 l (.lst (xs++[v]))) else Pv (i+1) σ2 H3)
  (hd:∀σ H,Pv ys.length σ H->fin H):zEd l (Itt K a) g tt te fin σ0 H0:=by
 refine⟨λi m σ H=>m=ys.length-i/\i<=ys.length/\Pv i σ H,⟨ys.length,by simp,wIp _,h0⟩,?_⟩;rintro i m σ H ⟨rfl,hi,p⟩;have q:=hl i σ H hi p;by_cases aE:i < ys.length
 ·refine .inr ⟨⟨ys,ys[i],q,by simp[aE]⟩,Pv (i+1),λσ' H' p'=>⟨ys.length-(i+1),by omega,rfl,aE,p'⟩,λx H' y=>?_⟩;obtain⟨e,y⟩:=y;subst e;exact hs i x σ _ (y ys q) p
 have e:i=ys.length:=by omega
 subst e;exact .inl ⟨⟨ys,q,wHA _⟩,hd σ H p⟩
theorem zF4 (k:Str):∀{vs:List Value} {ys:List Str},StrsAre vs ys->∀(i:Nat) (h:i < vs.length) (h':i < ys.length),isStrOf k vs[i]=(ys[i] == k)
 | _,_,.nil,i,h,_=>absurd h (wIy _)
 | _,_,.cons n t r,0,_,_=>rfl
 | _,_,.cons n t r,i+1,h,h'=>zF4 k r i (Nat.lt_of_succ_lt_succ h) (Nat.lt_of_succ_lt_succ h')
section
variable {X:Cx}
def zM1:zBp X (.type "str") (λxs H Q=>(∃i,xs=[.int i]/\i.natAbs.log2 < 1920/\Q (.str (toString i)) H)∨∃z,xs=[.str z]/\Q (.str z) H):=by
 intro pins s σ H xs us Q I r h;rcases h with ⟨i,a,b,c⟩ | ⟨z,rfl,q⟩
 ·exact zAu pins s σ H xs us Q I r ⟨i,a,b,c⟩
 obtain⟨u,rfl,ru⟩:=r.one;obtain⟨t,rfl⟩:=ru;exact P.str_of_str ⟨.str z,H,I,⟨_,rfl⟩,q⟩
inductive RIndex (K:W.Frag) (x:V) (vs:List V) (H:Hp) (Q:VK):Prop
 | mk (l:Addr) (ns:List Str) (n:Str):(x=.ref l)->(vs=[.str n])->(SqL K H l (ns.map V.str))->(n∈ns)->(Q (.int (ns.idxOf n:Nat)) H)->RIndex K x vs H Q
def zMK (K:W.Frag):V->List V->Hp->VK->Prop:=λx vs H Q=>RIndex K x vs H Q
def zMl:MtR X "list.index" (zMK X.K):=by
 intro pins s σ H x vs v us Q I rx rv h;obtain⟨l,ns,n,rfl,rfl,hS,hn,q⟩:=h;cases rx;obtain⟨u,rfl,ru⟩:=rv.one;obtain⟨tu,rfl⟩:=ru;obtain⟨its,r,pl,hz⟩:=I.list hS;have ia:StrsAre its ns:=zHr r;have aD:its.length=ns.length:=by rw[← r.length,wHt]
 obtain⟨⟨cls,dd,data,sl⟩,ho,hc,nn,hd⟩:=id pl.isList;simp only at hc hd;subst hc hd;have hj:ns.idxOf n < ns.length:=List.idxOf_lt_length_iff.mpr hn;rw[wHt] at hz;have hs:sizeLine=16777216:=sizeLine_eq;refine call_meets F.slot_list_index ⟨_,ho,rfl⟩ F.entry_list_index (F.args_list_index_2 _ _)
  (PySem.SeqAt.list_indexAt l its.toArray nn dd sl (.str n tu) (isStrOf n) (ns.idxOf n) (by simpa [aD] using hj) ∅ ?_ ?_) ⟨ho,λy hy=>(eq_isStrOf n tu ia y (by simpa using hy)).at _ _,⟨.int _,H,I.tok _,⟨_,rfl⟩,q⟩⟩
 ·show isStrOf n its[ns.idxOf n]=true;rw[zF4 n ia _ ∅ hj];simpa using List.getElem_idxOf hj
 intro j hjs aE;show isStrOf n its[j]=false;rw[zF4 n ia j (by simpa using hjs) ∅];have:=List.not_of_lt_findIdx (p:=(· == n)) (xs:=ns) (i:=j) aE;simpa using this
def zE3 (K:W.Frag) (h:X.K=K:=by rfl):MtR X "list.index" (zMK K):=by subst h;exact zMl
end
def zA5 {i:Int} (h:i.natAbs < 10 ^ 60):(Str.ofString (toString i)).length<=1000:=by
 by_cases c:0<=i
 ·obtain⟨m,rfl⟩:=Int.eq_ofNat_of_zero_le c;rw[zCL,zAI];exact wHI (zGX 59 m ∅) ⋯
 obtain⟨m,hm⟩:=Int.eq_ofNat_of_zero_le (show 0<=-i by omega);have:i=-((m:Nat):Int):=by omega
 rw[this,zPN ∅,zAI];have:=zGX 59 m ∅;show _+1<=_;omega
def zFr {i:Int} (h:i.natAbs < 10 ^ 60):i.natAbs.log2 < 1920:=by
 have k:(10:Nat) ^ 60 < 2 ^ 1920:=by nofun
 generalize i.natAbs=j at h;by_cases z:j=0
 ·rw[z];exact (by decide:Nat.log2 0 < 1920)
 exact (Nat.log2_lt z).mpr (Nat.lt_trans h k)
def zIs (n:Str):((n.cps.toList.map zKJ).all id)=true↔∀c∈n.cps.toList,97<=c/\c<=122:=by
 rw[List.all_eq_true];constructor
 ·intro h c hc;exact (zGO c).mp (h _ (List.mem_map.mpr ⟨c,hc,rfl⟩))
 intro h b hb;obtain⟨c,hc,rfl⟩:=List.mem_map.mp hb;exact (zGO c).mpr (h c hc)
def zJN {l:List Nat} (h:∀c∈l,c < 1114112) (k:l.length<=1000):zBL (tx l):=⟨by rw[zAN];exact h,by rw[zAI];exact k⟩
def zAj (x:Str):tx x.cps.toList=x:=(zFQ x).symm
def Deed.Ok:Deed->Prop
 | .house n=>zBL n
 | .pact g u p f l=>zBL g/\zBL u/\p.natAbs < 10 ^ 60/\f.natAbs < 10 ^ 60/\l.natAbs < 10 ^ 60
 | .loss h y a=>zBL h/\y.natAbs < 10 ^ 60/\a.natAbs < 10 ^ 60
def wOf:V->Str
 | .int i=>Str.ofString (toString i)
 | .str z=>z
 | _=>Str.empty
def Deed.words (d:Deed):List Str:=d.vs.map wOf
def Deed.row (d:Deed):Str:=Str.join (Str.ofString " ") d.words
def WOk (x:V):Prop:=(∃i,x=.int i/\i.natAbs < 10 ^ 60)∨∃z,x=.str z/\z.length<=1000
def zNq (d:Deed):d.tag.length<=1000:=by
 cases d
 ·exact (by nofun:(Str.ofString "house").length<=1000)
 ·exact (by nofun:(Str.ofString "pact").length<=1000)
 exact (by nofun:(Str.ofString "loss").length<=1000)
def Deed.Ok.words {d:Deed} (h:d.Ok):∀x∈d.vs,WOk x:=by
 intro x hx;unfold Deed.vs at hx;rcases wIQ hx with z | hx
 ·refine .inr ⟨_,z,?_⟩;exact zNq d
 cases d with
 | house n=>simp only[Deed.rest,List.mem_singleton] at hx;exact .inr ⟨n,hx,h.2⟩
 | pact g u p f l=>
  simp only[Deed.rest,wIb,wH1,or_false] at hx;rcases hx with z | z | z | z | z
  ·exact .inr ⟨_,z,h.1.2⟩
  ·exact .inr ⟨_,z,h.2.1.2⟩
  ·exact .inl ⟨_,z,h.2.2.1⟩
  ·exact .inl ⟨_,z,h.2.2.2.1⟩
  exact .inl ⟨_,z,h.2.2.2.2⟩
 | loss g u p=>
  simp only[Deed.rest,wIb,wH1,or_false] at hx;rcases hx with z | z | z
  ·exact .inr ⟨_,z,h.1.2⟩
  ·exact .inl ⟨_,z,h.2.1⟩
  exact .inl ⟨_,z,h.2.2⟩
def WOk.len {x:V} (h:WOk x):(wOf x).length<=1000:=by
 rcases h with ⟨i,rfl,hi⟩ | ⟨z,rfl,hz⟩
 ·exact zA5 hi
 exact hz
def zM9 (d:Deed):d.vs.length<=6:=by cases d<;>(show _<=_;simp[Deed.vs,Deed.rest])
theorem zDO:∀ls:List Str,(∀l∈ls,l.length<=1000)->(ls.map (·.length)).sum<=ls.length*1000
 | [],_=>wHA _
 | x::r,h=>by have h1:=h x wIg;have h2:=zDO r λl hl=>h l (wHV _ hl);rw[wH6,List.sum_cons,wH3];omega
def zAf (H:Hp) (l:Addr) (yss:List (List V)):Prop:=∃q:List Addr,H l=some (.lst (q.map V.ref))/\q.length=yss.length/\∀(i:Nat) (a:Addr) (ys:List V),q[i]?=some a->yss[i]?=some ys->H a=some (.tup ys)
def zAf.same {H H':Hp} {l:Addr} {yss:List (List V)} (x:zAf H l yss) (s:zAi H H'):zAf H' l yss:=by obtain⟨q,h1,h2,h3⟩:=x;exact⟨q,s _ _ h1,h2,λi a ys e1 e2=>s _ _ (h3 i a ys e1 e2)⟩
def zAf.keep {H H':Hp} {l x:Addr} {yss:List (List V)} (y:zAf H l yss) (k:zBk x H H') (n:l≠x) (hx:∃xs,H x=some (.lst xs)):zAf H' l yss:=by obtain⟨q,h1,h2,h3⟩:=y;obtain⟨xs,hx⟩:=hx;exact⟨q,k _ _ n h1,h2,λi a ys e1 e2=>k _ _ (zFS (h3 i a ys e1 e2) hx (by intro z;cases z)) (h3 i a ys e1 e2)⟩
def zAf.nil {H:Hp} {l:Addr} (h:H l=some (.lst [])):zAf H l []:=⟨[],h,rfl,λi a ys e=>by simp at e⟩
def zAf.snoc {H:Hp} {l p:Addr} {yss:List (List V)} {ys:List V} {q:List Addr} (h1:H l=some (.lst (q.map V.ref))) (h2:q.length=yss.length)
  (h3:∀(i:Nat) (a:Addr) (ys:List V),q[i]?=some a->yss[i]?=some ys->H a=some (.tup ys)) (hp:H p=some (.tup ys)):zAf (upd H l (.lst (q.map V.ref++[V.ref p]))) l (yss++[ys]):=by
 refine⟨q++[p],by rw[zB,wHC];rfl,by rw[wHy,wHy,h2];rfl,λi a d' e1 e2=>?_⟩;have g:H a=some (.tup d'):=by
  by_cases c:i < q.length
  ·rw[wHJ c] at e1;rw[wHJ ∅] at e2;exact h3 i a d' e1 e2
  rw[wHK ∅] at e1;rw[wHK ∅] at e2;have z:i-q.length=0:=by have:=(wIL e1).1;rw[wIl] at this;omega
  have z2:i-yss.length=0:=by omega
  rw[z] at e1;rw[z2] at e2;cases e1;cases e2;exact hp
 rw[zJ (zFS g h1 (by intro z;cases z))];exact g
def zGb (x:V) (xs:List V):zGc (x::xs) (some 1) none=xs:=by
 show ((x::xs).drop (HT.sIx (x::xs).length 0 (some 1))).take _=xs;have e1:HT.sIx (x::xs).length 0 (some 1)=1:=by unfold HT.sIx;simp
 have e2:HT.sIx (x::xs).length (x::xs).length none=xs.length+1:=rfl;rw[e1,e2];simp
def zGG (x:V) (xs:List V):¬(HT.sIx (x::xs).length 0 (some 1)=0/\HT.sIx (x::xs).length (x::xs).length none=(x::xs).length):=by
 have e1:HT.sIx (x::xs).length 0 (some 1)=1:=by unfold HT.sIx;simp
 rw[e1];intro z;exact absurd z.1 ⋯
def zMj {H:Hp} {C x dx l:Addr} (nx:H x=none) (nd:H dx=none) (ne:dx≠x) (hl:upd (upd H dx (.own x)) x (.ins C dx []) l=none) :
  zAs (upd (upd (upd (upd H dx (.own x)) x (.ins C dx [])) l (.lst [])) x (.ins C dx [("told",.ref l)])) C x l []/\zAi H (upd (upd (upd (upd H dx (.own x)) x (.ins C dx [])) l (.lst [])) x (.ins C dx [("told",.ref l)]))/\H l=none:=by
 have hlx:l≠x:=λz=>by rw[z,zB] at hl;cases hl
 rw[zJ hlx] at hl;have hld:l≠dx:=λz=>by rw[z,zB] at hl;cases hl
 rw[zJ hld] at hl;refine⟨⟨dx,[],zB,by rw[zJ hlx];exact zB,rfl,λi a d e _=>by simp at e⟩,λb o e=>?_,hl⟩;rw[zJ (zM e nx),zJ (zM e hl),zJ (zM e nx),zJ (zM e nd)];exact e
def zJF {X:Cx} (K:W.Frag) (h:X.K=K:=by rfl):SlR X (zQU K):=by subst h;exact zOQ
def zF7 {X:Cx} (K:W.Frag) (h:X.K=K:=by rfl):SlR X (zQV K):=by subst h;exact zNy
section
variable {es:List Expr} {env:Env}
def zV {a b c p}:starEach (.BinOp a b c p::es) env=(false,eval (.BinOp a b c p) env)::starEach es env:=by rfl
def zA3 {a b c p}:starEach (.ListComp a b c p::es) env=(false,eval (.ListComp a b c p) env)::starEach es env:=by rfl
def zGs {a b c p}:starEach (.Compare a b c p::es) env=(false,eval (.Compare a b c p) env)::starEach es env:=by rfl
def zZ {a b c p}:starEach (.Call a b c p::es) env=(false,eval (.Call a b c p) env)::starEach es env:=by rfl
def zEL {a p}:starEach (.JoinedStr a p::es) env=(false,eval (.JoinedStr a p) env)::starEach es env:=by rfl
def zI {a k p}:starEach (.Constant a k p::es) env=(false,eval (.Constant a k p) env)::starEach es env:=by rfl
def zBc {a b p}:starEach (.Attribute a b p::es) env=(false,eval (.Attribute a b p) env)::starEach es env:=by rfl
def zL {a b p}:starEach (.Subscript a b p::es) env=(false,eval (.Subscript a b p) env)::starEach es env:=by rfl
def zA {a p}:starEach (.Name a p::es) env=(false,eval (.Name a p) env)::starEach es env:=by rfl
def zBg {a p}:starEach (.List a p::es) env=(false,eval (.List a p) env)::starEach es env:=by rfl
def zAF {a k p}:starEach (.Tuple a k p::es) env=(false,eval (.Tuple a k p) env)::starEach es env:=by rfl
end
section
variable {X:Cx} {es:List Expr} {t:TA}
def zFL {y1 y2:Str} {k1 k2:Nat} {p1 p2:Pos} (h:PA X es t):PA X (.Constant (.str y1) k1 p1::.Constant (.str y2) k2 p2::es) (zAx (tC (.str y1)) (zAx (tC (.str y2)) t)):=zG zT (zG zT h zI) zI
def zHE {y1 y2 y3:Str} {k1 k2 k3:Nat} {p1 p2 p3:Pos} (h:PA X es t):PA X (.Constant (.str y1) k1 p1::.Constant (.str y2) k2 p2::.Constant (.str y3) k3 p3::es) (zAx (tC (.str y1)) (zAx (tC (.str y2)) (zAx (tC (.str y3)) t))):=zG zT (zFL h) zI
def zFK {y1 y2 y3 y4 y5:Str} {k1 k2 k3 k4 k5:Nat} {p1 p2 p3 p4 p5:Pos} (h:PA X es t):PA X (.Constant (.str y1) k1 p1::.Constant (.str y2) k2 p2::.Constant (.str y3) k3 p3::.Constant (.str y4) k4 p4::.Constant (.str y5) k5 p5::es) (zAx (tC (.str y1)) (zAx (tC (.str y2)) (zAx (tC (.str y3)) (zAx (tC (.str y4)) (zAx (tC (.str y5)) t))))):=zFL (zHE h)
def zY {e1 e2:Expr} {t1 t2:TE} (h1:PE X e1 t1) (h2:PE X e2 t2) (h:PA X es t) (s1:starEach (e1::e2::es) X.env=(false,eval e1 X.env)::starEach (e2::es) X.env) (s2:starEach (e2::es) X.env=(false,eval e2 X.env)::starEach es X.env):PA X (e1::e2::es) (zAx t1 (zAx t2 t)):=zG h1 (zG h2 h s2) s1
def zAq {e1 e2 e3:Expr} {t1 t2 t3:TE} (h1:PE X e1 t1) (h2:PE X e2 t2) (h3:PE X e3 t3) (h:PA X es t) (s1:starEach (e1::e2::e3::es) X.env=(false,eval e1 X.env)::starEach (e2::e3::es) X.env) (s2:starEach (e2::e3::es) X.env=(false,eval e2 X.env)::starEach (e3::es) X.env) (s3:starEach (e3::es) X.env=(false,eval e3 X.env)::starEach es X.env):PA X (e1::e2::e3::es) (zAx t1 (zAx t2 (zAx t3 t))):=zG h1 (zY h2 h3 h s2 s3) s1
end
def zBo (c:Nat):List Nat->List (List Nat)
 | []=>[[]]
 | a::l=>if a=c then []::zBo c l else match zBo c l with
  | []=>[[a]]
  | w::ws=>(a::w)::ws
def zLa (c:Nat):∀l,zBo c l≠[]
 | []=>by intro z;cases z
 | a::l=>by
  unfold zBo
  split
  ·intro z;cases z
  split<;>(intro z;cases z)
theorem zI4 (c:Nat):∀{l:List Nat},c∉l->zBo c l=[l]
 | [],_=>rfl
 | a::l,h=>by have h1:a≠c:=λz=>h (by rw[z];exact wIg);have h2:c∉l:=λz=>h (wHV _ z);show (if a=c then _ else _)=_;rw[wHD h1,zI4 c h2]
theorem zLc (c:Nat):∀{w l:List Nat},c∉w->zBo c (w++c::l)=w::zBo c l
 | [],l,_=>by show (if c=c then _ else _)=_;rw[wHF rfl]
 | a::w,l,h=>by have h1:a≠c:=λz=>h (by rw[z];exact wIg);have h2:c∉w:=λz=>h (wHV _ z);show (if a=c then []::zBo c (w++c::l) else match zBo c (w++c::l) with | []=>[[a]] | w::ws=>(a::w)::ws)=_;rw[wHD h1,zLc c h2]
theorem zLb (c:Nat):∀{ws:List (List Nat)},ws≠[]->(∀x∈ws,c∉x)->zBo c (jn [c] ws)=ws
 | [],h,_=>absurd rfl h
 | [w],_,h=>zI4 c (h w (by simp))
 | w::v::ws,_,h=>by show zBo c (w++[c]++jn [c] (v::ws))=_;rw[wHY];show zBo c (w++c::jn [c] (v::ws))=_;rw[zLc c (h w (by simp)),zLb c (by intro z;cases z) λx hx=>h x (wHV _ hx)]
theorem zKF (c:Nat):∀(l:List Nat),jn [c] (zBo c l)=l
 | []=>rfl
 | a::l=>by
  have ih:=zKF c l;show jn [c] (if a=c then []::zBo c l else match zBo c l with | []=>[[a]] | w::ws=>(a::w)::ws)=_;by_cases e:a=c
  ·rw[wHF e];cases q:zBo c l with
   | nil=>exact absurd q (zLa c l)
   | cons w ws=>
    rw[q] at ih;show []++[c]++jn [c] (w::ws)=_;rw[ih,e];rfl
  rw[wHD e];cases q:zBo c l with
  | nil=>exact absurd q (zLa c l)
  | cons w ws=>
   rw[q] at ih;cases ws with
   | nil=>exact congrArg (a::·) ih
   | cons v vs=>exact congrArg (a::·) ih
def zJD (x:Str) (c:Nat):Txt.split x ⟨#[c]⟩=(zBo c x.cps.toList).map tx:=by
 have e:Txt.split x ⟨#[c]⟩=((Txt.split x ⟨#[c]⟩).map λs=>s.cps.toList).map tx:=by
  rw[List.map_map]
  conv=>lhs;rw[← List.map_id (Txt.split x ⟨#[c]⟩)]
  exact List.map_congr_left λs _=>zFQ s
 have j:jn [c] ((Txt.split x ⟨#[c]⟩).map λs=>s.cps.toList)=x.cps.toList:=by
  have h:=StrLaws.join_split x ⟨#[c]⟩;rw[e,show (⟨#[c]⟩:Str)=tx [c] from rfl,zBB] at h;have h2:=congrArg (λs:Str=>s.cps.toList) h;have h3:jn [c] ((Txt.split x (tx [c])).map λs=>s.cps.toList)=x.cps.toList:=by simpa [zAN] using h2
  exact h3
 rw[e,← j,zLb c]
 ·intro z;have:=split_pos x ⟨#[c]⟩;rw[List.map_eq_nil_iff.mp z] at this;exact absurd this ⋯
 intro l hl;obtain⟨s,hs,rfl⟩:=List.mem_map.mp hl;exact StrLaws.split_free x c s hs
theorem zGq:∀(l:List (Str × Tok)),zAv ((l.map (·.1)).map V.str) (strValues l)
 | []=>.nil
 | p::l=>.cons ⟨p.2,rfl⟩ (zGq l)
section
variable {X:Cx}
def zPa:V->List V->Hp->VK->Prop:=λx vs H Q=>∃(z:Str) (c:Nat),x=.str z/\vs=[.str (tx [c])]/\z.length<=1000000/\∀p,H p=none->Q (.ref p) (upd H p (.lst ((zBo c z.cps.toList).map vx)))
def zMk:MtR X "str.split" zPa:=by
 intro pins s σ H x vs v us Q I rx rv h;obtain⟨z,c,rfl,rfl,hz,q⟩:=h;obtain⟨t,rfl⟩:=rx;obtain⟨u,rfl,ru⟩:=rv.one;obtain⟨tu,rfl⟩:=ru;have hs:sizeLine=16777216:=sizeLine_eq;have le:=split_le z ⟨#[c]⟩;have eV:(Txt.split z ⟨#[c]⟩).map V.str=(zBo c z.cps.toList).map vx:=by rw[zJD,zJz]
 have fin:∀(l:List (Str × Tok)) (t':Nat),l.map (·.1)=Txt.split z ⟨#[c]⟩->EP X pins σ Q (.ref s.heap.objs.size) { s with heap:=s.heap.push { cls:=.type "list",data:=.seq (strValues l).toArray },toks:=t' }:=λl t' e=>by
  refine⟨.ref _,_,I.lnew (its:=strValues l) (ys:=(zBo c z.cps.toList).map vx) ?_ ?_,rfl,q _ I.fresh⟩
  ·rw[← eV,← e];exact zGq l
  rw[← eV,wHt];omega
 show wpAny _ _ (call (.builtin "str.split") [.str z t,.str ⟨#[c]⟩ tu]) _ _ _;cases h1:(decide (z.length < (⟨#[c]⟩:Str).length) || decide (Builtin.Str.strKind z < Builtin.Str.strKind ⟨#[c]⟩))
 ·cases hf:(Builtin.Str.occurrences z ⟨#[c]⟩ 0 z.length (z.length+1)).isEmpty
  ·have e1:Txt.split z ⟨#[c]⟩=Builtin.Str.partsBetween z (Builtin.Str.occurrences z ⟨#[c]⟩ 0 z.length (z.length+1)) (⟨#[c]⟩:Str).length:=(wHD (ne_true_of_eq_false h1)).trans (wHD (ne_true_of_eq_false hf));refine call_meets F.slot_str_split (typeIs_str _ _ _) F.entry_str_split (F.args_str_split_2 _ _) (meets_str_split_sep z ⟨#[c]⟩ t tu h1 rfl hf ∅ (by rw[← e1];omega)) ?_;show EP X pins σ Q _ { s with toks:=_,heap:=s.heap.push { cls:=.type "list",data:=.seq (strsFrom s.toks _).toArray } };rw[strsFrom_eq];exact fin _ _ ((numbered_texts _ _).trans e1.symm)
  exact call_meets F.slot_str_split (typeIs_str _ _ _) F.entry_str_split (F.args_str_split_2 _ _) (meets_str_split_not_found z ⟨#[c]⟩ t tu h1 rfl hf) (fin [(z,t)] _ ((wHD (ne_true_of_eq_false h1)).trans (wHF hf)).symm)
 exact call_meets F.slot_str_split (typeIs_str _ _ _) F.entry_str_split (F.args_str_split_2 _ _) (meets_str_split_cannot_occur z ⟨#[c]⟩ t tu h1) (fin [(z,t)] _ (wHF h1).symm)
def zPK (l:List Nat):Nat:=l.foldl (λn c=>n*10+(c-48)) 0
def zLn:zBp X (.type "int") (λxs H Q=>∃l:List Nat,xs=[.str (tx l)]/\l≠[]/\l.length<=600/\(∀c∈l,48<=c/\c<=57)/\Q (.int (zPK l:Nat)) H):=by intro pins s σ H xs us Q I r h;obtain⟨l,rfl,ne,le,fg,q⟩:=h;obtain⟨u,rfl,ru⟩:=r.one;obtain⟨t,rfl⟩:=ru;have e:=PySem.intText_digits (x:=tx l) (by rw[zAN];exact fg) (by rw[zAN];exact ne) (by rw[zAI];omega);rw[zAN] at e;exact PySem.W.KIN.call_text e (by rw[zAI];omega) ⟨.int _,H,I.tok _,⟨_,rfl⟩,q⟩
end
def zOq (m:Nat):zPK (dg m)=m:=PySem.W.KIN.val_back m
section
variable {prog:Program} {w:World} {A:Around} {E:Value->Shared->Prop} {s:Shared}
def zMd {j p:Addr} {n:Nat} {its:Array Value} {x:Value} {Q:Value->Shared->Prop} (hj:s.heap.IsTupleIter j p n) (hp:s.heap.IsTuple p its) (hx:its[n]?=some x)
  (k:∀h',h'.IsTupleIter j p (n+1)->Heap.SameBut j s.heap h'->Q x { s with heap:=h' }):wpAny (model prog w) A (Builtin.SmallTypes.nextOf (.ref j)) Q E s:=by
 obtain⟨oj,dW,hcj,dD⟩:=id hj;obtain⟨op,lF,_,nn,lZ⟩:=hp;unfold Builtin.SmallTypes.nextOf;refine wHu (wpAny_callSpecial?_slot (name:=Str.ofString "__next__") hj.typeIs F.slot_tuple_iterator_next (wpAny_call_entry F.slot_tuple_iterator_next hj.typeIs F.entry_tuple_iterator_next ?_ (F.args_tuple_iterator_next_1 _)));refine (show wpAny _ _ (field (.ref j) 0 >>= _) _ _ s from wHu (wIq dW dD (x:=.ref p) rfl ?_));refine (show wpAny _ _ (if (Value.ref p == Value.none)=true then _ else _) _ _ s from ?_);rw[wHD (by intro z;cases z)];refine (show wpAny _ _ (field (.ref j) 1 >>= _) _ _ s from wHu (wIq dW dD (x:=.int n 0) rfl ?_));refine (show wpAny _ _ (seqItems? (.ref p) >>= _) _ _ s from wHu (wpAny_seqItems lF lZ ?_));simp only[hx,wIs];refine wHu (wpAny_setField dW dD (by simp) (wHx ⟨x,rfl,wHx (k _ ⟨_,wIc _ dW (Obj.isFreed_of_fields (Obj.data_mapFields dD _)),(Obj.cls_mapFields ..).trans hcj,?_⟩ (Heap.SameBut.update ..))⟩));rw[Obj.data_mapFields dD];simp[rawInt]
theorem zNV {j p:Addr} {n:Nat} {its:Array Value} {Q:Value->Shared->Prop} (hh:A.handled=none) (hj:s.heap.IsTupleIter j p n) (hp:s.heap.IsTuple p its) (hx:its[n]?=none)
  (k:∀h' e,Heap.ExtBut j s.heap h'->(∃o,h'.get? e=some o/\o.cls=.type "StopIteration")->E (.ref e) { s with heap:=h' }):wpAny (model prog w) A (Builtin.SmallTypes.nextOf (.ref j)) Q E s:=by
 obtain⟨oj,dW,hcj,dD⟩:=id hj;obtain⟨op,lF,_,nn,lZ⟩:=hp;unfold Builtin.SmallTypes.nextOf;refine wHu (wpAny_callSpecial?_slot (name:=Str.ofString "__next__") hj.typeIs F.slot_tuple_iterator_next (wpAny_call_entry F.slot_tuple_iterator_next hj.typeIs F.entry_tuple_iterator_next ?_ (F.args_tuple_iterator_next_1 _)));refine (show wpAny _ _ (field (.ref j) 0 >>= _) _ _ s from wHu (wIq dW dD (x:=.ref p) rfl ?_));refine (show wpAny _ _ (if (Value.ref p == Value.none)=true then _ else _) _ _ s from ?_);rw[wHD (by intro z;cases z)];refine (show wpAny _ _ (field (.ref j) 1 >>= _) _ _ s from wHu (wIq dW dD (x:=.int n 0) rfl ?_));refine (show wpAny _ _ (seqItems? (.ref p) >>= _) _ _ s from wHu (wpAny_seqItems lF lZ ?_));simp only[hx,wIs];refine wHu (wpAny_rule (wHu (wpAny_setField dW dD (by simp) ?_)));refine (show wpAny _ _ (newExc (.type "StopIteration") [] >>= _) _ _ _ from wHu ?_);unfold newExc newTuple;refine wHu (wIj (wHu (m:=firstArgMember _ _) (wpAny_of_eq (a:=Value.none) (by first | rfl | (simp only[firstArgMember];rfl)) (wIj ?_ (by size_fits)))) (by size_fits));unfold raiseNew;refine wHu (wpAny_handled ?_)
 first | rw[show A.in1.handled=none from hh] | rw[hh]
 refine wHu (wHx (wpAny_throw ?_));exact k _ _ (((Heap.SameBut.update ..).extBut.push _).push _) ⟨_,wHG _ rfl,rfl⟩
def zOD {h:Heap} {T:Addr} {a b x:Value} (e:IsPair h T a b):IsPair (h.update T (Obj.mapSeq λv=>v.setIfInBounds 0 x)) T x b:=by show (h.update T _).get? T=_;rw[wIc _ e rfl];rfl
def zOC {h:Heap} {T:Addr} {a b x:Value} (e:IsPair h T a b):IsPair (h.update T (Obj.mapSeq λv=>v.setIfInBounds 1 x)) T a x:=by show (h.update T _).get? T=_;rw[wIc _ e rfl];rfl
def zJr {z TI TO i1 i2 l1 l2:Addr} {k1 k2:Nat} {xs ys:Array Value} {x y a b:Value} {Q:Option Value->Shared->Prop} (D:ZipApart z TI TO i1 i2 l1 l2)
  (hz:IsZip s.heap z TI TO .none) (aL:IsPair s.heap TI (.ref i1) (.ref i2)) (aT:IsPair s.heap TO a b) (h1:s.heap.IsTupleIter i1 l1 k1) (h2:s.heap.IsListIter i2 l2 k2)
  (g1:s.heap.IsTuple l1 xs) (g2:s.heap.IsList l2 ys) (ex:xs[k1]?=some x) (ey:ys[k2]?=some y)
  (k:∀h':Heap,IsZip h' z TI TO (rawInt s.heap.objs.size)->IsPair h' TO x y->h'.IsTupleIter i1 l1 (k1+1)->h'.IsListIter i2 l2 (k2+1)->IsPair h' s.heap.objs.size x y->
   (∀(e:Addr) (o:Obj),e≠z->e≠TO->e≠i1->e≠i2->s.heap.get? e=some o->h'.get? e=some o)->Q (some (.ref s.heap.objs.size)) { s with heap:=h' }) :
  wpAny (model prog w) A (pyNext (.ref z)) Q E s:=by
 unfold pyNext;refine wHu (wpAny_attempt (wpAny_callSpecial?_slot ⟨_,hz,rfl⟩ F.slot_zip_next (wpAny_call_entry F.slot_zip_next ⟨_,hz,rfl⟩ F.entry_zip_next ?_ (F.args_zip_next_1 _))));refine wHu ?_;refine wpAny_of_eq (zK4 _) ?_;refine wHu (wIq hz rfl (x:=.bool false) rfl (wHu (wIq hz rfl (x:=.ref TI) rfl (wHu (wpAny_seqItems aL rfl ?_)))));refine wHu ?_;unfold Builtin.SmallTypes.ownedTupleIsFree;refine wHu (wIq hz rfl (x:=.none) rfl (wHx (wHu (wpAny_rule (wHu (wIq hz rfl (x:=.ref TO) rfl (wHu (wpAny_setField hz rfl (by show 0 < 5;decide) ?_))))))));have z1:=zNn hz .ellipsis;have k0:∀(e:Addr) (o:Obj),e≠z->s.heap.get? e=some o->(s.heap.update z (Obj.mapFields λv=>v.setIfInBounds 0 .ellipsis)).get? e=some o:=λe o ne q=>by rw[wHN _ _ (Ne.symm ne)];exact q
 have n1:(s.heap.update z (Obj.mapFields λv=>v.setIfInBounds 0 .ellipsis)).objs.size=s.heap.objs.size:=Heap.size_update ..;generalize s.heap.update z (Obj.mapFields λv=>v.setIfInBounds 0 .ellipsis)=H1 at z1 k0 n1 ⊢;refine wHu ?_;show wpAny _ _ (forIn [(Value.ref i1,0),(Value.ref i2,1)] _ _) _ _ _;rw[List.forIn_cons];refine wHu (wHu (wpAny_onRaise ?_));have kW:H1.IsTupleIter i1 l1 k1:=by obtain⟨o,q,r⟩:=h1;exact⟨o,k0 _ _ D.i1z q,r⟩
 have kT:H1.IsTuple l1 xs:=by obtain⟨o,q,r⟩:=g1;exact⟨o,k0 _ _ D.l1z q,r⟩
 refine wHu (zMd kW kT ex λH2 j1 eE=>wHx ?_);have t1:IsPair H2 TO a b:=eE.extBut _ _ D.TOi1 (k0 _ _ D.TOz aT);refine wHu (wpAny_seqItems t1 rfl (wHu (wpAny_updateSeq t1 rfl (wHu (wpAny_letGo (wHx ?_))) (by show 2<=sizeLine;decide) (by show 2<=sizeLine+1;decide))));have t2:=zOD (x:=x) t1;have u1:∀(e:Addr) (o:Obj),e≠TO->H2.get? e=some o->(H2.update TO (Obj.mapSeq λv=>v.setIfInBounds 0 x)).get? e=some o:=λe o ne q=>by rw[wHN _ _ (Ne.symm ne)];exact q
 have n2:(H2.update TO (Obj.mapSeq λv=>v.setIfInBounds 0 x)).objs.size=s.heap.objs.size:=by rw[Heap.size_update,eE.1];exact n1
 generalize H2.update TO (Obj.mapSeq λv=>v.setIfInBounds 0 x)=H3 at t2 u1 n2 ⊢;have lg:∀(e:Addr) (o:Obj),e≠z->e≠TO->e≠i1->s.heap.get? e=some o->H3.get? e=some o:=λe o n1 n2 n3 q=>u1 _ _ n2 (eE.extBut _ _ n3 (k0 _ _ n1 q));have j1:H3.IsTupleIter i1 l1 (k1+1):=by obtain⟨o,q,r⟩:=j1;exact⟨o,u1 _ _ (Ne.symm D.TOi1) q,r⟩
 have z2:IsZip H3 z TI TO .ellipsis:=u1 _ _ (Ne.symm D.TOz) (eE.extBut _ _ (Ne.symm D.i1z) z1);show wpAny _ _ (forIn [(Value.ref i2,1)] _ _) _ _ _;rw[List.forIn_cons];refine wHu (wHu (wpAny_onRaise ?_));have li2:H3.IsListIter i2 l2 k2:=by obtain⟨o,q,r⟩:=h2;exact⟨o,lg _ _ D.i2z (Ne.symm D.TOi2) (Ne.symm D.i12) q,r⟩
 have ls2:H3.IsList l2 ys:=by obtain⟨o,q,r⟩:=g2;exact⟨o,lg _ _ D.l2z D.l2TO D.l2i1 q,r⟩
 refine wHu (wpAny_nextOf_list_item li2 ls2 ey λH4 j2 aN=>wHx ?_);have t3:IsPair H4 TO x b:=aN.extBut _ _ D.TOi2 t2;refine wHu (wpAny_seqItems t3 rfl (wHu (wpAny_updateSeq t3 rfl (wHu (wpAny_letGo (wHx ?_))) (by show 2<=sizeLine;decide) (by show 2<=sizeLine+1;decide))));have t6:=zOC (x:=y) t3;have u2:∀(e:Addr) (o:Obj),e≠TO->H4.get? e=some o->(H4.update TO (Obj.mapSeq λv=>v.setIfInBounds 1 y)).get? e=some o:=λe o ne q=>by rw[wHN _ _ (Ne.symm ne)];exact q
 have sz:(H4.update TO (Obj.mapSeq λv=>v.setIfInBounds 1 y)).objs.size=s.heap.objs.size:=by rw[Heap.size_update,aN.1];exact n2
 generalize H4.update TO (Obj.mapSeq λv=>v.setIfInBounds 1 y)=H7 at t6 u2 sz ⊢;have kZ:∀(e:Addr) (o:Obj),e≠TO->e≠i2->H3.get? e=some o->H7.get? e=some o:=λe o n2 n3 q=>u2 _ _ n2 (aN.extBut _ _ n3 q);have j1:H7.IsTupleIter i1 l1 (k1+1):=by obtain⟨o,q,r⟩:=j1;exact⟨o,kZ _ _ (Ne.symm D.TOi1) D.i12 q,r⟩
 have j2:H7.IsListIter i2 l2 (k2+1):=by obtain⟨o,q,r⟩:=j2;exact⟨o,u2 _ _ (Ne.symm D.TOi2) q,r⟩
 have z4:IsZip H7 z TI TO .ellipsis:=kZ _ _ (Ne.symm D.TOz) (Ne.symm D.i2z) z2;show wpAny _ _ (forIn ([]:List (Value × Nat)) _ _) _ _ _;rw[List.forIn_nil];refine wHx ?_;refine wHu (wpAny_seqItems t6 rfl (wHu (wpAny_newTuple ?_ (by show 2<=sizeLine;decide))));have nT:∀(e:Addr) (o:Obj),H7.get? e=some o->(H7.push { cls:=.type "tuple",data:=.seq #[x,y] }).get? e=some o:=λe o q=>wHz _ q;have eT:IsPair (H7.push { cls:=.type "tuple",data:=.seq #[x,y] }) H7.objs.size x y:=wHG _ rfl;unfold Builtin.SmallTypes.ownedTupleHandOut;refine wHu (wHu (wpAny_setField (nT _ _ z4) rfl (by show 0 < 5;decide) ?_));have z5:=zNn (nT _ _ z4) (rawInt H7.objs.size);have u4:∀(e:Addr) (o:Obj),e≠z->(H7.push { cls:=.type "tuple",data:=.seq #[x,y] }).get? e=some o->((H7.push { cls:=.type "tuple",data:=.seq #[x,y] }).update z (Obj.mapFields λv=>v.setIfInBounds 0 (rawInt H7.objs.size))).get? e=some o:=λe o ne q=>by rw[wHN _ _ (Ne.symm ne)];exact q
 generalize (H7.push { cls:=.type "tuple",data:=.seq #[x,y] }).update z (Obj.mapFields λv=>v.setIfInBounds 0 (rawInt H7.objs.size))=H8 at z5 u4 ⊢;refine wpAny_setField z5 rfl (by show 1 < 5;decide) ?_;have z6:=zOB z5;have u5:∀(e:Addr) (o:Obj),e≠z->H8.get? e=some o->(H8.update z (Obj.mapFields λv=>v.setIfInBounds 1 (.bool false))).get? e=some o:=λe o ne q=>by rw[wHN _ _ (Ne.symm ne)];exact q
 generalize H8.update z (Obj.mapFields λv=>v.setIfInBounds 1 (.bool false))=H9 at z6 u5 ⊢;have up:∀(e:Addr) (o:Obj),e≠z->H7.get? e=some o->H9.get? e=some o:=λe o ne q=>u5 _ _ ne (u4 _ _ ne (nT _ _ q));refine wHx ⟨_,rfl,wHx ?_⟩;have lz:H7.objs.size≠z:=Ne.symm (wHO (wHH z4));rw[sz] at z6 eT lz ⊢;refine k H9 z6 (up _ _ D.TOz t6) ?_ ?_ (u5 _ _ lz (u4 _ _ lz eT)) λe o n1 n2 n3 n4 q=>up _ _ n1 (kZ _ _ n2 n4 (lg _ _ n1 n2 n3 q))
 ·obtain⟨o,q,r⟩:=j1;exact⟨o,up _ _ D.i1z q,r⟩
 obtain⟨o,q,r⟩:=j2;exact⟨o,up _ _ D.i2z q,r⟩
def zLy {z TI TO i1 i2 l1 l2:Addr} {k1:Nat} {xs:Array Value} {Q:Option Value->Shared->Prop} (hh:A.handled=none) (D:ZipApart z TI TO i1 i2 l1 l2)
  (hz:IsZip s.heap z TI TO .none) (aL:IsPair s.heap TI (.ref i1) (.ref i2)) (h1:s.heap.IsTupleIter i1 l1 k1) (g1:s.heap.IsTuple l1 xs) (ex:xs[k1]?=none)
  (k:∀h':Heap,(∀(e:Addr) (o:Obj),e≠z->e≠i1->s.heap.get? e=some o->h'.get? e=some o)->Q none { s with heap:=h' }) :
  wpAny (model prog w) A (pyNext (.ref z)) Q E s:=by
 unfold pyNext;refine wHu (wpAny_attempt (wpAny_callSpecial?_slot ⟨_,hz,rfl⟩ F.slot_zip_next (wpAny_call_entry F.slot_zip_next ⟨_,hz,rfl⟩ F.entry_zip_next ?_ (F.args_zip_next_1 _))));refine wHu ?_;refine wpAny_of_eq (zK4 _) ?_;refine wHu (wIq hz rfl (x:=.bool false) rfl (wHu (wIq hz rfl (x:=.ref TI) rfl (wHu (wpAny_seqItems aL rfl ?_)))));refine wHu ?_;unfold Builtin.SmallTypes.ownedTupleIsFree;refine wHu (wIq hz rfl (x:=.none) rfl (wHx (wHu (wpAny_rule (wHu (wIq hz rfl (x:=.ref TO) rfl (wHu (wpAny_setField hz rfl (by show 0 < 5;decide) ?_))))))));have z1:=zNn hz .ellipsis;have k0:∀(e:Addr) (o:Obj),e≠z->s.heap.get? e=some o->(s.heap.update z (Obj.mapFields λv=>v.setIfInBounds 0 .ellipsis)).get? e=some o:=λe o ne q=>by rw[wHN _ _ (Ne.symm ne)];exact q
 generalize s.heap.update z (Obj.mapFields λv=>v.setIfInBounds 0 .ellipsis)=H1 at z1 k0 ⊢;refine wHu ?_;show wpAny _ _ (forIn [(Value.ref i1,0),(Value.ref i2,1)] _ _) _ _ _;rw[List.forIn_cons];refine wHu (wHu (wpAny_onRaise ?_));have kW:H1.IsTupleIter i1 l1 k1:=by obtain⟨o,q,r⟩:=h1;exact⟨o,k0 _ _ D.i1z q,r⟩
 have kT:H1.IsTuple l1 xs:=by obtain⟨o,q,r⟩:=g1;exact⟨o,k0 _ _ D.l1z q,r⟩
 refine wHu (zNV (by show A.handled=none;exact hh) kW kT ex λH2 e eb he=>?_);have z2:IsZip H2 z TI TO .ellipsis:=eb _ _ (Ne.symm D.i1z) z1;refine wpAny_setField z2 rfl (by show 0 < 5;decide) ?_;obtain⟨o,eo,co⟩:=he;have ez:e≠z:=λc=>by rw[c,z2] at eo;cases eo;exact absurd (Value.type.inj co) ⋯
 refine wHu (wpAny_isInstance (T:="StopIteration") (b:=true) ⟨o,by rw[wHN _ _ (Ne.symm ez)];exact eo,co⟩ rfl (wHx ?_));exact k _ λe' o' n1 n2 q=>by rw[wHN _ _ (Ne.symm n1)];exact eb _ _ n2 (k0 _ _ n1 q)
abbrev zT1 (h:Heap) (l1:Addr):Heap:=h.push { cls:=.type "tuple_iterator",data:=.fields #[.ref l1,.int 0 0] }
abbrev zT2 (h:Heap) (l1 l2:Addr):Heap:=(zT1 h l1).push { cls:=.type "list_iterator",data:=.fields #[.ref l2,.int 0 0] }
abbrev zT3 (h:Heap) (l1 l2:Addr):Heap:=(zT2 h l1 l2).push { cls:=.type "tuple",data:=.seq #[.ref h.objs.size,.ref (zT1 h l1).objs.size] }
abbrev zT4 (h:Heap) (l1 l2:Addr):Heap:=(zT3 h l1 l2).push { cls:=.type "tuple",data:=.seq #[.none,.none] }
abbrev zT5 (h:Heap) (l1 l2:Addr):Heap:=(zT4 h l1 l2).push { cls:=.type "zip",data:=.fields #[.none,.bool false,.bool false,.ref (zT2 h l1 l2).objs.size,.ref (zT3 h l1 l2).objs.size] }
def zLx (l1 l2:Addr) (xs ys:Array Value):Meets (Builtin.«zip.__new__» ⟨[.type "zip",.ref l1,.ref l2],[]⟩) (λ_ R s=>s.heap.IsTuple l1 xs/\s.heap.IsList l2 ys/\R (.ok (.ret (.ref (zT4 s.heap l1 l2).objs.size))) { s with heap:=zT5 s.heap l1 l2 }):=
 .of_wp λprog w A R s h=>by
  obtain⟨hp,g,d,tk,os⟩:=s;obtain⟨cK,cZ,h⟩:=h;have fS:=sub_zip;have hT1:Heap.IsTuple (Shared.heap ⟨hp,g,d,tk,os⟩) l1 xs:=cK;have eU:Heap.IsList (Shared.heap ⟨hp.push { cls:=.type "tuple_iterator",data:=.fields #[.ref l1,.int 0 0] },g,d,tk,os⟩) l2 ys:=Heap.IsList.push cZ _
  wp_walk using wpAny_pyIter_tuple hT1,wpAny_pyIter_list eU
  exact⟨_,rfl,h⟩
def zLi {l1 l2:Addr} {xs ys:Array Value} {Q:Value->Shared->Prop} (cK:s.heap.IsTuple l1 xs) (cZ:s.heap.IsList l2 ys)
  (h:∀h',IsZip h' (s.heap.objs.size+4) (s.heap.objs.size+2) (s.heap.objs.size+3) .none->IsPair h' (s.heap.objs.size+2) (.ref s.heap.objs.size) (.ref (s.heap.objs.size+1))->IsPair h' (s.heap.objs.size+3) .none .none->
   h'.IsTupleIter s.heap.objs.size l1 0->h'.IsListIter (s.heap.objs.size+1) l2 0->(∀c o,s.heap.get? c=some o->h'.get? c=some o)->Q (.ref (s.heap.objs.size+4)) { s with heap:=h' }) :
  wpAny (model prog w) A (call (.type "zip") [.ref l1,.ref l2]) Q E s:=by
 refine callType_new F.called_zip ⋯ (F.typeCall_zip_2 _ _) (F.newCall_zip_2 _ _) (λobj=>F.args_object_init_3 obj _ _) F.entry_zip_new (zLx l1 l2 xs ys) ⟨cK,cZ,?_⟩;have z1:(zT1 s.heap l1).objs.size=s.heap.objs.size+1:=wIk ..;have z2:(zT2 s.heap l1 l2).objs.size=s.heap.objs.size+2:=by rw[wIk,z1]
 have z3:(zT3 s.heap l1 l2).objs.size=s.heap.objs.size+3:=by rw[wIk,z2]
 have z4:(zT4 s.heap l1 l2).objs.size=s.heap.objs.size+4:=by rw[wIk,z3]
 have up:∀{h:Heap} {o:Obj} {c:Addr} {o':Obj},h.get? c=some o'->(h.push o).get? c=some o':=λq=>wHz _ q;have g5:(zT5 s.heap l1 l2).get? (zT4 s.heap l1 l2).objs.size=some _:=wHG _ rfl;have g4:(zT5 s.heap l1 l2).get? (zT3 s.heap l1 l2).objs.size=some _:=up (wHG _ rfl);have g3:(zT5 s.heap l1 l2).get? (zT2 s.heap l1 l2).objs.size=some _:=up (up (wHG _ rfl));have g2:(zT5 s.heap l1 l2).get? (zT1 s.heap l1).objs.size=some _:=up (up (up (wHG _ rfl)));have g1:(zT5 s.heap l1 l2).get? s.heap.objs.size=some _:=up (up (up (up (wHG _ rfl))));show _/\_;rw[z2,z3,z4] at g5;rw[z1,z2] at g3;rw[z3] at g4;rw[z1] at g2;rw[z4];exact⟨⟨_,g5,rfl⟩,h _ g5 g3 g4 ⟨_,g1,rfl,rfl⟩ ⟨_,g2,rfl,rfl⟩ λc o x=>up (up (up (up (up x))))⟩
end
def zQP (K:W.Frag) (a b:Addr):It:=
 ⟨λi H=>∃xs ys x y,SqT K H a xs/\SqL K H b ys/\xs[i]?=some x/\ys[i]?=some y,
  λi H v H'=>∃T x y,v=.ref T/\H T=none/\H'=upd H T (.tup [x,y])/\(∀xs,SqT K H a xs->xs[i]?=some x)/\∀ys,SqL K H b ys->ys[i]?=some y,
  λi H=>∃xs,SqT K H a xs/\xs.length<=i⟩
def zJ1 {P:Program} {w:World} {K:W.Frag} {es:List Expr} {k:Nat} {pos:Pos} {z TI TO i1 i2 l1 l2:Addr} (D:ZipApart z TI TO i1 i2 l1 l2) :
  Turn P w K (.Tuple es k pos) (zQP K l1 l2) [z,TI,TO,i1,i2] z (λi h=>IsZip h z TI TO .none/\IsPair h TI (.ref i1) (.ref i2)/\(∃a b,IsPair h TO a b)/\h.IsTupleIter i1 l1 i/\h.IsListIter i2 l2 i) where
 mem:=by simp
 obj:=λi h st b hb=>by
  obtain⟨hz,aL,⟨c,d,aT⟩,⟨o1,h1,c1,d1⟩,⟨o2,h2,c2,d2⟩⟩:=st;simp only[wIb,wH1,or_false] at hb;rcases hb with e | e | e | e | e<;>subst e
  ·exact⟨_,hz,λv z=>by cases z⟩
  ·exact⟨_,aL,λv z=>by cases z⟩
  ·exact⟨_,aT,λv z=>by cases z⟩
  ·exact⟨_,h1,λv z=>by rw[d1] at z;cases z⟩
  exact⟨_,h2,λv z=>by rw[d2] at z;cases z⟩
 keep:=λi h h' st kp=>by obtain⟨hz,aL,⟨c,d,aT⟩,h1,h2⟩:=st;exact⟨kp z (by simp) _ hz,kp TI (by simp) _ aL,⟨c,d,kp TO (by simp) _ aT⟩,h1.at λo q=>kp i1 (by simp) o q,h2.at λo q=>kp i2 (by simp) o q⟩
 item:=by
  intro X hP hw hK hc i pins s σ H E I hf st hg;subst hP hw hK;obtain⟨xs,ys,x,y,hq,hr,hx,hy⟩:=hg;obtain⟨its,rv,p,_⟩:=I.tuple hq;obtain⟨bF,eF,p2,_⟩:=I.list hr;obtain⟨u,hu,ru⟩:=rv.get hx;obtain⟨v,hv,kI⟩:=eF.get hy;obtain⟨hz,aL,⟨c,d,aT⟩,h1,h2⟩:=st;refine zJr D hz aL aT h1 h2 (show s.heap.IsTuple l1 its.toArray from p) p2.isList (x:=u) (y:=v) (by simpa using hu) (by simpa using hv) λh' b1 b2 b3 b4 b5 kp=>⟨_,rfl,?_⟩;refine wpAny_letOwnedTupleGo_zip b1 λeY lj aN=>?_;have lt:∀{c o},s.heap.get? c=some o->s.heap.objs.size≠c:=λe=>Nat.ne_of_gt (wHH e);have n1:s.heap.objs.size≠i1:=by obtain⟨_,e,_⟩:=h1;exact lt e
  have n2:s.heap.objs.size≠i2:=by obtain⟨_,e,_⟩:=h2;exact lt e
  have I2:Inv X pins σ (upd H s.heap.objs.size (.tup [x,y])) { s with heap:=eY }:=by
   refine I.turnNew (t':=s.toks) hf (wHA _) (λb o hb q=>?_) ⟨zAp,[u,v],.cons ru (.cons kI .nil),?_⟩
   ·simp only[wIb,wH1,or_false,not_or] at hb;exact aN.extBut b o hb.1 (kp b o hb.1 hb.2.2.1 hb.2.2.2.1 hb.2.2.2.2 q)
   exact⟨_,aN.extBut _ _ (lt hz) b5,rfl,_,rfl⟩
  refine⟨.ref s.heap.objs.size,_,I2,rfl,⟨_,x,y,rfl,I.fresh,rfl,λzs cQ=>by rw[I.tuple_inj cQ hq];exact hx,λzs cQ=>by rw[I.list_inj cQ hr];exact hy⟩,
   ⟨lj,aN.extBut _ _ D.TIz (kp _ _ D.TIz D.TITO D.TIi1 D.TIi2 aL),⟨u,v,aN.extBut _ _ D.TOz b2⟩,b3.extBut aN.extBut D.i1z,b4.extBut aN.extBut D.i2z⟩,λb hb=>?_⟩
  have nb:b≠s.heap.objs.size:=by
   simp only[wIb,wH1,or_false] at hb;rcases hb with e | e | e | e | e<;>rw[e]
   ·exact Ne.symm (lt hz)
   ·exact Ne.symm (lt aL)
   ·exact Ne.symm (lt aT)
   ·exact Ne.symm n1
   exact Ne.symm n2
  rw[zJ nb];exact (hf b hb).1
 done:=by intro X hP hw hK hc i pins s σ H E I hf st hg;subst hP hw hK;obtain⟨xs,hq,hx⟩:=hg;obtain⟨its,rv,p,_⟩:=I.tuple hq;obtain⟨hz,aL,⟨c,d,aT⟩,h1,h2⟩:=st;have e1:=rv.length;refine zLy (I.ok.hd hc) D hz aL h1 (show s.heap.IsTuple l1 its.toArray from p) (by simp;omega) λh' kp=>⟨rfl,I.turnAll (t':=s.toks) hf λb o hb q=>?_⟩;simp only[wIb,wH1,or_false,not_or] at hb;exact kp b o hb.1 hb.2.2.2.1 q
 self:=λA i s Q E st h=>wpAny_pyIter_zip st.1 h
section
variable {X:Cx}
def zQ5 (K:W.Frag) (ta:TA):TI:=λσ H R=>ta σ H λvs H1=>∃a b xs ys,vs=[.ref a,.ref b]/\SqT K H1 a xs/\SqL K H1 b ys/\R (zQP K a b) H1
def zNH {a b:Expr} {ta:TA} {p pos:Pos} {es:List Expr} {k:Nat} {tp:Pos} (hg:Gl X "zip") (hm:X.mg "zip"=none) (ha:PA X [a,b] ta) (hs:starEach [a,b] X.env=[(false,eval a X.env),(false,eval b X.env)]:=by rfl) (dU:starEach [b] X.env=[(false,eval b X.env)]:=by rfl) :
  PI X (.Tuple es k tp) (.Call (.Name "zip" p) [a,b] [] pos) (zQ5 X.K ta):=by
 intro pins s σ H R I h;refine Call_ (zE7 I hg hm boot_zip (PyProof.Rows.callWith_type1 (thn (ha pos pins s σ H _ I h) λus s1 ⟨vs,H1,I1,r1,q1⟩=>?_) (by rw[hs,dU]) (by rw[dU];rfl)));obtain⟨l1,l2,xs,ys,e,hq,hr,q⟩:=q1;subst e;obtain⟨u,v,rfl,ru,rv⟩:=r1.two;cases ru;cases rv;obtain⟨its,rv1,p1,_⟩:=I1.tuple hq;obtain⟨bF,eF,p2,_⟩:=I1.list hr;have n1:l1 < s1.heap.objs.size:=by obtain⟨o,e,_⟩:=p1;exact wHH e
 have n2:l2 < s1.heap.objs.size:=by obtain⟨o,n,e,_⟩:=p2;exact wHH e
 refine zLi (show s1.heap.IsTuple l1 its.toArray from p1) p2.isList λh' hz aL aT h1 h2 kp=>?_;have I2:Inv X pins σ H1 { s1 with heap:=h' }:=I1.kept (t':=s1.toks) kp;have D:ZipApart (s1.heap.objs.size+4) (s1.heap.objs.size+2) (s1.heap.objs.size+3) s1.heap.objs.size (s1.heap.objs.size+1) l1 l2:=zGn n1 n2;refine wpAny_pyIter_zip hz ⟨_,[s1.heap.objs.size+4,s1.heap.objs.size+2,s1.heap.objs.size+3,s1.heap.objs.size,s1.heap.objs.size+1],_,_,H1,rfl,I2,zJ1 D,⟨hz,aL,⟨_,_,aT⟩,h1,h2⟩,λb hb=>?_,q⟩;have le:s1.heap.objs.size<=b:=by simp only[wIb,wH1,or_false] at hb;rcases hb with e | e | e | e | e<;>rw[e]<;>first | exact wHA _ | exact Nat.le_add_right _ _
 exact I1.fpOk le (I1.hok.fresh le)
end
def zLe {K:W.Frag} {a b l:Addr} {xs ys:List V} {g:TG} {tt:TT} {te:TE} {fin:Hp->Prop} {σ0:St} {H0:Hp} (he:xs.length=ys.length) (Pv:Nat->St->Hp->Prop) (h0:Pv 0 σ0 H0) (hl:∀i σ H,i<=xs.length->Pv i σ H->SqT K H a xs/\SqL K H b ys)
  (hs:∀i x y σ H T,xs[i]?=some x->ys[i]?=some y->Pv i σ H->H T=none->g (.ref T) σ (upd H T (.tup [x,y])) λσ2 H2=>tt σ2 H2 λb H3=>if b=true then te σ2 H3 λv H4=>∃xs,H4 l=some (.lst xs)/\xs.length < sizeLine/\Pv (i+1) σ2 (upd H4 l (.lst (xs++[v]))) else Pv (i+1) σ2 H3)
  (hd:∀σ H,Pv xs.length σ H->fin H):zEd l (zQP K a b) g tt te fin σ0 H0:=by
 refine⟨λi m σ H=>m=xs.length-i/\i<=xs.length/\Pv i σ H,⟨xs.length,by simp,wIp _,h0⟩,?_⟩;rintro i m σ H ⟨rfl,hi,p⟩;obtain⟨q,r⟩:=hl i σ H hi p;by_cases aE:i < xs.length
 ·refine .inr ⟨⟨xs,ys,xs[i],ys[i]' ∅,q,r,by simp[aE],by simp[show i < ys.length by omega]⟩,Pv (i+1),λσ' H' p'=>⟨xs.length-(i+1),by omega,rfl,aE,p'⟩,λx H' y=>?_⟩;obtain⟨T,z,z',e1,e2,e3,y1,y2⟩:=y;subst e1 e3;exact hs i z z' σ _ T (y1 xs q) (y2 ys r) p e2
 have e:i=xs.length:=by omega
 subst e;exact .inl ⟨⟨xs,q,wHA _⟩,hd σ H p⟩
def zQJ (K:W.Frag) (xs:List Str) (v:Value):Prop:=∃b,v=.ref b/\∀H:Hp,SqT K H b (xs.map V.str)
def zEa (K:W.Frag) (xs:List Str) (v:Value):Bool:=match v with
 | .ref b=>(match K.lookup b with
  | some o=>o.cls == .type "tuple" && (match o.data with | .seq its _=>decide (its.size<=1000) && KTD.strsLook its.toList xs | _=>false)
  | none=>false)
 | _=>false
theorem zDZ:∀{us:List Value} {xs:List Str},StrsAre us xs->zAv (xs.map V.str) us
 | _,_,.nil=>.nil
 | _,_,.cons x t r=>.cons ⟨t,rfl⟩ (zDZ r)
def zJ6 {K:W.Frag} {xs:List Str} {v:Value} (h:zEa K xs v=true):zQJ K xs v:=by
 unfold zEa at h
 split at h
 ·rename_i b
  split at h
  ·rename_i o ho
   simp only[wHR] at h;obtain⟨h1,h2⟩:=h
   split at h2
   ·rename_i its n hd
    simp only[wHR,decide_eq_true_eq] at h2;exact⟨b,rfl,λH=>.inr ⟨o,its,n,ho,beq_iff_eq.mp h1,hd,wHI h2.1 ⋯,zDZ (KTD.strs_of_look h2.2)⟩⟩
   cases h2
  cases h
 cases h
structure KForms (P:Program) (w:World) (K:W.Frag) (d:Addr) (D:List (Str × List Str)):Prop where
 low:(d == sysModules)=false
 at_:∃us:List (Str × Value),us.map (·.1)=D.map (·.1)/\(∀x v,(x,v)∈us->∀l,(x,l)∈D->zQJ K l v)/\∀h:Heap,K.In h->h.DictOf (PySem.strKind P w) d us
def zN9 (P:Program) (w:World) {R:List Str->Value->Prop} {es:List DictEntry} {D:List (Str × List Str)} (h:KTD.Rows R es D):es.map (·.hash)=D.map (λp=>(PySem.strKind P w).hash p.1)->
  (∀e∈es,∃k,(PySem.strKind P w).is k e.key=true/\e.hash=(PySem.strKind P w).hash k)/\∃kvs:List (Str × Value),Pairs (PySem.strKind P w) es kvs/\kvs.map (·.1)=D.map (·.1)/\Paired (λ(p:Str × List Str) (q:Str × Value)=>p.1=q.1/\R p.2 q.2) D kvs:=by
 induction h with
 | nil=>exact λ_=>⟨(λ_ h=>(by cases h)),[],.nil,rfl,.nil⟩
 | @cons e x t d es D eN hv _ ih=>
  intro hh;simp only[wH6,List.cons.injEq] at hh;obtain⟨hk,kvs,hp,hm,pr⟩:=ih hh.2;have hi:(PySem.strKind P w).is x e.key=true:=by rw[eN];exact strKind_is P w x t
  refine⟨λe' dZ=>?_,(x,e.val)::kvs,.cons hi rfl hp,by simp[hm],.cons ⟨rfl,hv⟩ pr⟩;rcases wIQ dZ with dZ | dZ
  ·rw[dZ];exact⟨x,hi,hh.1⟩
  exact hk e' dZ
theorem zFk {R:List Str->Value->Prop} {x:Str} {v:Value} {l:List Str}:∀{D:List (Str × List Str)} {us:List (Str × Value)},Paired (λ(p:Str × List Str) (q:Str × Value)=>p.1=q.1/\R p.2 q.2) D us->(D.map (·.1)).Nodup->(x,v)∈us->(x,l)∈D->R l v
 | _,_,.nil,_,h,_=>by cases h
 | p::D,q::us,.cons ⟨e,r⟩ t,nd,h,h'=>by
  have ff:=List.nodup_cons.mp nd;have key:us.map (·.1)=D.map (·.1):=by
   clear h h' nd ff
   induction t with
   | nil=>rfl
   | cons r _ ih=>simp[ih,r.1]
  rcases wIQ h with h | h<;>rcases wIQ h' with h' | h'
  ·subst h;subst h';exact r
  ·subst h;have m:p.1∈D.map (·.1):=List.mem_map.mpr ⟨(x,l),h',e.symm⟩;exact absurd m ff.1
  ·subst h';have:x∈us.map (·.1):=List.mem_map.mpr ⟨_,h,rfl⟩;rw[key] at this;exact absurd this ff.1
  exact zFk t ff.2 h h'
def zKD (P:Program) (w:World) {K:W.Frag} {d:Addr} {D:List (Str × List Str)} (hl:KTD.tabLook (zEa K) (λb=>K.lookup b) d D=true) (hn:(D.map (·.1)).Nodup)
  (hh:KTD.hashesOf (λb=>K.lookup b) d=D.map λp=>(PySem.strKind P w).hash p.1):KForms P w K d D:=by
 simp only[KTD.tabLook,wHR] at hl;obtain⟨h0,hl⟩:=hl
 split at hl
 ·rename_i o ho
  simp only[wHR] at hl;obtain⟨⟨⟨e1,e2⟩,e3⟩,e4⟩:=hl
  split at e4
  ·rename_i es ep hd
   have hh':es.toList.map (·.hash)=D.map λp=>(PySem.strKind P w).hash p.1:=by rw[← hh];unfold KTD.hashesOf;rw[show (λb=>K.lookup b) d=some o from ho];simp only[hd]
   obtain⟨hk,kvs,hp,hm,pr⟩:=zN9 P w (KTD.rows_of_look (λ_ _ x=>zJ6 x) e4) hh';exact⟨by simpa using h0,kvs,hm,λx v h l h'=>zFk pr hn h h',λh hi=>⟨o,es,ep,hi _ _ ho,⟨beq_iff_eq.mp e1,by simpa using e2,by simpa using e3⟩,hd,λe he=>hk e (by simpa using he),hp,by rw[hm];exact hn⟩⟩
  cases e4
 cases hl
section
variable {X:Cx}
def KForms.some {P:Program} {w:World} {K:W.Frag} {d:Addr} {D:List (Str × List Str)} (_:KForms P w K d D) {us:List (Str × Value)} (hm:us.map (·.1)=D.map (·.1)) (k:Str):(valueAt us k).isSome=decide (k∈D.map (·.1)):=by
 rw[← hm];unfold valueAt;rw[Option.isSome_map];by_cases h:k∈us.map (·.1)
 ·rw[wHU h];obtain⟨p,hp,e⟩:=List.mem_map.mp h;exact List.find?_isSome.mpr ⟨p,hp,by simpa using e⟩
 rw[wHX h];rw[Option.isSome_eq_false_iff,Option.isNone_iff_eq_none];exact List.find?_eq_none.mpr λp hp=>by intro z;exact h (List.mem_map.mpr ⟨p,hp,by simpa using z⟩)
def zKr:OpR X (compareOp .NotIn) (λx y H Q=>∃d D k,x=.str k/\y=.ref d/\KForms X.prog X.w X.K d D/\Q (.bl (!decide (k∈D.map (·.1)))) H):=by intro pins s σ H x y v u Q I rx ry h;obtain⟨d,D,k,rfl,rfl,F,q⟩:=h;obtain⟨t,rfl⟩:=rx;cases ry;obtain⟨us,hm,_,hd⟩:=F.at_;refine wpAny_notIn_of (strKind_is X.prog X.w k t) F.low (hd _ I.kIn).mapOf ?_;rw[F.some hm];exact⟨.bl _,H,I.tok _,rfl,q⟩
def zOc:IxR X (λx y H Q=>∃d D k l,x=.ref d/\y=.str k/\KForms X.prog X.w X.K d D/\(k,l)∈D/\∀b,(∀H',SqT X.K H' b (l.map V.str))->Q (.ref b) H):=by
 intro value slice pins s σ H x y v u Q I rx ry h hs;obtain⟨d,D,k,l,rfl,rfl,F,hk,q⟩:=h;cases rx;obtain⟨t,rfl⟩:=ry;obtain⟨us,hm,ht,hd⟩:=F.at_;have hd:=hd _ I.kIn;have is:(valueAt us k).isSome=true:=by rw[F.some hm];exact wHU (List.mem_map.mpr ⟨_,hk,rfl⟩)
 obtain⟨w,hw⟩:=Option.isSome_iff_exists.mp is;have mem:(k,w)∈us:=by
  unfold valueAt at hw;obtain⟨p,hp,e⟩:=wIN hw;have h1:=List.mem_of_find?_eq_some hp;have h2:=List.find?_some hp;have eY:p.1=k:=by simpa using h2
  obtain⟨a,b⟩:=p;simp only at eY e;subst eY e;exact h1
 obtain⟨b,rfl,tb⟩:=ht k w mem l hk;exact subscriptTail_builtinR (x:=.ref b) hd.typeIs slot_dict_getitem.lookup (wpAny_getItem_of (Q:=λr s'=>r=.ref b/\EP X pins σ Q r s') (strKind_is X.prog X.w k t) hd.mapOf hw ⟨rfl,.ref b,H,I.tok _,rfl,q b tb⟩) hs
def zNK {y0 y1 y2 y3 y4 y5 y6 y7 y8 y9:Str} {j0 j1 j2 j3 j4 j5 j6 j7 j8 j9:Nat} {p0 p1 p2 p3 p4 p5 p6 p7 p8 p9 pos:Pos}:PE X (.List [.Constant (.str y0) j0 p0,.Constant (.str y1) j1 p1,.Constant (.str y2) j2 p2,.Constant (.str y3) j3 p3,.Constant (.str y4) j4 p4,.Constant (.str y5) j5 p5,.Constant (.str y6) j6 p6,.Constant (.str y7) j7 p7,.Constant (.str y8) j8 p8,.Constant (.str y9) j9 p9] pos) (zOM (zAx (tC (.str y0)) (zAx (tC (.str y1)) (zAx (tC (.str y2)) (zAx (tC (.str y3)) (zAx (tC (.str y4)) (zAx (tC (.str y5)) (zAx (tC (.str y6)) (zAx (tC (.str y7)) (zAx (tC (.str y8)) (zAx (tC (.str y9)) zMC))))))))))):=by with_reducible exact zAd (zFK (zFK zE))
def zPm {y0 y1 y2 y3 y4:Str} {j0 j1 j2 j3 j4:Nat} {p0 p1 p2 p3 p4 pos:Pos}:PE X (.List [.Constant (.str y0) j0 p0,.Constant (.str y1) j1 p1,.Constant (.str y2) j2 p2,.Constant (.str y3) j3 p3,.Constant (.str y4) j4 p4] pos) (zOM (zAx (tC (.str y0)) (zAx (tC (.str y1)) (zAx (tC (.str y2)) (zAx (tC (.str y3)) (zAx (tC (.str y4)) zMC)))))):=by with_reducible exact zAd (zFK zE)
end
section
variable {X:Cx} {T:String} {name:Str} {id:String} {r:V->List V->Hp->VK->Prop} {o e:Expr} {es:List Expr} {to:TE} {t:TA} {apos aB:Pos}
def zAQ (K:W.Frag) (pa:PlainAttrs T) (slot:Slot T name id) (fQ:typeOf (.builtin id)=pure (.type "method_descriptor")) (hm:MtR X id r) (ho:PE X o to) (ha:PA X (e::es) t) (hK:X.K=K:=by rfl)
  (bD:attributeBase o name X.env (eval o X.env)=eval o X.env:=by rfl)
  (eP:((backTo aB (starEach (e::es) X.env)).all (λx=>!x.1) && (backToKw aB (keywordEach [] X.env)).all (λx=>x.1.isSome)
   && decide ((e::es).length+([]:List Keyword).length+(if ([]:List Keyword).isEmpty then 0 else 1) < 30))=true:=by rfl)
  (bC:(apos.endLine == aB.line)=true:=by rfl) (hs:starEach (e::es) X.env=(false,eval e X.env)::starEach es X.env:=by rfl) (aQ:(backTo aB (starEach es X.env)).any (·.1)=false:=by rfl) :
  PE X (.Call (.Attribute o name apos) (e::es) [] aB) (tBM K T r to t):=by
 subst hK;exact zFJ pa slot fQ hm ho ha bD eP bC hs aQ
end
def zAh {X:Cx} {tg l:Expr} {tl:TE} (K:W.Frag) (hl:PE X l tl) (h:X.K=K:=by rfl):PI X tg l (zPD K tl):=by subst h;exact zNI hl
open PySem.W (KasT)
def zM7 {α:Type} (n:Nat) (lt:Nat->Nat->Bool) (P:α->Prop):KasT α->Prop
 | .ret a=>P a
 | .ask i j k=>i < n/\j < n/\zM7 n lt P (k (lt i j))
theorem zM7.bind {α β:Type} {n:Nat} {lt:Nat->Nat->Bool} {P:α->Prop} {R:β->Prop} {f:α->KasT β}:∀{t:KasT α},zM7 n lt P t->(∀a,P a->zM7 n lt R (f a))->zM7 n lt R (t.bind f)
 | .ret a,h,k=>k a h
 | .ask i j g,⟨h1,h2,h3⟩,k=>⟨h1,h2,zM7.bind h3 k⟩
theorem zM7.wp {α:Type} {n:Nat} {lt:Nat->Nat->Bool} {P:α->Prop} {cmp:Nat->Nat->(Bool->Shared->Prop)->Shared->Prop} {Q:α->Shared->Prop} {s:Shared} (hc:∀i j C,i < n->j < n->C (lt i j) s->cmp i j C s) (hq:∀a,P a->Q a s):∀{t:KasT α},zM7 n lt P t->KasT.kasWp cmp t Q s
 | .ret a,h=>hq a h
 | .ask i j g,⟨h1,h2,h3⟩=>hc i j _ h1 h2 (zM7.wp hc hq h3)
structure LtOk (n:Nat) (lt:Nat->Nat->Bool):Prop where
 tr:∀a b c,a < n->b < n->c < n->lt a b=true->lt b c=true->lt a c=true
 tot:∀a b,a < n->b < n->a≠b->lt a b=false->lt b a=true
abbrev gp (p:Array Nat) (k:Nat):Nat:=p.getD k 0
def zOm {p:Array Nat} {k:Nat}:gp p k=(p[k]?).getD 0:=Array.getD_eq_getD_getElem?
def Pm.size {n:Nat} {p:Array Nat} (h:Pm n p):p.size=n:=by have:=h.length_eq;rw[wIH,wH2] at this;exact this
def Pm.inj {n:Nat} {p:Array Nat} (h:Pm n p) {i j:Nat} (hi:i < n) (hj:j < n) (e:i≠j):gp p i≠gp p j:=by
 have nd:p.toList.Nodup:=h.nodup_iff.mpr List.nodup_range;have hs:=h.size;have g:∀k,k < n->gp p k=p.toList.getD k 0:=λk hk=>by rw[zOm,wHw,wIz]
 rw[g i hi,g j hj];have hl:p.toList.length=n:=by rw[wH2];exact hs
 rw[wHw,wHw,wHv ∅,wHv ∅];intro z;exact e ((List.getElem_inj (h₀:=by omega) (h₁:=by omega) nd).mp z)
section
variable {n:Nat} {lt:Nat->Nat->Bool}
def Chn (lt:Nat->Nat->Bool) (p:Array Nat) (m:Nat):Prop:=∀i j,i < j->j < m->lt (gp p i) (gp p j)=true
def Chn.one (p:Array Nat):Chn lt p 1:=λi j h1 h2=>by omega
variable (L:LtOk n lt) (hn:0 < n)
include L hn
theorem Chn.snoc {p:Array Nat} (h:Pm n p) {m:Nat} (c:Chn lt p m) (h1:1<=m) (hm:m < n) (e:lt (gp p (m-1)) (gp p m)=true):Chn lt p (m+1):=λi j eO hj=>by
 by_cases z:j=m
 ·subst z;by_cases y:i=j-1
  ·subst y;exact e
  exact L.tr _ _ _ (h.lt hn _) (h.lt hn _) (h.lt hn _) (c i (j-1) ∅ ∅) e
 exact c i j eO ∅
end
def Chn.pw {n:Nat} {lt:Nat->Nat->Bool} {p:Array Nat} (h:Pm n p) (c:Chn lt p n):p.toList.Pairwise λi j=>lt i j=true:=by rw[List.pairwise_iff_getElem];intro i j hi hj eO;have hs:=h.size;rw[wH2] at hi hj;have:=c i j eO ∅;rw[zOm,zOm,wIm ∅,wIm ∅] at this;exact this
end L2
namespace L2
open PySem PySem.Spec PyProof.Rows PySem.W Builtin Builtin.ObjectAttr
def zIE:List Value->Bool
 | .ref _::r=>zIE r
 | l=>l == vEr
theorem zGp (self:Value):∀{l:List Value},zIE l=true->refuseLoop self "__setattr__" l=pure PUnit.unit
 | .ref c::r,e=>by rw[refuseLoop_ref];exact zGp self (show zIE r=true from e)
 | [],e=>by cases e
 | .type n::r,e=>by have z:Value.type n::r=vEr:=beq_iff_eq.mp e;rw[z];exact F.store_ValueError.passes self
 | .int ..::r,e=>by have z:=beq_iff_eq.mp (show (_ == vEr)=true from e);cases z
 | .none::r,e=>by have z:=beq_iff_eq.mp (show (_ == vEr)=true from e);cases z
 | .bool ..::r,e=>by have z:=beq_iff_eq.mp (show (_ == vEr)=true from e);cases z
 | .str ..::r,e=>by have z:=beq_iff_eq.mp (show (_ == vEr)=true from e);cases z
 | .builtin ..::r,e=>by have z:=beq_iff_eq.mp (show (_ == vEr)=true from e);cases z
theorem zMA:∀{l:List Value},zIE l=true->l.contains (.type "object")=true
 | .ref c::r,e=>by rw[List.contains_cons,zMA (show zIE r=true from e),Bool.or_true]
 | [],e=>by cases e
 | .type n::r,e=>by rw[show Value.type n::r=vEr from beq_iff_eq.mp e];rfl
 | .int ..::r,e=>by have z:=beq_iff_eq.mp (show (_ == vEr)=true from e);cases z
 | .none::r,e=>by have z:=beq_iff_eq.mp (show (_ == vEr)=true from e);cases z
 | .bool ..::r,e=>by have z:=beq_iff_eq.mp (show (_ == vEr)=true from e);cases z
 | .str ..::r,e=>by have z:=beq_iff_eq.mp (show (_ == vEr)=true from e);cases z
 | .builtin ..::r,e=>by have z:=beq_iff_eq.mp (show (_ == vEr)=true from e);cases z
def zQg (K:W.Frag) (C:Addr):Bool:=(clsIn K C).any λcd=>zIE cd.mro
section
variable {prog:Program} {w:World} {A:Around} {E:Value->Shared->Prop} {s:Shared} {K:W.Frag} {x C:Addr} {oe:Obj} {name:Str} {v:Value} {tk:Tok}
def zNi {Q:PySem.Fin->Shared->Prop} {b:Bool} (X:K.In s.heap) (hh:hasDictIn K C=true) (hx:s.heap.get? x=some oe) (hc:oe.cls=.ref C) {vs:Array Value} (cL:oe.data=.fields vs) (hd:oe.dict=none)
  (h:∀h' dJ,(∀b o,b≠x->s.heap.get? b=some o->h'.get? b=some o)->h'.get? x=some { oe with dict:=some s.heap.objs.size }->h'.Ns1 s.heap.objs.size (λy=>if y=name then some v else none)->Q (.done (.ret .none)) { s with heap:=h',toks:=dJ }) :
  wpAny (model prog w) A (storeInOwnDict (.ref x) (.ref C) (.str name tk) name v b) Q E s:=by
 obtain⟨cd,aO,bQ⟩:=any_some hh;refine wHu (wHx (wHu (wHu (wpAny_loadPart hx ?_))));rw[hc];refine wHu ((looks_clsIn X aO).here ?_);rw[bQ,wHD ⋯];dsimp only;rw[hd];dsimp only;rw[wHD (by simp[typeHasDict])];rw[cL];dsimp only;have hs:x≠s.heap.objs.size:=wHO (wHH hx);have cJ:(s.heap.push { cls:=.type "dict",data:=.dict #[] }).get? x=some oe:=wHz _ hx;refine wHu (wpAny_alloc' (wHu (wpAny_update' cJ (wHx ?_))));dsimp only;obtain⟨h1,iR⟩:∃h1,h1=(s.heap.push { cls:=.type "dict",data:=.dict #[] }).update x λo=>{ cls:=o.cls,dict:=some s.heap.objs.size,data:=o.data,slots:=o.slots }:=⟨_,rfl⟩;rw[← iR];have gd:h1.get? s.heap.objs.size=some { cls:=.type "dict",data:=.dict #[] }:=by rw[iR];exact (wHN _ _ hs).trans (wHG _ rfl)
 have gx:h1.get? x=some { oe with dict:=some s.heap.objs.size }:=by
  rw[iR];refine wIc _ cJ ?_;obtain⟨c,d,dt,sl⟩:=oe;cases cL
  rfl
 have gk:∀b o,b≠x->s.heap.get? b=some o->h1.get? b=some o:=λb o n e=>by rw[iR];exact (wHN _ _ (Ne.symm n)).trans (wHz _ e)
 have nd:h1.Ns1 s.heap.objs.size λ_=>none:=Heap.Ns1.of_empty ⟨_,#[],_,gd,rfl,λe he=>absurd he (by simp),λ_=>rfl⟩;unfold storeInDict newKeyGuard;refine wHu (wHx (wHu (wpAny_nsSet1 (s:={ s with heap:=h1 }) nd λh2 n2 sb=>?_)));obtain⟨oD,esD,epD,fV,gG,gH⟩:=n2.count (PySem.Within.cons name v PySem.Within.nil);refine wHu (wpAny_lookBehind fV (by rw[gG];exact pastItsLine_dict (wHI gH (by rw[wH3,List.length_nil,sizeLine_eq];omega))) ?_);exact wHx (h h2 _ (λb o n e=>(sb.2 b (wHO (wHH e))).trans (gk b o n e)) ((sb.2 x hs).trans gx) n2)
def zNh {Q:PySem.Fin->Shared->Prop} {b:Bool} {dx:Addr} {mA:Str->Option Value} {ns:List Str} (X:K.In s.heap) (hh:hasDictIn K C=true) (hx:s.heap.get? x=some oe) (hc:oe.cls=.ref C) (hd:oe.dict=some dx) (hn:s.heap.Ns1 dx mA) (hw:PySem.Within mA ns) (hz:ns.length<=1000)
  (h:∀h' dJ,(∀b o,b≠dx->s.heap.get? b=some o->h'.get? b=some o)->h'.Ns1 dx (λy=>if y=name then some v else mA y)->Q (.done (.ret .none)) { s with heap:=h',toks:=dJ }) :
  wpAny (model prog w) A (storeInOwnDict (.ref x) (.ref C) (.str name tk) name v b) Q E s:=by
 obtain⟨cd,aO,bQ⟩:=any_some hh;refine wHu (wHx (wHu (wHu (wpAny_loadPart hx ?_))));rw[hc];refine wHu ((looks_clsIn X aO).here ?_);rw[bQ,wHD ⋯];dsimp only;rw[hd];refine wHx ?_;dsimp only;unfold storeInDict newKeyGuard;refine wHu (wHx (wHu (wpAny_nsSet1 hn λh2 n2 sb=>?_)));obtain⟨oD,esD,epD,fV,gG,gH⟩:=n2.count (PySem.Within.cons name v hw);refine wHu (wpAny_lookBehind fV (by rw[gG];exact pastItsLine_dict (wHI gH (by rw[wH3,sizeLine_eq];omega))) ?_);exact wHx (h h2 _ (λb o n e=>(sb.2 b n).trans e) n2)
def zHY {Q:Unit->Shared->Prop} (X:K.In s.heap) {od:Option Obj} (I:InstAt s.heap x oe C od) (hv:zQg K C=true) (hs:findIn K (.ref C) "__setattr__"=some (some (.builtin "object.__setattr__"))) (ht:findIn K (.ref C) name=some none)
  (h:∀A' b,wpAny (model prog w) A' (storeInOwnDict (.ref x) (.ref C) (.str name s.toks) name v b) (λfin s'=>fin=.done (.ret .none)/\Q PUnit.unit s') (λ_ _=>False) { s with toks:=s.toks+1 }) :
  wpAny (model prog w) A (setAttr (.ref x) name v) Q E s:=by
 refine set_plain X I hs ?_;have SF:=F.store_object;obtain⟨cd,hc,ho⟩:=any_some hv;have ne:cd.mro.isEmpty=false:=by
  cases q:cd.mro with
  | nil=>rw[q] at ho;cases ho
  | cons _ _=>rfl
 have J:K.In ({ s with toks:=s.toks+1 }:Shared).heap:=X;have sub:Looks (model prog w) s.heap (isInstance (.ref x) (.type "object")) true:=I.type.andThen (looks_mroIn X (by unfold mroIn;rw[hc,Option.bind_some,wHD (by rw[ne];decide),zMA ho]));refine codeAny_call_builtin SF.slot.plain SF.entry (@check_slot (model prog w) _ _ { s with toks:=s.toks+1 } "object.__setattr__" "object" "__setattr__" (.ref x) [.str name s.toks,v] [] _ SF.kind SF.split sub (SF.args (.ref x) (.str name s.toks) v) ?_);have hm:Looks (model prog w) s.heap (mroOf (.ref C)) cd.mro:=(looks_clsIn X hc).andThen .now;rw[osa_eq,refuse_eq];refine wHu (wHu (I.type.here (s:={ s with toks:=s.toks+1 }) (wHu (hm.here (s:={ s with toks:=s.toks+1 }) ?_))));rw[zGp _ ho];refine wHx (wHu (I.type.here (s:={ s with toks:=s.toks+1 }) (wHu ((looks_findIn X ht).here (s:={ s with toks:=s.toks+1 }) (wHu (wHx ?_))))));dsimp only;refine wH4 (h _ _) (λfin s' z=>?_) λ_ _ z=>z.elim;obtain⟨rfl,q⟩:=z;exact q
end
end L2
namespace L2
open PySem PySem.Spec PyProof.Rows PySem.W
def zCM (e:Addr) (cls:Value) (dd:Option Addr):HO:=.ext λh=>∃oe vs,h.get? e=some oe/\oe.cls=cls/\oe.dict=dd/\oe.data=.fields vs/\vs[1]?=some .none/\vs[2]?=some .none
def XdN (a:Addr) (fs:List (Str × V)):HO:=.ext λh=>∃mA,h.Ns1 a mA/\∀f,zHk (fs.lookup f) (mA f)
section
variable {P:Program} {w:World} {H:Hp} {h:Heap} {e:Addr} {cls:Value} {dd:Option Addr} {fs:List (Str × V)}
def zCM.mk {oe:Obj} {vs:Array Value} (a:h.get? e=some oe) (b:oe.cls=cls) (c:oe.dict=dd) (d:oe.data=.fields vs) (h1:vs[1]?=some .none) (h2:vs[2]?=some .none):ObjOk P w H h e (zCM e cls dd):=
 ⟨⟨oe,vs,a,b,c,d,h1,h2⟩,⟨oe,a⟩,λ_ _ ⟨oe,vs,q,r⟩ k=>⟨oe,vs,k _ q,r⟩⟩
def zCM.get (x:HOk P w H h) (q:H e=some (zCM e cls dd)):∃oe vs,h.get? e=some oe/\oe.cls=cls/\oe.dict=dd/\oe.data=.fields vs/\vs[1]?=some .none/\vs[2]?=some .none:=(x e _ q).1
def XdN.mk {mA:Str->Option Value} (n:h.Ns1 e mA) (r:∀f,zHk (fs.lookup f) (mA f)):ObjOk P w H h e (XdN e fs):=
 ⟨⟨mA,n,r⟩,let ⟨o,_,_,q,_⟩:=n;⟨o,q⟩,λ_ _ ⟨mA,n,r⟩ k=>⟨mA,n.at k,r⟩⟩
def XdN.get (x:HOk P w H h) (q:H e=some (XdN e fs)):∃mA,h.Ns1 e mA/\∀f,zHk (fs.lookup f) (mA f):=(x e _ q).1
end
structure XF (K:W.Frag) (C:Addr) (f:Str):Prop where
 ve:zQg K C=true
 hd:hasDictIn K C=true
 sa:findIn K (.ref C) "__setattr__"=some (some (.builtin "object.__setattr__"))
 no:findIn K (.ref C) f=some none
theorem mem_of_lookup {g:Str} {v:V}:∀{fs:List (Str × V)},fs.lookup g=some v->g∈fs.map (·.1)
 | [],q=>by cases q
 | (a,b)::r,q=>by
  by_cases z:g=a
  ·exact z ▸ wIg
  have hb:(g == a)=false:=beq_eq_false_iff_ne.mpr z;simp only[List.lookup,hb] at q;exact wHV _ (mem_of_lookup q)
def zHk.none_at {o:Option Value} (r:zHk none o):o=none:=by
 cases o with
 | none=>rfl
 | some v=>exact absurd r (by intro z;exact z)
section
variable {X:Cx} {pins:List (Addr × Obj)} {σ:St} {H:Hp} {s:Shared} {E:Value->Shared->Prop} {A:Around} {x C:Addr} {f:Str} {y:V} {u:Value}
def zLE {Q:Unit->Shared->Prop} (I:Inv X pins σ H s) (e:H x=some (zCM x (.ref C) none)) (k:XF X.K C f) (ry:zAV y u)
  (h:∀s' dx,H dx=none->dx≠x->Inv X pins σ (upd (upd H x (zCM x (.ref C) (some dx))) dx (XdN dx [(f,y)])) s'->Q PUnit.unit s'):wpAny (model X.prog X.w) A (setAttr (.ref x) f u) Q E s:=by
 obtain⟨oe,vs,hx,hc,hd,cL,h1,h2⟩:=zCM.get I.hok e;have J:InstAt s.heap x oe C none:=⟨hx,hc,by unfold notCls;rw[cL],by rw[hd];trivial⟩;refine zHY I.kIn J k.ve k.sa k.no λA' b=>zNi (s:={ s with toks:=s.toks+1 }) I.kIn k.hd hx hc cL hd λh' dJ keep lx hn=>⟨rfl,?_⟩;have nd:s.heap.get? s.heap.objs.size=none:=wIF (wHA _);have nH:H s.heap.objs.size=none:=I.hok.fresh (wHA _);have ne:s.heap.objs.size≠x:=λz=>by rw[z,hx] at nd;cases nd
 refine h _ s.heap.objs.size nH ne ?_;have mu:Mut (H x):=by rw[e];exact True.intro
 have n':upd H x (zCM x (.ref C) (some s.heap.objs.size)) s.heap.objs.size=none:=by rw[zJ ne];exact nH
 refine I.call' (s':={ s with heap:=h',toks:=dJ }) (ch:=[]) rfl ((Un.write mu (.inl rfl) (λb o n q=>keep b o n q) ⟨_,lx⟩).put nd n') ((I.hok.write mu (.inl rfl) (λb o n q=>keep b o n q) ⟨_,lx⟩ (zCM.mk lx hc rfl cL h1 h2)).put n' (XdN.mk hn λg=>?_)) I.bare λb z=>nomatch z
 show zHk (List.lookup g [(f,y)]) (if g=f then some u else none);by_cases q:g=f
 ·rw[wHF q,q];simp only[List.lookup,beq_self_eq_true];exact ry
 rw[wHD q];have hb:(g == f)=false:=beq_eq_false_iff_ne.mpr q;simp only[List.lookup,hb]
 trivial
def zLD {Q:Unit->Shared->Prop} {dx:Addr} {fs:List (Str × V)} (I:Inv X pins σ H s) (e:H x=some (zCM x (.ref C) (some dx))) (ed:H dx=some (XdN dx fs)) (hz:fs.length<=1000) (k:XF X.K C f) (ry:zAV y u)
  (h:∀s',Inv X pins σ (upd H dx (XdN dx ((f,y)::fs))) s'->Q PUnit.unit s'):wpAny (model X.prog X.w) A (setAttr (.ref x) f u) Q E s:=by
 obtain⟨oe,vs,hx,hc,hd,cL,h1,h2⟩:=zCM.get I.hok e;obtain⟨mA,hn,hr⟩:=XdN.get I.hok ed;obtain⟨od,_,_,hod,_⟩:=id hn;have J:InstAt s.heap x oe C (some od):=⟨hx,hc,by unfold notCls;rw[cL],by rw[hd];exact hod⟩;have wi:PySem.Within mA (fs.map (·.1)):=λg hg=>by
  cases q:fs.lookup g with
  | none=>have:=hr g;rw[q] at this;exact absurd (zHk.none_at this) hg
  | some v=>
   exact mem_of_lookup q
 refine zHY I.kIn J k.ve k.sa k.no λA' b=>zNh (s:={ s with toks:=s.toks+1 }) I.kIn k.hd hx hc hd hn wi (by rw[wHt];exact hz) λh' dJ keep fk=>⟨rfl,h _ ?_⟩;have mu:Mut (H dx):=by rw[ed];exact True.intro
 obtain⟨od',_,_,lI,_⟩:=id fk;refine I.write (t':=dJ) mu (.inl rfl) (λb o n q=>keep b o n q) ⟨_,lI⟩ (XdN.mk fk λg=>?_);by_cases q:g=f
 ·rw[wHF q,q];simp only[List.lookup,beq_self_eq_true];exact ry
 rw[wHD q];have hb:(g == f)=false:=beq_eq_false_iff_ne.mpr q;simp only[List.lookup,hb];exact hr g
end
end L2
namespace L2
open PySem PySem.Spec PyProof.Rows PySem.W
def zEZ (K:W.Frag) (C:Addr) (below:List Value) (made:String):Bool:=
 (K.lookup C).any λo=>o.cls == .type "type" && (match o.data,o.slots.toList with
  | .cls c,[_,_,_,_,some (.builtin m),_]=>(match c.mro with
   | v::r=>v == .ref C && m == made && !c.hasDel && tailIn K below r
   | []=>false)
  | _,_=>false)
def zEB {K:W.Frag} {h:Heap} {C:Addr} {below:List Value} {made:String} (X:K.In h) (q:zEZ K C below made=true) :
  ∃tl ns nm qn bs hd sn sub ab col dd k0 k1 k2 k3 k5,h.get? C=some (excClassObj nm qn C ns bs tl hd sn sub ab col dd k0 k1 k2 k3 k5 made)/\OwnTail h below tl:=by
 unfold zEZ at q;obtain⟨o,ho,q⟩:=any_some q;obtain⟨oc,dd,dt,sl⟩:=o;rw[wHR,beq_iff_eq] at q;obtain⟨q0,q⟩:=q;dsimp only at q0 q;subst q0
 split at q
 ·rename_i c k0 k1 k2 k3 m k5 hs
  obtain⟨nm,bs,mro,ns,qn,hd,sn,sub,ab,col,del⟩:=c;dsimp only at q
  split at q
  ·rename_i v r
   simp only[wHR,beq_iff_eq,Bool.not_eq_true'] at q;obtain⟨⟨⟨rfl,rfl⟩,rfl⟩,ht⟩:=q;have bJ:sl=#[k0,k1,k2,k3,some (.builtin m),k5]:=Array.toList_inj.mp hs;subst bJ;exact⟨r,ns,nm,qn,bs,hd,sn,sub,ab,col,dd,k0,k1,k2,k3,k5,X _ _ ho,W.tail_of_in X ht⟩
  cases q
 cases q
section
variable {prog:Program} {w:World} {A:Around} {E:Value->Shared->Prop} {s:Shared} {K:W.Frag} {e C:Addr} {text:Value}
def zKK {oe:Obj} {vs:Array Value} {Q:Value->Shared->Prop} (X:K.In s.heap) (hx:zEZ K C vEr "ValueError.__new__"=true) (he:s.heap.get? e=some oe) (hc:oe.cls=.ref C) (hd:oe.data=.fields vs) (hv:2 < vs.size)
  (h:∀h' t,(∀b o,b≠e->s.heap.get? b=some o->h'.get? b=some o)->h'.get? e=some { oe with data:=.fields (vs.setIfInBounds 0 t) }->Q .none { s with heap:=h' }) :
  wpAny (model prog w) A (call (.builtin "ValueError.__init__") [.ref e,text]) Q E s:=by
 obtain⟨tl,ns,nm,qn,bs,fq,sn,sub,ab,col,dd,k0,k1,k2,k3,k5,hC,T⟩:=zEB X hx;have F:=F.excBase_ValueError;obtain⟨hh,g,dr,t,os⟩:=s;refine wpAny_call (codeAny_call_builtin F.init.plain F.initEntry (wpAny_check_init_subT F T hC he hc ?_))
 wp_walk
 rw[hd]
 wp_walk
 obtain⟨x0,lu⟩:∃x0,vs[0]?=some x0:=⟨_,wIm ∅⟩;rw[lu];refine wHx (wHu ?_);have dZ:(hh.push { cls:=.type "tuple",data:=.seq #[text] }).get? e=some oe:=wHz _ he;have hee:e≠hh.objs.size:=wHO (wHH he);refine wpAny_setField dZ hd ∅ ?_;have fin:∀{Q':Unit->Shared->Prop} {E':Value->Shared->Prop} {s':Shared},Q' PUnit.unit s'->wpAny (model prog w) A.in1 (match x0 with | .ref _=>letGo [x0] | _=>pure PUnit.unit) Q' E' s':=λq=>by cases x0<;>first | exact wHx q | exact wpAny_letGo q
 refine fin (wHx ?_);refine h _ (.ref hh.objs.size) (λb o n q=>(wHN _ _ (Ne.symm n)).trans (wHz _ q)) ?_;refine (wIc _ dZ (Obj.isFreed_of_fields (Obj.data_mapFields hd _))).trans ?_;obtain⟨c,d,dt,sl⟩:=oe;cases hd
 rfl
def zMo {f:Addr} {rest:List Value} {Q:PySem.Fin->Shared->Prop} (X:K.In s.heap) (hx:zEZ K C vEr "ValueError.__new__"=true) (hi:findIn K (.ref C) "__init__"=some (some (.ref f))) (hf:typeIn K (.ref f)=some (.type "function")) (hm:mroIn K C (.ref C)=some true) (hz:rest.length<=sizeLine)
  (h:∀h' e,Heap.MadeExcOf s.heap h' e (.ref C) rest->wpAny (model prog w) A (call (.ref f) (.ref e::rest)) (λr s'=>r=.none/\Q (.done (.ret (.ref e))) s') E { s with heap:=h' }) :
  wpAny (model prog w) A (Builtin.«type.__call__» ⟨.ref C::rest,[]⟩) Q E s:=by
 obtain⟨tl,ns,nm,qn,bs,fq,sn,sub,ab,col,dd,k0,k1,k2,k3,k5,hC,T⟩:=zEB X hx;have F:=F.excBase_ValueError;obtain⟨hh,g,dr,t,os⟩:=s
 repeat (first | with_reducible refine wpAny_loadPart_at hC ?_ | with_reducible refine wpAny_madeBy_exc hC ?_ | wp_step)
 refine codeAny_call_builtin_code (Code.quiet_builtin _ F.quiet) (wpAny_check_new_subT F T hC ?_);refine codeAny_exc_new_subT F T hC ?_ hz;obtain⟨h1,e1⟩:∃h1,h1=(hh.push { cls:=.type "tuple",data:=.seq rest.toArray }).push { cls:=.ref C,data:=.fields #[.ref hh.objs.size,.none,.none,.none,.bool false,.none] }:=⟨_,rfl⟩;have kp:∀b o,hh.get? b=some o->h1.get? b=some o:=λb o q=>by rw[e1];exact wHz _ (wHz _ q)
 have ge:h1.get? (hh.objs.size+1)=some { cls:=.ref C,data:=.fields #[.ref hh.objs.size,.none,.none,.none,.bool false,.none] }:=by have:=wHG (hh.push { cls:=.type "tuple",data:=.seq rest.toArray }) (o:={ cls:=.ref C,data:=.fields #[.ref hh.objs.size,.none,.none,.none,.bool false,.none] }) rfl;rw[wIk] at this;rw[e1];exact this
 have gt:h1.get? hh.objs.size=some { cls:=.type "tuple",data:=.seq rest.toArray }:=by rw[e1];exact wHz _ (wHG _ rfl)
 have X1:K.In h1:=λb o q=>kp b o (X b o q);have C1:=kp _ _ hC;show wpAny _ _ _ _ _ _;rw[← e1];have I:InstAt h1 (hh.objs.size+1) { cls:=.ref C,data:=.fields #[.ref hh.objs.size,.none,.none,.none,.bool false,.none] } C none:=⟨ge,rfl,rfl,trivial⟩;have L:Looks (model prog w) h1 (isInstance (.ref (hh.objs.size+1)) (.ref C)) true:=I.type.andThen (looks_mroIn X1 hm);refine wHu (L.here (s:=⟨h1,g,dr,t,os⟩) ?_);rw[wHD ⋯];refine wHu (wIn (special_fn (s:=⟨h1,g,dr,t,os⟩) X1 I hi hf ?_));refine wH4 (h h1 (hh.objs.size+1) ⟨kp,wIF (Nat.le_succ _),hh.objs.size,ge,wIF (wHA _),gt⟩) (λr s' z=>?_) λ_ _ z=>z;obtain⟨rfl,q⟩:=z;dsimp only;rw[wHD (by simp)];exact wHx q
def zM3 {f:Addr} {rest:List Value} {Q:Value->Shared->Prop} (X:K.In s.heap) (hx:zEZ K C vEr "ValueError.__new__"=true) (hi:findIn K (.ref C) "__init__"=some (some (.ref f))) (hf:typeIn K (.ref f)=some (.type "function")) (hm:mroIn K C (.ref C)=some true) (hz:rest.length<=sizeLine)
  (h:∀h' e,Heap.MadeExcOf s.heap h' e (.ref C) rest->wpAny (model prog w) (A.under (.builtin "type.__call__" ⟨.ref C::rest,[]⟩)) (call (.ref f) (.ref e::rest)) (λr s'=>r=.none/\Q (.ref e) s') E { s with heap:=h' }) :
  wpAny (model prog w) A (call (.ref C) rest) Q E s:=by
 obtain⟨tl,ns,nm,qn,bs,fq,sn,sub,ab,col,dd,k0,k1,k2,k3,k5,hC,T⟩:=zEB X hx;obtain⟨hh,g,dr,t,os⟩:=s;have f1:=tc_lookup;have f2:=tc_bind (.ref C);have hT:(⟨hh,g,dr,t,os⟩:Shared).TypeIs (.ref C) "type":=⟨_,hC,rfl⟩;refine wpAny_call (codeAny_of_tree ?_);show wpAny _ _ (callAny (.ref C) _) _ _ _
 repeat (any_goals (first | assumption | with_reducible refine wpAny_loadPart_at hC ?_ | wp_step))
 refine⟨rfl,codeAny_call_builtin_at (Code.quiet_builtin _ (by nofun)) entry_typeCall (wpAny_check_type_call_sub hC (zMo X hx hi hf hm hz λh' e mk=>?_))⟩;exact h h' e mk
end
section
variable {M:Model} {A:Around} {E:Value->Shared->Prop} {env:Env} {s:Shared} {x:Sem Value} {K:W.Frag} {C:Addr}
def zIU {Q:Flow->Shared->Prop} (hh:A.handled=none)
  (hx:zEZ K C vEr "ValueError.__new__"=true)
  (h:wpAny M A x (λv s1=>∃e oe vs,v=.ref e/\K.In s1.heap/\s1.heap.get? e=some oe/\oe.cls=.ref C/\oe.data=.fields vs/\vs[1]?=some .none/\E (.ref e) s1) E s) :
  wpAny M A (raiseStmt env (some x) none) Q E s:=by
 unfold raiseStmt;refine wHu (wH4 h (λv s1 h1=>?_) λ_ _ z=>z);obtain⟨e,oe,vs,rfl,X,he,hc,hd,h1,hE⟩:=h1;obtain⟨tl,ns,nm,qn,bs,fq,sn,sub,ab,col,dd,k0,k1,k2,k3,k5,hC,T⟩:=zEB X hx;have hcB:(Value.ref C::tl).contains (.type "BaseException")=true:=by rw[List.contains_cons,T.hasType (b:=true) rfl,Bool.or_true]
 obtain⟨hp,g,d,tk,os⟩:=s1
 repeat (first | (with_reducible refine wpAny_loadPart_at he ?_;rw[hc]) | with_reducible refine wpAny_loadPart_at hC ?_ | (with_reducible refine wpAny_isSubtype_exc hC ?_;rw[hcB]) | wp_step)
 rw[hd];refine wHx ?_;rw[h1];refine wHx ?_;rw[wHD (by simp)];exact wHx (wpAny_raiseNew_none hh hE)
end
section
variable {prog:Program} {w:World} {A:Around} {E:Value->Shared->Prop} {env:Env} {s:Shared} {K:W.Frag} {C f:Addr} {n:Str} {np aB pos:Pos} {args:List Expr}
def zFa {Q:Flow->Shared->Prop} (hh:A.handled=none) (aQ:(backTo aB (starEach args env)).any (·.1)=false) (hx:zEZ K C vEr "ValueError.__new__"=true) (hi:findIn K (.ref C) "__init__"=some (some (.ref f))) (hf:typeIn K (.ref f)=some (.type "function")) (hm:mroIn K C (.ref C)=some true)
  (h:wpAny (model prog w) A (eval (.Name n np) env) (λv s1=>v=.ref C/\wpAny (model prog w) A (evalArgs (.ref C) true (backTo aB (starEach args env)) []) (λa s2=>a.kw=[]/\a.pos.length<=sizeLine/\K.In s2.heap/\
   ∀h' e,Heap.MadeExcOf s2.heap h' e (.ref C) a.pos->wpAny (model prog w) (A.under (.builtin "type.__call__" ⟨.ref C::a.pos,[]⟩)) (call (.ref f) (.ref e::a.pos)) (λr s3=>r=.none/\∃oe vs,K.In s3.heap/\s3.heap.get? e=some oe/\oe.cls=.ref C/\oe.data=.fields vs/\vs[1]?=some .none/\E (.ref e) s3) E { s2 with heap:=h' }) E s1) E s) :
  wpAny (model prog w) A (exec (.Raise (some (.Call (.Name n np) args [] aB)) none pos) env) Q E s:=by
 rw[arm_exec_Raise];refine wHu (wpAny_standAt (zIU (K:=K) (C:=C) hh hx ?_));refine wHu (wH4 (wpAny_Call_ofName (wH4 h (λv s1 h1=>?_) λ_ _ z=>z)) (λv s3 h3=>wHu (wpAny_standAt (wHx h3))) λ_ _ z=>z);obtain⟨rfl,h1⟩:=h1;unfold callWith;refine wHu (wIn (wH4 h1 (λa s2 h2=>wHu (wpAny_standAt ?_)) λ_ _ z=>z));obtain⟨ap,ak⟩:=a;obtain⟨hk,hl,X,h3⟩:=h2;obtain rfl:ak=[]:=hk;simp only[aQ];obtain⟨tl,ns,nm,qn,bs,fq,sn,sub,ab,col,dd,k0,k1,k2,k3,k5,hC,T⟩:=zEB X hx;obtain⟨hp,g,d,tk,os⟩:=s2;refine wHu (wpAny_keeperOf_exc hC ?_);refine wHu (zM3 X hx hi hf hm hl λh' e mk=>?_);refine wH4 (h3 h' e mk) (λr s3 z=>?_) λ_ _ z=>z;obtain⟨rfl,oe,vs,a1,a2,a3,a4,a5,a6⟩:=z;exact⟨rfl,wHu (wIn (wpAny_point (wHx ⟨e,oe,vs,rfl,a1,a2,a3,a4,a5,a6⟩)))⟩
end
end L2
namespace L2
open PySem PySem.Spec PyProof.Rows PySem.W
def zLL (H:Hp) (e:Addr):Hp:=λb=>if b=e then none else H b
def zG1 {H:Hp} {e:Addr}:zLL H e e=none:=by unfold zLL;rw[wHF rfl]
theorem zH7 {H:Hp} {e b:Addr} (h:b≠e):zLL H e b=H b:=by unfold zLL;rw[wHD h]
section
variable {X:Cx} {pins:List (Addr × Obj)} {σ:St} {H:Hp} {s:Shared}
def Inv.shed {e dx:Addr} {cls:Value} {fs:List (Str × V)} (I:Inv X pins σ H s) (he:H e=some (zCM e cls (some dx))) (hd:H dx=some (XdN dx fs)) (ne:dx≠e):Inv X pins σ (upd (zLL H e) dx (.xd fs)) s:=by
 have other:∀b,b≠dx->b≠e->upd (zLL H e) dx (.xd fs) b=H b:=λb n1 n2=>by rw[zJ n1,zH7 n2]
 have nd:∀b o,H b=some o->(∀φ,o≠.ext φ)->b≠dx/\b≠e:=λb o q n=>⟨λz=>by rw[z,hd] at q;exact n _ (wHE q).symm,λz=>by rw[z,he] at q;exact n _ (wHE q).symm⟩;refine I.call' (s':=s) (ch:=[]) rfl ⟨λb o q _ _ _=>q,λb o q _ _ _=>⟨o.slots,q⟩,λb o q n _=>?_,λb o q _=>⟨o,q⟩,λb xs q=>?_,λb o u q=>?_,λb ps q=>⟨#[],?_⟩⟩ (λb u q=>?_) I.bare λb z=>nomatch z
 ·rw[other b (λz=>by rw[z,hd] at n;cases n) (λz=>by rw[z,he] at n;cases n)];exact n
 ·obtain⟨n1,n2⟩:=nd b _ q λφ z=>nomatch z
  rw[other b n1 n2];exact q
 ·obtain⟨n1,n2⟩:=nd b _ q λφ z=>nomatch z
  rw[other b n1 n2];exact q
 ·obtain⟨n1,n2⟩:=nd b _ q λφ z=>nomatch z
  rw[other b n1 n2,q];simp
 by_cases z:b=dx
 ·subst z;rw[zB] at q;cases q;exact XdN.get I.hok hd
 by_cases z2:b=e
 ·subst z2;rw[zJ z,zG1] at q;cases q
 rw[other b z z2] at q;refine (I.hok b u q).stay (λ_ _ _ r=>r) (λc r=>?_) λc xs r=>?_
 ·obtain⟨n1,n2⟩:=nd c _ r λφ z=>nomatch z
  rw[other c n1 n2];exact r
 obtain⟨n1,n2⟩:=nd c _ r λφ z=>nomatch z
 rw[other c n1 n2];exact r
def Inv.newX {C e:Addr} {rest:List Value} {h':Heap} (I:Inv X pins σ H s) (mk:Heap.MadeExcOf s.heap h' e (.ref C) rest):H e=none/\Inv X pins σ (upd H e (zCM e (.ref C) none)) { s with heap:=h' }:=by have nH:H e=none:=zC4 I.hok mk.new;obtain⟨t,ht,_⟩:=mk.there;refine⟨nH,I.call' (s':={ s with heap:=h' }) (ch:=[]) rfl ((⟨λb o q _ _ _=>mk.keeps _ _ q,λb o q _ _ _=>⟨o.slots,mk.keeps _ _ q⟩,λb o q n _=>n,λb o q _=>⟨o,mk.keeps _ _ q⟩,λ_ _ q=>q,λ_ _ _ q=>q,λb ps q=>⟨#[],by rw[q];simp⟩⟩:Un (frs X.stack) [] H H s.heap h').put mk.new nH) ((I.hok.kept mk.keeps).put nH (zCM.mk ht rfl rfl rfl rfl rfl)) I.bare λb z=>nomatch z⟩
end
structure XMk (K:W.Frag) (C f:Addr):Prop where
 ex:zEZ K C vEr "ValueError.__new__"=true
 init:findIn K (.ref C) "__init__"=some (some (.ref f))
 fn:isFn K (.ref f)=true
 self:mroIn K C (.ref C)=some true
def zN8 (E:XK) (C:Addr) (sp:Sp) (ta:TA):TS:=λ_ σ H=>ta σ H λvs H1=>vs.length<=100/\∀e,H1 e=none->sp (.ref e::vs) (upd H1 e (zCM e (.ref C) none)) (λr H2=>r=.non/\∃dx fs,dx≠e/\H2 e=some (zCM e (.ref C) (some dx))/\H2 dx=some (XdN dx fs)/\E (.ref C) (some dx) (upd (zLL H2 e) dx (.xd fs))) E0
section
variable {P:Program} {w:World} {K:W.Frag} {mg:Str->Option Value} {base:Heap} {N:List Str} {qual:Str} {scope:Scope} {f:Addr} {cd:Value} {A:Around} {outer:List Env} {s0:Shared} {H0:Hp} {E:XK}
def zKf {k:Nat} {n:Str} {C fI:Addr} {fd:FuncData} {ps:List Str} {sp:Sp} {e1:Expr} {es:List Expr} {ta:TA} {np aB pos:Pos} (M:XMk K C fI) (F:FnOk P w K mg base CX0 k fI fd ps sp)
  (hr:Room (k+1) (zD9 (CXx P w) P w K mg base N qual scope f cd A outer s0 H0 E).A) (hb:zAg K fd ps []) (hg:Gl (zD9 (CXx P w) P w K mg base N qual scope f cd A outer s0 H0 E) n) (hm:mg n=some (.ref C))
  (ha:PA (zD9 (CXx P w) P w K mg base N qual scope f cd A outer s0 H0 E) (e1::es) ta) (hd:(n == ("__debug__":Str))=false:=by decide)
  (aF:starEach (e1::es) (zD9 (CXx P w) P w K mg base N qual scope f cd A outer s0 H0 E).env=(false,eval e1 (zD9 (CXx P w) P w K mg base N qual scope f cd A outer s0 H0 E).env)::starEach es (zD9 (CXx P w) P w K mg base N qual scope f cd A outer s0 H0 E).env:=by rfl)
  (aM:(backTo aB (starEach (e1::es) (zD9 (CXx P w) P w K mg base N qual scope f cd A outer s0 H0 E).env)).any (·.1)=false:=by rfl) :
  PS (zD9 (CXx P w) P w K mg base N qual scope f cd A outer s0 H0 E) (.Raise (some (.Call (.Name n np) (e1::es) [] aB)) none pos) (zN8 E C sp ta):=by
 intro pins s σ H D I h;refine zFa (K:=K) (C:=C) (f:=fI) (I.ok.hd rfl) aM M.ex M.init (beq_iff_eq.mp M.fn) M.self (zBA I hg hm ⟨rfl,?_⟩ hd);have hA:=ha aB pins s σ H _ I h;rw[aF] at hA ⊢;refine Calls.evalArgs_plain (wH4 hA (λus s2 ⟨vs,H1,I1,r,hl,q⟩=>?_) λ_ _ z=>z);refine⟨rfl,by show us.length<=_;rw[← r.length];exact small ∅,I1.kIn,λh' e mk=>?_⟩;obtain⟨nH,I2⟩:=I1.newX mk;have hq:=q e nH;have old:∀b,s2.heap.get? b=none->s0.heap.get? b=none:=λb z=>by
  cases y:s0.heap.get? b with
  | none=>rfl
  | some o=>obtain⟨o',h'⟩:=I1.base.there b o y (λz=>nomatch z);rw[z] at h';cases h'
 have r2:zAv (V.ref e::vs) (Value.ref e::us):=.cons rfl r;have hln:(Value.ref e::us).length=ps.length:=by have e9:=r2.length;rw[F.len _ _ _ _ hq] at e9;exact e9.symm
 refine wpAny_call (codeAny_mono (F.run _ (zD9 (CXx P w) P w K mg base N qual scope f cd A outer s0 H0 E).stack _ _ ⟨Value.ref e::us,[]⟩ (Value.ref e::us) _ _ E0 (hr.make C us []) (I2.env0.make C us []) ?_ r2 hq) λrr s' bV=>?_)
 ·have:=hb { s2 with heap:=h' } (Value.ref e::us) I2.kIn (by rw[wHQ];exact hln);rw[wHQ] at this;exact this
 cases rr with
 | error ev=>exact zCW (X:=zD9 (CXx P w) P w K mg base N qual scope f cd A outer s0 H0 E) pins σ _ _ ev s' I2 bV
 | ok fl=>
  cases fl with
  | ret u=>
   obtain⟨v,H2,I3,rv,ev,dx,fs,ne,he,dC,qE⟩:=I2.after bV;subst ev;obtain⟨oe,ws,g1,g2,g3,g4,g5,g6⟩:=zCM.get I3.hok he;refine⟨rv,oe,ws,I3.kIn,g1,g2,g4,g5,?_⟩;have I4:=I3.shed he dC ne;refine zFs (s:=s') I3.ok.frames I3.stack rfl g1 g4 g5 g6 λdG T' m nT x'=>?_;have eW:upd (zLL H2 e) dx (.xd fs) e=none:=by rw[zJ (Ne.symm ne)];exact zG1
   have eX:upd (zLL H2 e) dx (.xd fs) T'=none:=zC4 I4.hok nT;have fL:s0.heap.get? T'=none:=by
    cases y:s0.heap.get? T' with
    | none=>rfl
    | some o=>obtain⟨o',h'⟩:=I3.base.there T' o y (λz=>nomatch z);rw[nT] at h';cases h'
   rw[g2,g3] at x';exact zKp (s'':={ s' with heap:=dG }) I4 m rfl I4.bare x' (λb hb=>by
    simp at hb;rcases hb with z | z
    ·rw[z];exact old e mk.new
    ·rw[z];exact fL) (λb hb=>by
    simp at hb;rcases hb with z | z
    ·rw[z];exact eW
    rw[z];exact eX) (old e mk.new) fL eW eX qE
  | next=>exact wIh bV
  | brk=>exact wIh bV
  | cont=>exact wIh bV
end
end L2
namespace L2
open PySem PySem.Spec PyProof.Rows PySem.W
structure XB (K:W.Frag) (B:Addr):Prop where
 ga:specialIn K (.ref B) "__getattribute__"=some (some (.builtin "type.__getattribute__"))
 rd:readsIn K B (.type "type")=true
 fc:findCls K (.ref B) (.type "type") "__init__"=some (.val (.builtin "ValueError.__init__"))
def zOG (K:W.Frag) (ta:TA):TE:=λσ H Q=>ta σ H λxs H1=>∃e C dd z,xs=[.ref e,.str z]/\H1 e=some (zCM e (.ref C) dd)/\zEZ K C vEr "ValueError.__new__"=true/\Q .non H1
def sXF (K:W.Frag) (ta tv:TE) (f:Str):TS:=λD σ H=>tv σ H λy H1=>ta σ H1 λx H2=>∃e C,x=.ref e/\XF K C f/\((H2 e=some (zCM e (.ref C) none)/\∀dx,H2 dx=none->dx≠e->D.nx σ (upd (upd H2 e (zCM e (.ref C) (some dx))) dx (XdN dx [(f,y)])))∨
 ∃dx fs,H2 e=some (zCM e (.ref C) (some dx))/\H2 dx=some (XdN dx fs)/\fs.length<=1000/\D.nx σ (upd H2 dx (XdN dx ((f,y)::fs))))
section
variable {X:Cx} {o value:Expr} {f n:Str} {np pos pos' apos aB:Pos} {ta tv:TE} {B:Addr} {e1:Expr} {es:List Expr} {t:TA}
def zPc (ha:PE X o ta) (hv:PE X value tv) (hs:swapsWith value (some (.Attribute o f pos')) pos.line X.env=pure false):PS X (.Assign [.Attribute o f pos'] value pos) (sXF X.K ta tv f):=by
 intro pins s σ H D I h;refine plainObj_wpAny_Assign_Attribute (thn (hv pins s σ H _ I h) λu s1 ⟨y,H1,I1,ry,q⟩=>thn (ha pins s1 σ H1 _ I1 q) λov s2 ⟨x,H2,I2,rx,e,C,ex,k,q2⟩=>?_) hs;subst ex;obtain rfl:ov=Value.ref e:=rx;rcases q2 with ⟨he,q2⟩ | ⟨dx,fs,he,hd,hz,q2⟩
 ·exact zLE I2 he k ry λs3 dx dC ne I3=>⟨σ,_,I3,q2 dx dC ne⟩
 exact zLD I2 he hd hz k ry λs3 I3=>⟨σ,_,I3,q2⟩
def zLV (b:XB X.K B) (hg:Gl X n) (hm:X.mg n=some (.ref B)) (ha:PA X (e1::es) t) (hd:(n == ("__debug__":Str))=false:=by decide) {pl:Sem Bool}
  (aF:starEach (e1::es) X.env=(false,eval e1 X.env)::starEach es X.env:=by rfl) (aM:(backTo aB (starEach es X.env)).any (·.1)=false:=by rfl)
  (ht:eval (.Call (.Attribute (.Name n np) "__init__" apos) (e1::es) [] aB) X.env=(do
   let ov ← eval (.Name n np) X.env
   standAt apos.atName
   let (f,first) ← holding [ov] (getMethod ov "__init__" pl)
   callWith aB f first (backTo aB (starEach (e1::es) X.env)) (backToKw aB (keywordEach [] X.env))):=by rfl) :
  PE X (.Call (.Attribute (.Name n np) "__init__" apos) (e1::es) [] aB) (zOG X.K t):=by
 intro pins s σ H Q I h;refine W.methodCall_KW (pl:=pl) (zBA I hg hm ?_ hd) ht;refine method_cls I.kIn b.ga (cls_value I.kIn b.rd b.fc rfl ?_);have I1:Inv X pins σ H { s with toks:=s.toks+1 }:=I.tok _;have hA:=ha aB pins _ σ H _ I1 h;rw[aF] at hA ⊢;refine Calls.callWith_builtin (by show (false || (backTo aB (starEach es X.env)).any (·.1))=false;rw[aM];rfl) (Calls.evalArgs_plain (thn hA λus s2 ⟨vs,H2,I2,r2,e,C,dd,z,ex,he,hx,q⟩=>?_));subst ex;obtain⟨u1,u2,rfl,r1,r3⟩:=zL2 r2;obtain rfl:u1=Value.ref e:=r1;obtain⟨oe,ws,g1,g2,g3,g4,g5,g6⟩:=zCM.get I2.hok he;have sz:2 < ws.size:=(Array.getElem?_eq_some_iff.mp g6).1;refine zKK I2.kIn hx g1 g2 g4 sz λh' t' keep hn=>⟨.non,H2,?_,rfl,q⟩;have mu:Mut (H2 e):=by rw[he];exact True.intro
 have I3:=I2.write (t':=s2.toks) mu (.inl rfl) (λb u n q=>keep b u n q) ⟨_,hn⟩ (o:=zCM e (.ref C) dd) (zCM.mk hn g2 g3 rfl (by rw[Array.getElem?_setIfInBounds_ne ⋯];exact g5) (by rw[Array.getElem?_setIfInBounds_ne ⋯];exact g6));have eH:upd H2 e (zCM e (.ref C) dd)=H2:=by
  funext b
  by_cases y:b=e
  ·subst y;rw[zB,he]
  rw[zJ y]
 rw[eH] at I3;exact I3
end
end L2
namespace L2
open PySem PySem.Spec PyProof.Rows PySem.W
def zQh (K:W.Frag) (ta:TE) (f:Str):TE:=λσ H Q=>ta σ H λx H1=>∃e C dx fs v,x=.ref e/\H1 e=some (zJp e (.ref C) (some dx))/\H1 dx=some (.xd fs)/\ExcX K C/\hasDictIn K C=true/\findIn K (.ref C) f=some none/\fs.lookup f=some v/\Q v H1
section
variable {X:Cx} {o:Expr} {f:Str} {pos:Pos} {ta:TE}
def zKl (he:PE X o ta) (hb:attributeBase o f X.env (eval o X.env)=eval o X.env):PE X (.Attribute o f pos) (zQh X.K ta f):=by
 intro pins s σ H Q I h;refine zLr hb (thn (he pins s σ H _ I h) λu s1 aA=>?_);obtain⟨x,H1,I1,rx,e,C,dx,fs,v,ex,e1,e2,kx,kd,ka,l,q⟩:=aA;subst ex;obtain rfl:u=Value.ref e:=rx;obtain⟨oe,vs,g1,g2,g3,g4,g5⟩:=zJp.get I1.hok e1;obtain⟨mA,hn,hr⟩:=I1.hok dx _ e2;obtain⟨od,ho,hl⟩:=zGJ hn;have J:InstAt s1.heap e oe C (some od):=⟨g1,g2,by unfold notCls;rw[g4],by rw[g3];exact ho⟩;have rv:=hr f;rw[l] at rv;obtain⟨u,hu,ru⟩:∃u,mA f=some u/\zAV v u:=by
  cases q:mA f with
  | none=>rw[q] at rv;exact absurd rv (by intro z;exact z)
  | some u=>rw[q] at rv;exact⟨u,rfl,rv⟩
 have hf:findObj X.K C (some od) f=some (.value u):=findObj_own kd ka rfl (by rw[hl f,hu]);have I2:Inv X pins σ H1 { s1 with toks:=s1.toks+1 }:=I1.tok _;refine wHu (wpAny_mkText ?_);refine zM8 (s:={ s1 with toks:=s1.toks+1 }) I1.kIn J kx.ga kx.gt kx.mb λA'=>zJs (s:={ s1 with toks:=s1.toks+1 }) I1.kIn J hf ?_;exact handed_on (zGU ru) ⟨v,H1,I2,ru,q⟩
end
open PySem.Builtin.Tuple (tupleHashOf tupleItemsOf)
structure VKind (prog:Program) (w:World) (K:Type) [DecidableEq K] where
 is:Heap->K->Value->Prop
 hash:K->Int
 draws:K->Nat
 deep:Nat
 inj:∀{h:Heap} {v:Value} {x y:K},is h x v->is h y v->x=y
 keeps:∀{h h':Heap} {k:K} {v:Value} {d:Addr} {o:Obj} {es ep},is h k v->h.get? d=some o->o.data=.dict es ep->Heap.SameBut d h h'->is h' k v
 pyHash:∀{A:Around} {E:Value->Shared->Prop} {s:Shared} {k:K} {v:Value} {Q:Int->Shared->Prop},A.units+deep < cLine->is s.heap k v->Q (hash k) { s with toks:=s.toks+draws k }->
  wpAny (model prog w) A (PySem.pyHash v) Q E s
 eqBool:∀{A:Around} {E:Value->Shared->Prop} {s:Shared} {x y:K} {u v:Value} {Q:Bool->Shared->Prop},A.units+deep < cLine->is s.heap x u->is s.heap y v->Q (decide (x=y)) s->
  wpAny (model prog w) A (PySem.eqBool u v) Q E s
 quiet:∀{A:Around} {E:Value->Shared->Prop} {s:Shared} {k:K} {v:Value} {n:Nat} {Q:Bool->Shared->Prop},deep<=n->is s.heap k v->Q true s->wpAny (model prog w) A (eqIsQuiet n v) Q E s
section
variable {prog:Program} {w:World} {K:Type} [DecidableEq K]
def VKind.of (knd:PySem.KeyKind prog w K):VKind prog w K where
 is:=λ_ k v=>knd.is k v=true
 hash:=knd.hash
 draws:=λ_=>1
 deep:=0
 inj:=λhx hy=>knd.inj _ _ _ hx hy
 keeps:=λx _ _ _=>x
 pyHash:=λ_ x q=>knd.pyHash x q
 eqBool:=λ_ x y q=>knd.eqBool x y q
 quiet:=λ{A E s k v n Q} _ x q=>by rw[eqIsQuiet_byValue n (knd.byValue k v x)];exact wHx q
variable (vk:VKind prog w K)
inductive Mems (h:Heap):List K->List Value->Prop
 | nil:Mems h [] []
 | cons {k:K} {v:Value} {ks:List K} {vs:List Value}:vk.is h k v->Mems h ks vs->Mems h (k::ks) (v::vs)
def zQI (h:Heap) (ks:List K) (v:Value):Prop:=∃(a:Addr) (o:Obj) (its:Array Value) (n:Nat),v=.ref a/\h.get? a=some o/\o.cls=.type "tuple"/\o.data=.seq its n/\Mems vk h ks its.toList
variable {vk}
def Mems.one {h:Heap}:∀{x y:List K} {vs:List Value},Mems vk h x vs->Mems vk h y vs->x=y
 | _,_,_,.nil,.nil=>rfl
 | _,_,_,.cons a b,.cons c d=>by rw[vk.inj a c,b.one d]
theorem Mems.keep {h h':Heap} {d:Addr} {o:Obj} {es ep} (e1:h.get? d=some o) (e2:o.data=.dict es ep) (e3:Heap.SameBut d h h'):∀{x:List K} {vs:List Value},Mems vk h x vs->Mems vk h' x vs
 | _,_,.nil=>.nil
 | _,_,.cons a b=>.cons (vk.keeps a e1 e2 e3) (b.keep e1 e2 e3)
def zMc {h h':Heap} {a d:Addr} {o o':Obj} {es ep} {its:Array Value} {n:Nat} (q:h.get? a=some o') (q2:o'.data=.seq its n) (e1:h.get? d=some o) (e2:o.data=.dict es ep) (e3:Heap.SameBut d h h'):h'.get? a=some o':=by
 have ne:a≠d:=λz=>by subst z;rw[q] at e1;rw[wHE e1,e2] at q2;cases q2
 rw[e3.2 a ne];exact q
variable {A:Around} {E:Value->Shared->Prop} {s:Shared}
def zMw {a:Addr} {o:Obj} {its:Array Value} {n:Nat} {hs:List Int} {tk:Nat} {Q:Int->Shared->Prop} (hu:A.units < cLine) (ho:s.heap.get? a=some o) (hc:o.cls=.type "tuple") (hd:o.data=.seq its n)
  (zO9:∀(b0:Array Int) (R:Array Int->Shared->Prop),(∀b:Array Int,b.toList=b0.toList++hs->R b { s with toks:=s.toks+tk })->∀F:Value->Array Int->Sem (ForInStep (Array Int)),(∀v b R' E' s',wpAny (model prog w) A.in1 (PySem.pyHash v) (λi s2=>R' (.yield (b.push i)) s2) E' s'->wpAny (model prog w) A.in1 (F v b) R' E' s')->wpAny (model prog w) A.in1 (forIn its.toList b0 F) R E s)
  (h:Q (reduceHash (tupleHashOf hs)) { s with toks:=s.toks+(tk+1) }):wpAny (model prog w) A (PySem.pyHash (.ref a)) Q E s:=by
 have hT:s.TypeIs (.ref a) "tuple":=⟨o,ho,hc⟩;unfold PySem.pyHash
 first | unfold pyHashByItsType | skip
 first | refine wHu (wpAny_cRoomFor_or (.inr hu) ?_) | skip
 refine wHu (wpAny_specialOf hT F.slot_tuple_hash.lookup ?_);show wpAny _ _ (if (some (Value.builtin "tuple.__hash__") == some Value.none)=true then _ else _) Q E s;rw[wHD (λz=>absurd (beq_builtin_none _ ▸ z) wHM)];refine wHu (wpAny_specialOf hT F.slot_tuple_hash.lookup ?_);show wpAny _ _ (callSpecialIfBoundUnlessNone? (.ref a) "__hash__" _ >>= _) Q E s;refine wHu (wpAny_callSpecialIfBoundUnlessNone?_slot hT F.slot_tuple_hash (wpAny_call_entry F.slot_tuple_hash hT F.entry_tuple_hash ?_ (F.args_tuple_hash_1 _)));show wpAny _ _ (tupleItemsOf (.ref a) >>= _) _ _ s;refine wHu (wpAny_tupleItemsOf ho hd (wHu ?_));rw[← Array.forIn_toList];refine zO9 _ _ (λb hb=>?_) _ λv b R' E' s' k=>?_
 ·have mD:b.toList=hs:=by rw[hb];simp
  show wpAny _ _ (retInt (tupleHashOf b.toList)) _ _ _;rw[mD];refine wpAny_ret_mkInt ?_;show wpAny _ _ (if (decide (-(2:Int) ^ 63<=tupleHashOf hs) && decide (tupleHashOf hs < 2 ^ 63))=true then _ else _) Q E _;unfold reduceHash at h
  split at h
  ·rename_i c
   rw[wHF c];exact wHx (by simpa [Nat.add_assoc] using h)
  rename_i c
  rw[wHD c];exact wHu (wpAny_rule (wHx (by simpa [Nat.add_assoc] using h)))
 exact wHu (wH4 k (λ_ _ z=>by first | exact wHx z | exact wHu (wHx (wHx z))) λ_ _ z=>z)
theorem zGI {F:Value->Array Int->Sem (ForInStep (Array Int))} (hF:∀v b R' E' s',wpAny (model prog w) A (PySem.pyHash v) (λi s2=>R' (.yield (b.push i)) s2) E' s'->wpAny (model prog w) A (F v b) R' E' s') (hu:A.units+vk.deep < cLine) :
  ∀{ks:List K} {vs:List Value} {s:Shared} {b0:Array Int} {R:Array Int->Shared->Prop},Mems vk s.heap ks vs->(∀b:Array Int,b.toList=b0.toList++ks.map vk.hash->R b { s with toks:=s.toks+(ks.map vk.draws).sum })->wpAny (model prog w) A (forIn vs b0 F) R E s
 | _,_,s,b0,R,.nil,h=>by rw[List.forIn_nil];exact wHx (h b0 (by simp))
 | _,_,s,b0,R,@Mems.cons _ _ _ _ _ _ k v ks vs a r,h=>by rw[List.forIn_cons];refine wHu (hF _ _ _ _ _ (vk.pyHash hu a ?_));refine zGI hF hu (s:={ s with toks:=s.toks+vk.draws k }) r λb hb=>?_;have q:=h b (by rw[hb,Array.toList_push,wH6,wHY];rfl);rw[wH6,List.sum_cons,← Nat.add_assoc] at q;exact q
def zNa (x:Value × Value) (_:Option Fin × Unit):Sem (ForInStep (Option Fin × Unit)):=do
 let c ← PySem.eqBool x.1 x.2
 if (!c)=true then do
  let r ← ret (Value.bool false)
  pure (ForInStep.done (some r,PUnit.unit))
 else pure (ForInStep.yield (none,PUnit.unit))
def zPL {a b:Addr} {oa ob:Obj} {xs ys:Array Value} {na nb:Nat} {r z:Bool} {Q:Bool->Shared->Prop} (hu:A.units < cLine) (ha:s.heap.get? a=some oa) (hca:oa.cls=.type "tuple") (cL:oa.data=.seq xs na)
  (hb:s.heap.get? b=some ob) (hcb:ob.cls=.type "tuple") (bG:ob.data=.seq ys nb) (same:a=b->r=true) (hr:r=(z && (xs.size == ys.size)))
  (zO9:∀R:Option Fin × Unit->Shared->Prop,(z=true->R (none,PUnit.unit) s)->(z=false->R (some (.done (.ret (.bool false))),PUnit.unit) s)->wpAny (model prog w) A.in1 (forIn (List.zip xs.toList ys.toList) (none,PUnit.unit) zNa) R E s)
  (h:Q r s):wpAny (model prog w) A (PySem.eqBool (.ref a) (.ref b)) Q E s:=by
 have hTa:s.TypeIs (.ref a) "tuple":=⟨oa,ha,hca⟩;have hTb:s.TypeIs (.ref b) "tuple":=⟨ob,hb,hcb⟩;unfold PySem.eqBool
 try with_reducible refine wIn ?_
 show wpAny _ _ (if (Value.ref a == Value.ref b)=true then _ else _) Q E s;by_cases hab:(Value.ref a == Value.ref b)=true
 ·rw[wHF hab];have e:a=b:=Value.ref.inj (eq_of_beq hab);rw[same e] at h;exact wHu (wpAny_rule (wHx h))
 rw[wHD hab];refine wHu (wpAny_richCompare_same_room (op:=.Eq) hTa hTb F.slot_tuple_eq (wpAny_call_entry F.slot_tuple_eq hTa F.entry_tuple_eq ?_ (F.args_tuple_eq_2 _ _)) hu);have fin:∀k:Bool,k=r->∃v,Fin.done (.ret (Value.bool k))=.done (.ret v)/\v≠.notImplemented/\wpAny (model prog w) A (truthOfDropped v) Q E s:=λk e=>⟨_,rfl,(λe=>nomatch e),wpAny_truthy_bool (by rw[e];exact h)⟩;show wpAny _ _ (isInstance (.ref b) (.type "tuple") >>= _) _ _ s;refine wHu (wpAny_isInstance hTb isSubtype_tuple_tuple ?_);simp only[Bool.not_true,Bool.false_eq_true,if_false];refine wHu (wpAny_tupleItemsOf ha cL ?_);refine wHu (wpAny_tupleItemsOf hb bG (wHu ?_));refine zO9 _ (λe=>?_) λe=>?_
 ·show wpAny _ _ (pure (Fin.done (.ret (.bool (xs.size == ys.size)))):Sem Fin) _ _ _;exact wHx (fin _ (by rw[hr,e];rfl))
 exact wHx (fin _ (by rw[hr,e];rfl))
def zq:List K->List K->Bool
 | k::ks,j::js=>decide (k=j) && zq ks js
 | _,_=>true
theorem zO3:∀{x y:List K},decide (x=y)=(zq x y && (x.length == y.length))
 | [],[]=>by simp[zq]
 | [],_::_=>by simp[zq]
 | _::_,[]=>by simp[zq]
 | k::ks,j::js=>by
  have ih:=zO3 (x:=ks) (y:=js);by_cases e:k=j
  ·subst e;rw[show zq (k::ks) (k::js)=zq ks js by simp[zq],show ((k::ks).length == (k::js).length)=(ks.length == js.length) by simp,← ih];simp
  simp[zq,e]
theorem zK7 (hu:A.units+vk.deep < cLine):∀{x y:List K} {us vs:List Value} {R:Option Fin × Unit->Shared->Prop},Mems vk s.heap x us->Mems vk s.heap y vs->(zq x y=true->R (none,PUnit.unit) s)->(zq x y=false->R (some (.done (.ret (.bool false))),PUnit.unit) s)->
  wpAny (model prog w) A (forIn (List.zip us vs) (none,PUnit.unit) zNa) R E s
 | _,_,_,_,R,.nil,_,h,_=>by rw[List.zip_nil_left,List.forIn_nil];exact wHx (h rfl)
 | _,_,_,_,R,.cons _ _,.nil,h,_=>by rw[List.zip_nil_right,List.forIn_nil];exact wHx (h rfl)
 | _,_,_,_,R,@Mems.cons _ _ _ _ _ _ k1 v1 ks1 vs1 a r,@Mems.cons _ _ _ _ _ _ k2 v2 ks2 vs2 b q,h,h'=>by
  rw[List.zip_cons_cons,List.forIn_cons];refine wHu (wHu (vk.eqBool hu a b ?_));by_cases e:k1=k2
  ·rw[wHU e];refine wHx ?_;refine zK7 hu r q (λz=>h ?_) λz=>h' ?_
   ·simp[zq,e,z]
   simp[zq,e,z]
  rw[wHX e];refine wHu (wHx (wHx ?_));exact wHx (h' (by simp[zq,e]))
def Mems.length {h:Heap}:∀{x:List K} {vs:List Value},Mems vk h x vs->x.length=vs.length
 | _,_,.nil=>rfl
 | _,_,.cons _ b=>by rw[wH3,wH3,b.length]
theorem zKd {a:Addr} {o:Obj} {its:Array Value} {n k:Nat} {Q:Bool->Shared->Prop} (ho:s.heap.get? a=some o) (hc:o.cls=.type "tuple") (hd:o.data=.seq its n)
  (each:∀v∈its.toList,∀R:Bool->Shared->Prop,R true s->wpAny (model prog w) A (eqIsQuiet k v) R E s) (h:Q true s):wpAny (model prog w) A (eqIsQuiet (k+1) (.ref a)) Q E s:=by
 have hT:s.TypeIs (.ref a) "tuple":=⟨o,ho,hc⟩;unfold eqIsQuiet;refine wHu (wpAny_specialOf hT F.slot_tuple_eq.lookup ?_);show wpAny _ _ (isInstance (.ref a) (.type "tuple") >>= _) _ _ s;refine wHu (wpAny_isInstance hT isSubtype_tuple_tuple ?_);simp only[Bool.not_true,Bool.false_eq_true,if_false];refine wHu (wpAny_seqItems ho hd (wHu ?_));show wpAny _ _ (forIn its _ _) _ _ s;rw[← Array.forIn_toList];refine wpAny_forIn_list _ (λrest r s'=>r.1=none/\s'=s/\∀v∈rest,v∈its.toList) _ ?_ ?_ _ _ ⟨rfl,rfl,λv hv=>hv⟩
 ·rintro v rest r s' ⟨hr,rfl,dE⟩;refine wHu (each v (dE v wIg) _ ?_);simp only[Bool.not_true,Bool.false_eq_true,if_false];exact wHx ⟨rfl,rfl,λu hu'=>dE u (wHV _ hu')⟩
 rintro⟨r1,r2⟩ s' ⟨hr,rfl,_⟩;cases hr;exact wHx h
def Mems.each {h:Heap}:∀{x:List K} {vs:List Value},Mems vk h x vs->∀v∈vs,∃k,vk.is h k v
 | _,_,.nil,v,hv=>nomatch hv
 | _,_,.cons a b,v,hv=>by
  rcases wIQ hv with z | z
  ·subst z;exact⟨_,a⟩
  exact b.each v z
def VKind.seq (vk:VKind prog w K):VKind prog w (List K) where
 is:=λh ks v=>zQI vk h ks v
 hash:=λks=>reduceHash (tupleHashOf (ks.map vk.hash))
 draws:=λks=>(ks.map vk.draws).sum+1
 deep:=vk.deep+1
 inj:=by rintro h v x y ⟨a,o,its,n,rfl,e1,_,e3,m⟩ ⟨a',o',its',n',ea,cF,_,eB,m'⟩;cases ea;rw[e1] at cF;cases cF;rw[e3] at eB;cases eB;exact m.one m'
 keeps:=by rintro h h' k v d o es ep ⟨a,o2,its,n,rfl,e1,e2,e3,m⟩ g1 g2 g3;exact⟨a,o2,its,n,rfl,zMc e1 e3 g1 g2 g3,e2,e3,m.keep g1 g2 g3⟩
 pyHash:=by rintro A E s k v Q hu ⟨a,o,its,n,rfl,e1,e2,e3,m⟩ q;exact zMw ∅ e1 e2 e3 (λb0 R hR F hF=>zGI hF (by rw[Around.in1_units];omega) m hR) q
 eqBool:=by
  rintro A E s x y u v Q hu ⟨a,o,its,n,rfl,e1,e2,e3,m⟩ ⟨a',o',its',n',rfl,cF,fu,eB,m'⟩ q;refine zPL (z:=zq x y) ∅ e1 e2 e3 cF fu eB (λe=>?_) ?_ (λR h1 h2=>zK7 (by rw[Around.in1_units];omega) m m' h1 h2) q
  ·subst e;rw[e1] at cF;cases cF;rw[e3] at eB;cases eB;exact wHU (m.one m')
  rw[zO3,m.length,m'.length];simp
 quiet:=by rintro A E s k v n Q hd ⟨a,o,its,n',rfl,e1,e2,e3,m⟩ q;obtain⟨j,rfl⟩:∃j,n=j+1:=⟨n-1,by omega⟩;exact zKd e1 e2 e3 (λv hv R hR=>let ⟨k,hk⟩:=m.each v hv;vk.quiet ∅ hk hR) q
end
abbrev NK:=Str × List (List Int)
def zOy (H:Hp) (k:NK) (a:Addr):Prop:=∃(b:Addr) (cs:List Addr),H a=some (.tup [.str k.1,.ref b])/\H b=some (.tup (cs.map V.ref))/\cs.length=k.2.length/\∀(i:Nat) c w,cs[i]?=some c->k.2[i]?=some w->H c=some (.tup (w.map V.int))
def zOy.same {H H':Hp} {k:NK} {a:Addr} (x:zOy H k a) (s:zAi H H'):zOy H' k a:=let ⟨b,cs,h1,h2,h3,h4⟩:=x;⟨b,cs,s _ _ h1,s _ _ h2,h3,λi c w e1 e2=>s _ _ (h4 i c w e1 e2)⟩
section
variable {X:Cx}
def zHd (K:W.Frag) (hc:X.calm=true) (h:X.K=K:=by rfl):zBp X (.builtin "all") (λxs H Q=>RAll K xs H Q):=by subst h;exact zM4 hc
def zHc (K:W.Frag) (h:X.K=K:=by rfl):zBp X (.builtin "isinstance") (λxs H Q=>RIsI K xs H Q):=by subst h;exact zHV
def zDf (K:W.Frag) (h:X.K=K:=by rfl):zBp X (.type "list") (λxs H Q=>RListOf K xs H Q):=by subst h;exact zGZ
def zA8 (K:W.Frag) {l i:Expr} {tl ti:TE} {at_:Pos} (hl:PE X l tl) (hi:PE X i ti) (hp:zHW i:=by intro _ _;rfl) (hK:X.K=K:=by rfl):PE X (.Subscript l i at_) (tOp (zPX K) tl ti):=zHC (zMs K hK) hl hi hp
def zDL (K:W.Frag) {l i:Expr} {tl ti:TE} {at_:Pos} (hl:PE X l tl) (hi:PE X i ti) (hp:zHW i:=by intro _ _;rfl) (hK:X.K=K:=by rfl):PE X (.Subscript l i at_) (tOp (zQx K) tl ti):=zHC (zOe K hK) hl hi hp
def zAJ {n:Str} {v:Expr} {tv:TE} {p q:Pos} (i:Nat) (nd:X.N.Nodup) (hv:PE X v tv) (hi:X.N[i]?=some n:=by rfl) (hw:swapsWith v (some (.Name n q)) p.line X.env=pure false:=by rfl) (hl:X.env.scope.names.lookup n=some .local:=by rfl):PS X (.Assign [.Name n q] v p) (zQq tv (zKQ i)):=zFj nd hi (.inl hl) hv hw (.inr hl)
def cal {n q:Str} {st:Stmt} {f:Addr} {fd:FuncData} {ps:List Str} {sp:Sp} {j k:Nat} {a:Expr} {as:List Expr} {t:TA} {p r:Pos} (F:FnOk X.prog X.w X.K X.mg X.base CX0 j f fd ps sp) (hr:Room k X.A) (hm:X.mg n=some (.ref f)) {n':Str} (G:Fun X.K n' q st f fd) (hb:zAg X.K fd ps []) (ha:PA X (a::as) t) (hj:j<=k:=by decide) (hg:Gl X n:=by rfl) (hd:(n == ("__debug__":Str))=false:=by decide)
  (he:starEach (a::as) X.env=(false,eval a X.env)::starEach as X.env:=by rfl) (hq:(backTo r (starEach as X.env)).any (·.1)=false:=by rfl):PE X (.Call (.Name n p) (a::as) [] r) (zOP sp [] E0 t):=zAB (F.mono hj) hr hg hm G.kp hb .nil zCW ha hd he hq
end
def ndB {N:List Str} (h:decide N.Nodup=true:=by kernel_rfl):N.Nodup:=wHP h
abbrev zA9 (K:W.Frag) (x:Str) (st:Stmt) (a:Addr) (d:FuncData):Prop:=Fun K x x st a d
section
variable {X:Cx}
def zND:V->List V->Hp->VK->Prop:=λx vs H Q=>∃y z:Str,x=.str y/\vs=[.str z]/\Q (.bl (Txt.startswith y z)) H
def zFT:MtR X "str.startswith" zND:=by intro pins s σ H x vs v us Q I rx rv h;obtain⟨y,z,rfl,rfl,q⟩:=h;obtain⟨t,rfl⟩:=rx;obtain⟨u,rfl,ru⟩:=rv.one;obtain⟨tu,rfl⟩:=ru;exact SC.startswith ⟨.bl _,H,I,rfl,q⟩
end
#print Builtin.Str.subAt
end L2
namespace Pf
set_option maxHeartbeats 4000000
open PySem L2
theorem szl {n:Nat} (h:Nat.ble n 1000=true:=by rfl):n<=sizeLine:=Nat.le_trans (Nat.le_of_ble_eq_true h) ⋯
local macro_rules
 | `(tactic| bv_omega)=>`(tactic| (refine sz _ (wHI (m:=9000000) ?_ (by decide));repeat (first | with_reducible exact zOt | (with_reducible refine zQY (k:=1000) ?_ (by first | with_reducible assumption | decide +kernel)) | (with_reducible refine zQY (k:=1000002) ?_ (by with_reducible assumption)))))
def top (i:Nat):Stmt:=PySem.Challenge.pw_roundcede_k29_desk_deeds.main.body.getD i (.Pass ⟨0,0,0,0⟩)
def zBJ:List Str:=["PART","FIRST","LAST","DAY","AMOUNT","MANY"]
def zBz:List (Str × List Str):=[("house",["NAME"]),("pact",["GIVER","TAKER","PART","FIRST","LAST"]),("loss",["HOUSE","DAY","AMOUNT"]),("back",[]),("deeds",[]),("paper",["HOUSE","DAY"]),("shares",["HOUSE","DAY"]),("coins",["HOUSE","DAY","AMOUNT"]),("rounds",["HOUSE","DAY","AMOUNT","MANY"]),("borne",["HOUSE","DAY"]),("change",["HOUSE","DAY","GIVER","TAKER","PART","FIRST","LAST"]),("shut",["GIVER","TAKER","PART","FIRST","LAST"])]
abbrev zBt:Stmt:=zBb (top 9) 0
abbrev zB4:Stmt:=top 15
abbrev zEp:Stmt:=top 16
abbrev zCD:Stmt:=top 17
abbrev zCo:Stmt:=top 23
abbrev zBT:Stmt:=top 24
abbrev zCF:Stmt:=top 25
abbrev zB6:Stmt:=top 26
abbrev zDp:Stmt:=top 28
abbrev zJR:Stmt:=top 36
abbrev zFD:Stmt:=top 37
abbrev zEn:Stmt:=top 38
abbrev zEm:Stmt:=top 48
abbrev zG0:Stmt:=top 49
abbrev zH3:Stmt:=top 50
abbrev zBS:Stmt:=top 51
abbrev zCC:Stmt:=top 52
abbrev zDq:Stmt:=top 64
abbrev zBY:Stmt:=zBb (top 65) 0
abbrev zBX:Stmt:=zBb (top 65) 1
abbrev zCp:Stmt:=zBb (top 65) 2
abbrev zBW:Stmt:=zBb (top 65) 3
abbrev zCr:Stmt:=zBb (top 65) 4
abbrev zCq:Stmt:=zBb (top 65) 5
abbrev zCG:Stmt:=zBb (top 65) 6
abbrev zCH:Stmt:=zBb (top 65) 7
abbrev zBm:Stmt:=zBb (top 65) 8
abbrev zBn:Stmt:=zBb (top 65) 9
abbrev zBR:Stmt:=top 71
abbrev zCE:Stmt:=top 72
abbrev zH2:Stmt:=top 73
abbrev zBs:Stmt:=top 77
abbrev zB5:Stmt:=top 78
abbrev zEq:Stmt:=top 79
abbrev zCn:Stmt:=top 80
abbrev zN7:Stmt:=top 85
abbrev zBV:Stmt:=zBb (top 86) 0
abbrev zBU:Stmt:=zBb (top 86) 1
abbrev zQt:Stmt:=top 88
abbrev zH5:Stmt:=top 89
abbrev zEo:Stmt:=top 90
abbrev zJP:Stmt:=top 91
abbrev zQs:Stmt:=top 92
abbrev zJQ:Stmt:=top 93
abbrev zFE:Stmt:=top 94
abbrev zN6:Stmt:=top 95
abbrev zH4:Stmt:=top 96
abbrev zJS:Stmt:=top 97
abbrev zJT:Stmt:=top 98
abbrev zJO:Stmt:=top 99
abbrev zN5:Stmt:=top 100
def zDF:FnScope ["self","day","names"] ["self","day","names"] (zK zBt):=by and_intros
def zAS:FnScope ["spans","days","first","last"] ["spans"] (zK zB4):=by and_intros
def zIT:FnScope ["spans","day"] ["spans","day"] (zK zEp):=by and_intros
def zAP:FnScope ["spans","firsts","behind","told","first","after"] ["spans"] (zK zCD):=by and_intros
def zCT:FnScope ["name","small"] ["name"] (zK zCo):=by and_intros
def zEO:FnScope ["number","least","most"] ["number","least","most"] (zK zBT):=by and_intros
def zGx:FnScope ["day"] ["day"] (zK zCF):=by and_intros
def zEl:FnScope ["amount"] ["amount"] (zK zB6):=by and_intros
def zHz:FnScope ["names","name"] ["names","name"] (zK zDp):=by and_intros
def zEj:FnScope ["count","ways","rests","giver","taker","part"] ["count","ways"] (zK zJR):=by and_intros
def zCl:FnScope ["marks","steps","reached","turn","before","behind"] ["marks","steps"] (zK zFD):=by and_intros
def zDn:FnScope ["count","ways","marks","free"] ["count","ways"] (zK zEn):=by and_intros
def zIS:FnScope ["names","pacts"] ["names","pacts"] (zK zEm):=by and_intros
def zF9:FnScope ["names","pacts","ways","spans"] ["names","pacts"] (zK zH3):=by and_intros
def zEN:FnScope ["names","giver","taker","part","first","last"] ["names","giver","taker","part","first","last"] (zK zBS):=by and_intros
def zA2:FnScope ["names","pacts","new","days","giver","day","ways","found"] ["names","pacts","new"] (zK zCC):=by and_intros
def zH1:FnScope ["deed"] ["deed"] (zK zDq):=by and_intros
def zES:FnScope ["self"] ["self"] (zK zBY):=by and_intros
def zER:FnScope ["self"] ["self"] (zK zBX):=by and_intros
def zFB:FnScope ["self"] ["self"] (zK zCp):=by and_intros
def zEQ:FnScope ["self"] ["self"] (zK zBW):=by and_intros
def zFC:FnScope ["self"] ["self"] (zK zCr):=by and_intros
def zCU:FnScope ["self","name","names"] ["self","name"] (zK zCq):=by and_intros
def zGy:FnScope ["self","giver","taker","part","first","last"] ["self","giver","taker","part","first","last"] (zK zCG):=by and_intros
def zGz:FnScope ["self","house","day","amount"] ["self","house","day","amount"] (zK zCH):=by and_intros
def zDo:FnScope ["self"] ["self"] (zK zBm):=by and_intros
def zBF:FnScope ["self","new","whom"] ["self","new"] (zK zBn):=by and_intros
def zEM:FnScope ["word"] ["word"] (zK zBR):=by and_intros
def zGw:FnScope ["kind","word"] ["kind","word"] (zK zCE):=by and_intros
def zDQ:FnScope ["row","words","first","form"] ["row"] (zK zH2):=by and_intros
def zDE:FnScope ["day","names"] ["day","names"] (zK zBs):=by and_intros
def zEh:FnScope ["refusal"] ["refusal"] (zK zB5):=by and_intros
def zFi:FnScope ["book","asked","standing"] ["book","asked"] (zK zEq):=by and_intros
def zCR:FnScope ["book","rows"] ["book"] (zK zCn):=by and_intros
def zMG:FnScope ["book","asked","word"] ["book","asked"] (zK zN7):=by and_intros
def zEP:FnScope ["self"] ["self"] (zK zBV):=by and_intros
def zC8:FnScope ["self","row","refusal"] ["self","row"] (zK zBU):=by and_intros
def zQr:FnScope ["_law_script","_law_k"] ["_law_script","_law_k"] (zK zQt):=by and_intros
def zBQ:FnScope ["_law_script","_law_many","_law_cells","_law_seed","_law_made","_law_k","_law_cell"] ["_law_script","_law_many"] (zK zH5):=by and_intros
def zAG:FnScope ["_law_draw","_law_count","_law_letters","_law_words","_law_made","_law_k","_law_tell","_law_size","_law_cut","_law_stem","_law_name"] ["_law_draw","_law_count"] (zK zEo):=by and_intros
def zBa:FnScope ["_law_five","_law_count","_law_pacts","_law_giver","_law_taker","_law_ends","_law_given","_law_one","_law_wide","_law_rest","_law_part"] ["_law_five","_law_count","_law_pacts"] (zK zJP):=by and_intros
def zH0:FnScope ["_law_pacts","_law_day","_law_made","_law_giver","_law_taker","_law_part","_law_first","_law_last"] ["_law_pacts","_law_day"] (zK zQs):=by and_intros
def zEi:FnScope ["_law_count","_law_ways","_law_keeps","_law_giver","_law_taker","_law_part"] ["_law_count","_law_ways"] (zK zJQ):=by and_intros
def zBh:FnScope ["_law_count","_law_ways","_law_safe","_law_more","_law_giver","_law_taker","_law_part"] ["_law_count","_law_ways"] (zK zFE):=by and_intros
def zEk:FnScope ["_law_count","_law_pacts","_law_new","_law_days","_law_one","_law_day","_law_shut"] ["_law_count","_law_pacts","_law_new"] (zK zN6):=by and_intros
def zCS:FnScope ["_law_pick","_law_state","_law_names_here","_law_name","_law_known"] ["_law_pick","_law_state"] (zK zH4):=by and_intros
def zCm:FnScope ["_law_five","_law_state","_law_names_here","_law_new","_law_row","_law_word","_law_day","_law_who"] ["_law_five","_law_state"] (zK zJS):=by and_intros
def zFA:FnScope ["_law_state","_law_row","_law_kind","_law_place"] ["_law_state"] (zK zJT):=by and_intros
def zF8:FnScope ["_law_five","_law_pick","_law_state","_law_house_here","_law_amount","_law_row"] ["_law_five","_law_pick","_law_state"] (zK zJO):=by and_intros
def zC7:FnScope ["_law_script","_law_draws_here","_law_desk","_law_state","_law_k","_law_pick","_law_row","_law_due_here","_law_found"] ["_law_script"] (zK zN5):=by and_intros
set_option genInjectivity false in
set_option genSizeOf false in
structure Adr where
 (wAr wAH wC5 wBP wBl wAT wBR wAJ wCu wE2 wDM wC7 wC9 wEB wEe wAV wBT wCw wAs wAY wBn wA0 wBp wBr wBV wBX wAy wAA wA2 wBZ wEg wAD wAL wDb wBt wFY wAt wA5 wGw wEi wEk wE4 wGy wE6 wDO wF0 wEm wE8 wFa wFc wF2:Addr)
 (wAC wAI wC6 wBQ wBm wAU wBS wAK wCv wE3 wDN wC8 wDa wEC wEf wAW wBU wCx wAX wAZ wBo wA1 wBq wBs wBW wBY wAz wAB wA3 wB0 wEh wAE wAM wDc wBu wFZ wA4 wA6 wGx wEj wEl wE5 wGz wE7 wDP wF1 wEn wE9 wFb wFd wF3:FuncData)
 (wAm wAi wAe wAa wAg wAd wAb wAh wAf wAk wAc wAP wAj wAq wBk wDd:Addr)
structure Txt (P:Program) (w:World) (K:W.Frag) (mg:Str->Option Value) (t:Adr):Prop where
 tree:P.given.tree=none
 wD3:Fun K "__init__" "ShutIn.__init__" zBt t.wAr t.wAC
 wD4:zAg K t.wAC ["self","day","names"] []
 wGG:Meth K t.wAf "__init__" t.wAr
 wCc:zA9 K "turning_days" zB4 t.wAH t.wAI
 wEo:zAg K t.wAI ["spans"] []
 wEp:mg "turning_days"=some (.ref t.wAH)
 wED:zA9 K "holding" zEp t.wC5 t.wC6
 wF7:zAg K t.wC6 ["spans","day"] []
 wF8:mg "holding"=some (.ref t.wC5)
 wDH:zA9 K "stretches" zCD t.wBP t.wBQ
 wFC:zAg K t.wBQ ["spans"] []
 wFD:mg "stretches"=some (.ref t.wBP)
 wDe:zA9 K "check_name" zCo t.wBl t.wBm
 wFe:zAg K t.wBm ["name"] []
 wFf:mg "check_name"=some (.ref t.wBl)
 wAu:zA9 K "check_range" zBT t.wAT t.wAU
 wA7:zAg K t.wAU ["number","least","most"] []
 wA8:mg "check_range"=some (.ref t.wAT)
 wAO:zA9 K "check_day" zCF t.wBR t.wBS
 wB1:zAg K t.wBS ["day"] []
 wB2:mg "check_day"=some (.ref t.wBR)
 wCd:zA9 K "check_amount" zB6 t.wAJ t.wAK
 wEq:zAg K t.wAK ["amount"] []
 wEr:mg "check_amount"=some (.ref t.wAJ)
 wAF:zA9 K "place_of" zDp t.wCu t.wCv
 wBb:zAg K t.wCv ["names","name"] []
 wBc:mg "place_of"=some (.ref t.wCu)
 wFg:zA9 K "kept" zJR t.wE2 t.wE3
 wF9:zAg K t.wE3 ["count","ways"] []
 wGa:mg "kept"=some (.ref t.wE2)
 wFh:zA9 K "spread" zFD t.wDM t.wDN
 wGA:zAg K t.wDN ["marks","steps"] []
 wGB:mg "spread"=some (.ref t.wDM)
 wEE:zA9 K "shut_in" zEn t.wC7 t.wC8
 wGb:zAg K t.wC8 ["count","ways"] []
 wGc:mg "shut_in"=some (.ref t.wC7)
 wEF:zA9 K "ways_of" zEm t.wC9 t.wDa
 wGd:zAg K t.wDa ["names","pacts"] []
 wGe:mg "ways_of"=some (.ref t.wC9)
 wHo:zA9 K "ways_on" zG0 t.wEB t.wEC
 wHp:zAg K t.wEC ["names","pacts","day"] []
 wHq:mg "ways_on"=some (.ref t.wEB)
 wFR:zA9 K "looks" zH3 t.wEe t.wEf
 wGN:zAg K t.wEf ["names","pacts"] []
 wGO:mg "looks"=some (.ref t.wEe)
 wCP:zA9 K "check_terms" zBS t.wAV t.wAW
 wEJ:zAg K t.wAW ["names","giver","taker","part","first","last"] []
 wEK:mg "check_terms"=some (.ref t.wAV)
 wDI:zA9 K "whom_shut" zCC t.wBT t.wBU
 wFE:zAg K t.wBU ["names","pacts","new"] []
 wFF:mg "whom_shut"=some (.ref t.wBT)
 wCy:zA9 K "deed_row" zDq t.wCw t.wCx
 wD5:zAg K t.wCx ["deed"] []
 wD6:mg "deed_row"=some (.ref t.wCw)
 wEL:Fun K "__init__" "Book.__init__" zBY t.wAs t.wAX
 wEM:zAg K t.wAX ["self"] []
 wGY:Meth K t.wAj "__init__" t.wAs
 wEN:Fun K "houses" "Book.houses" zBX t.wAY t.wAZ
 wAv:zAg K t.wAZ ["self"] []
 wAw:Meth K t.wAj "houses" t.wAY
 wFi:Fun K "pacts" "Book.pacts" zCp t.wBn t.wBo
 wDf:zAg K t.wBo ["self"] []
 wDg:Meth K t.wAj "pacts" t.wBn
 wEO:Fun K "losses" "Book.losses" zBW t.wA0 t.wA1
 wEP:zAg K t.wA1 ["self"] []
 wEQ:Meth K t.wAj "losses" t.wA0
 wFj:Fun K "deeds" "Book.deeds" zCr t.wBp t.wBq
 wDh:zAg K t.wBq ["self"] []
 wDi:Meth K t.wAj "deeds" t.wBp
 wFk:Fun K "house" "Book.house" zCq t.wBr t.wBs
 wFl:zAg K t.wBs ["self","name"] []
 wFm:Meth K t.wAj "house" t.wBr
 wFG:Fun K "pact" "Book.pact" zCG t.wBV t.wBW
 wFH:zAg K t.wBW ["self","giver","taker","part","first","last"] []
 wFI:Meth K t.wAj "pact" t.wBV
 wFJ:Fun K "loss" "Book.loss" zCH t.wBX t.wBY
 wFK:zAg K t.wBY ["self","house","day","amount"] []
 wFL:Meth K t.wAj "loss" t.wBX
 wDQ:Fun K "take_back" "Book.take_back" zBm t.wAy t.wAz
 wDR:zAg K t.wAz ["self"] []
 wDS:Meth K t.wAj "take_back" t.wAy
 wDT:Fun K "check_new" "Book.check_new" zBn t.wAA t.wAB
 wDU:zAg K t.wAB ["self","new"] []
 wDV:Meth K t.wAj "check_new" t.wAA
 wCQ:zA9 K "read_number" zBR t.wA2 t.wA3
 wER:zAg K t.wA3 ["word"] []
 wES:mg "read_number"=some (.ref t.wA2)
 wDJ:zA9 K "read_word" zCE t.wBZ t.wB0
 wFM:zAg K t.wB0 ["kind","word"] []
 wFN:mg "read_word"=some (.ref t.wBZ)
 wFS:zA9 K "parse" zH2 t.wEg t.wEh
 wGP:zAg K t.wEh ["row"] []
 wGQ:mg "parse"=some (.ref t.wEg)
 wBO:zA9 K "day_and_names" zBs t.wAD t.wAE
 wD7:zAg K t.wAE ["day","names"] []
 wD8:mg "day_and_names"=some (.ref t.wAD)
 wCe:zA9 K "refusal_word" zB5 t.wAL t.wAM
 wEs:zAg K t.wAM ["refusal"] []
 wEt:mg "refusal_word"=some (.ref t.wAL)
 wEG:zA9 K "do_deed" zEq t.wDb t.wDc
 wGf:zAg K t.wDc ["book","asked"] []
 wGg:mg "do_deed"=some (.ref t.wDb)
 wDj:zA9 K "tell_deeds" zCn t.wBt t.wBu
 wFn:zAg K t.wBu ["book"] []
 wFo:mg "tell_deeds"=some (.ref t.wBt)
 wGH:zA9 K "ask" zN7 t.wFY t.wFZ
 wHh:zAg K t.wFZ ["book","asked"] []
 wHi:mg "ask"=some (.ref t.wFY)
 wET:Fun K "__init__" "Desk.__init__" zBV t.wAt t.wA4
 wEU:zAg K t.wA4 ["self"] []
 wGZ:Meth K t.wAq "__init__" t.wAt
 wEV:Fun K "answer" "Desk.answer" zBU t.wA5 t.wA6
 wEW:zAg K t.wA6 ["self","row"] []
 wEX:Meth K t.wAq "answer" t.wA5
 wGC:zA9 K "_law_at" zQt t.wGw t.wGx
 wG0:zAg K t.wGx ["_law_script","_law_k"] []
 wG1:mg "_law_at"=some (.ref t.wGw)
 wFT:zA9 K "_law_draws" zH5 t.wEi t.wEj
 wGR:zAg K t.wEj ["_law_script","_law_many"] []
 wGS:mg "_law_draws"=some (.ref t.wEi)
 wFU:zA9 K "_law_names" zEo t.wEk t.wEl
 wGT:zAg K t.wEl ["_law_draw","_law_count"] []
 wGU:mg "_law_names"=some (.ref t.wEk)
 wGh:zA9 K "_law_pact" zJP t.wE4 t.wE5
 wG2:zAg K t.wE5 ["_law_five","_law_count","_law_pacts"] []
 wG3:mg "_law_pact"=some (.ref t.wE4)
 wGD:zA9 K "_law_on" zQs t.wGy t.wGz
 wG4:zAg K t.wGz ["_law_pacts","_law_day"] []
 wG5:mg "_law_on"=some (.ref t.wGy)
 wFp:zA9 K "_law_left" zJQ t.wE6 t.wE7
 wGi:zAg K t.wE7 ["_law_count","_law_ways"] []
 wGj:mg "_law_left"=some (.ref t.wE6)
 wFq:zA9 K "_law_closed" zFE t.wDO t.wDP
 wGE:zAg K t.wDP ["_law_count","_law_ways"] []
 wGF:mg "_law_closed"=some (.ref t.wDO)
 wGI:zA9 K "_law_due" zN6 t.wF0 t.wF1
 wHj:zAg K t.wF1 ["_law_count","_law_pacts","_law_new"] []
 wHk:mg "_law_due"=some (.ref t.wF0)
 wFV:zA9 K "_law_house" zH4 t.wEm t.wEn
 wGV:zAg K t.wEn ["_law_pick","_law_state"] []
 wGW:mg "_law_house"=some (.ref t.wEm)
 wGk:zA9 K "_law_bond" zJS t.wE8 t.wE9
 wG6:zAg K t.wE9 ["_law_five","_law_state"] []
 wG7:mg "_law_bond"=some (.ref t.wE8)
 wGl:zA9 K "_law_back" zJT t.wFa t.wFb
 wG8:zAg K t.wFb ["_law_state"] []
 wG9:mg "_law_back"=some (.ref t.wFa)
 wGm:zA9 K "_law_told" zJO t.wFc t.wFd
 wHa:zAg K t.wFd ["_law_five","_law_pick","_law_state"] []
 wHb:mg "_law_told"=some (.ref t.wFc)
 wHl:zA9 K "law" zN5 t.wF2 t.wF3
 wHr:zAg K t.wF3 ["_law_script"] []
 wHs:mg "law"=some (.ref t.wF2)
 wDK:mg "CedeError"=some (.ref t.wAm)
 wEH:mg "BadName"=some (.ref t.wAi)
 wDk:mg "KnownHouse"=some (.ref t.wAe)
 wCf:mg "UnknownHouse"=some (.ref t.wAa)
 wD9:mg "ToItself"=some (.ref t.wAg)
 wDl:mg "DaysTurned"=some (.ref t.wAd)
 wDm:mg "OutOfRange"=some (.ref t.wAb)
 wEI:mg "TooMuch"=some (.ref t.wAh)
 wFr:mg "ShutIn"=some (.ref t.wAf)
 wEa:mg "Full"=some (.ref t.wAk)
 wCR:mg "NothingDone"=some (.ref t.wAc)
 wAQ:mg "Unclear"=some (.ref t.wAP)
 wHc:mg "Book"=some (.ref t.wAj)
 wHd:mg "Desk"=some (.ref t.wAq)
 wAl:Cls K t.wAj
 wHe:Mk K t.wAj t.wAs
 wAo:zDB K t.wAj "told"
 wFs:Cls K t.wAq
 wHf:Mk K t.wAq t.wAt
 wDL:zDB K t.wAq "book"
 wFt:XMk K t.wAf t.wAr
 wAG:XF K t.wAf "day"
 wCg:XF K t.wAf "names"
 wFO:XB K t.wAm
 wGn:W.excIn K t.wAi vEr "ValueError.__new__"=true
 wGo:ExcX K t.wAi
 wCU:W.exmOne K (.ref t.wAi) (.ref t.wAm)=some true
 wDv:W.kitOne K (.ref t.wAi) (.ref t.wAi)=some true
 wCz:W.kitOne K (.ref t.wAi) (.ref t.wAe)=some false
 wB3:W.kitOne K (.ref t.wAi) (.ref t.wAa)=some false
 wDn:W.kitOne K (.ref t.wAi) (.ref t.wAg)=some false
 wCA:W.kitOne K (.ref t.wAi) (.ref t.wAd)=some false
 wCB:W.kitOne K (.ref t.wAi) (.ref t.wAb)=some false
 wDw:W.kitOne K (.ref t.wAi) (.ref t.wAh)=some false
 wDW:W.kitOne K (.ref t.wAi) (.ref t.wAf)=some false
 wEu:W.kitOne K (.ref t.wAi) (.ref t.wAk)=some false
 wCh:W.kitOne K (.ref t.wAi) (.ref t.wAc)=some false
 wFu:W.excIn K t.wAe vEr "ValueError.__new__"=true
 wFv:ExcX K t.wAe
 wB4:W.exmOne K (.ref t.wAe) (.ref t.wAm)=some true
 wCC:W.kitOne K (.ref t.wAe) (.ref t.wAi)=some false
 wBC:W.kitOne K (.ref t.wAe) (.ref t.wAe)=some true
 wBd:W.kitOne K (.ref t.wAe) (.ref t.wAa)=some false
 wCi:W.kitOne K (.ref t.wAe) (.ref t.wAg)=some false
 wBD:W.kitOne K (.ref t.wAe) (.ref t.wAd)=some false
 wBE:W.kitOne K (.ref t.wAe) (.ref t.wAb)=some false
 wCD:W.kitOne K (.ref t.wAe) (.ref t.wAh)=some false
 wCV:W.kitOne K (.ref t.wAe) (.ref t.wAf)=some false
 wDx:W.kitOne K (.ref t.wAe) (.ref t.wAk)=some false
 wBv:W.kitOne K (.ref t.wAe) (.ref t.wAc)=some false
 wFw:W.excIn K t.wAk vEr "ValueError.__new__"=true
 wHg:ExcX K t.wAk
 wDX:W.exmOne K (.ref t.wAk) (.ref t.wAm)=some true
 wEv:W.kitOne K (.ref t.wAk) (.ref t.wAi)=some false
 wDy:W.kitOne K (.ref t.wAk) (.ref t.wAe)=some false
 wCW:W.kitOne K (.ref t.wAk) (.ref t.wAa)=some false
 wEb:W.kitOne K (.ref t.wAk) (.ref t.wAg)=some false
 wDz:W.kitOne K (.ref t.wAk) (.ref t.wAd)=some false
 wDA:W.kitOne K (.ref t.wAk) (.ref t.wAb)=some false
 wEw:W.kitOne K (.ref t.wAk) (.ref t.wAh)=some false
 wEY:W.kitOne K (.ref t.wAk) (.ref t.wAf)=some false
 wFP:W.kitOne K (.ref t.wAk) (.ref t.wAk)=some true
 wDo:W.kitOne K (.ref t.wAk) (.ref t.wAc)=some false
 wEx:W.excIn K t.wAa vEr "ValueError.__new__"=true
 wEy:ExcX K t.wAa
 wBw:W.exmOne K (.ref t.wAa) (.ref t.wAm)=some true
 wB5:W.kitOne K (.ref t.wAa) (.ref t.wAi)=some false
 wBe:W.kitOne K (.ref t.wAa) (.ref t.wAe)=some false
 wAR:W.kitOne K (.ref t.wAa) (.ref t.wAa)=some true
 wBF:W.kitOne K (.ref t.wAa) (.ref t.wAg)=some false
 wBf:W.kitOne K (.ref t.wAa) (.ref t.wAd)=some false
 wBg:W.kitOne K (.ref t.wAa) (.ref t.wAb)=some false
 wB6:W.kitOne K (.ref t.wAa) (.ref t.wAh)=some false
 wCj:W.kitOne K (.ref t.wAa) (.ref t.wAf)=some false
 wCX:W.kitOne K (.ref t.wAa) (.ref t.wAk)=some false
 wA9:W.kitOne K (.ref t.wAa) (.ref t.wAc)=some false
 wFx:W.excIn K t.wAb vEr "ValueError.__new__"=true
 wFy:ExcX K t.wAb
 wB7:W.exmOne K (.ref t.wAb) (.ref t.wAm)=some true
 wCE:W.kitOne K (.ref t.wAb) (.ref t.wAi)=some false
 wBG:W.kitOne K (.ref t.wAb) (.ref t.wAe)=some false
 wBh:W.kitOne K (.ref t.wAb) (.ref t.wAa)=some false
 wCk:W.kitOne K (.ref t.wAb) (.ref t.wAg)=some false
 wBH:W.kitOne K (.ref t.wAb) (.ref t.wAd)=some false
 wBI:W.kitOne K (.ref t.wAb) (.ref t.wAb)=some true
 wCF:W.kitOne K (.ref t.wAb) (.ref t.wAh)=some false
 wCY:W.kitOne K (.ref t.wAb) (.ref t.wAf)=some false
 wDB:W.kitOne K (.ref t.wAb) (.ref t.wAk)=some false
 wBx:W.kitOne K (.ref t.wAb) (.ref t.wAc)=some false
 wF4:W.excIn K t.wAg vEr "ValueError.__new__"=true
 wF5:ExcX K t.wAg
 wCG:W.exmOne K (.ref t.wAg) (.ref t.wAm)=some true
 wDp:W.kitOne K (.ref t.wAg) (.ref t.wAi)=some false
 wCl:W.kitOne K (.ref t.wAg) (.ref t.wAe)=some false
 wBJ:W.kitOne K (.ref t.wAg) (.ref t.wAa)=some false
 wCZ:W.kitOne K (.ref t.wAg) (.ref t.wAg)=some true
 wCm:W.kitOne K (.ref t.wAg) (.ref t.wAd)=some false
 wCn:W.kitOne K (.ref t.wAg) (.ref t.wAb)=some false
 wDq:W.kitOne K (.ref t.wAg) (.ref t.wAh)=some false
 wDC:W.kitOne K (.ref t.wAg) (.ref t.wAf)=some false
 wEc:W.kitOne K (.ref t.wAg) (.ref t.wAk)=some false
 wB8:W.kitOne K (.ref t.wAg) (.ref t.wAc)=some false
 wFz:W.excIn K t.wAd vEr "ValueError.__new__"=true
 wFA:ExcX K t.wAd
 wB9:W.exmOne K (.ref t.wAd) (.ref t.wAm)=some true
 wCH:W.kitOne K (.ref t.wAd) (.ref t.wAi)=some false
 wBK:W.kitOne K (.ref t.wAd) (.ref t.wAe)=some false
 wBi:W.kitOne K (.ref t.wAd) (.ref t.wAa)=some false
 wCo:W.kitOne K (.ref t.wAd) (.ref t.wAg)=some false
 wBL:W.kitOne K (.ref t.wAd) (.ref t.wAd)=some true
 wBM:W.kitOne K (.ref t.wAd) (.ref t.wAb)=some false
 wCI:W.kitOne K (.ref t.wAd) (.ref t.wAh)=some false
 wC0:W.kitOne K (.ref t.wAd) (.ref t.wAf)=some false
 wDD:W.kitOne K (.ref t.wAd) (.ref t.wAk)=some false
 wBy:W.kitOne K (.ref t.wAd) (.ref t.wAc)=some false
 wGp:W.excIn K t.wAh vEr "ValueError.__new__"=true
 wGq:ExcX K t.wAh
 wC1:W.exmOne K (.ref t.wAh) (.ref t.wAm)=some true
 wDE:W.kitOne K (.ref t.wAh) (.ref t.wAi)=some false
 wCJ:W.kitOne K (.ref t.wAh) (.ref t.wAe)=some false
 wCa:W.kitOne K (.ref t.wAh) (.ref t.wAa)=some false
 wDr:W.kitOne K (.ref t.wAh) (.ref t.wAg)=some false
 wCK:W.kitOne K (.ref t.wAh) (.ref t.wAd)=some false
 wCL:W.kitOne K (.ref t.wAh) (.ref t.wAb)=some false
 wDF:W.kitOne K (.ref t.wAh) (.ref t.wAh)=some true
 wDY:W.kitOne K (.ref t.wAh) (.ref t.wAf)=some false
 wEz:W.kitOne K (.ref t.wAh) (.ref t.wAk)=some false
 wCp:W.kitOne K (.ref t.wAh) (.ref t.wAc)=some false
 wEZ:W.excIn K t.wAc vEr "ValueError.__new__"=true
 wE0:ExcX K t.wAc
 wBN:W.exmOne K (.ref t.wAc) (.ref t.wAm)=some true
 wCq:W.kitOne K (.ref t.wAc) (.ref t.wAi)=some false
 wBz:W.kitOne K (.ref t.wAc) (.ref t.wAe)=some false
 wBa:W.kitOne K (.ref t.wAc) (.ref t.wAa)=some false
 wCb:W.kitOne K (.ref t.wAc) (.ref t.wAg)=some false
 wBA:W.kitOne K (.ref t.wAc) (.ref t.wAd)=some false
 wBB:W.kitOne K (.ref t.wAc) (.ref t.wAb)=some false
 wCr:W.kitOne K (.ref t.wAc) (.ref t.wAh)=some false
 wCM:W.kitOne K (.ref t.wAc) (.ref t.wAf)=some false
 wDs:W.kitOne K (.ref t.wAc) (.ref t.wAk)=some false
 wBj:W.kitOne K (.ref t.wAc) (.ref t.wAc)=some true
 wAS:W.excIn K t.wAP vEr "ValueError.__new__"=true
 wDZ:ExcX K t.wAf
 wDt:W.exmOne K (.ref t.wAf) (.ref t.wAm)=some true
 wD0:W.kitOne K (.ref t.wAf) (.ref t.wAi)=some false
 wC2:W.kitOne K (.ref t.wAf) (.ref t.wAe)=some false
 wCs:W.kitOne K (.ref t.wAf) (.ref t.wAa)=some false
 wDG:W.kitOne K (.ref t.wAf) (.ref t.wAg)=some false
 wC3:W.kitOne K (.ref t.wAf) (.ref t.wAd)=some false
 wC4:W.kitOne K (.ref t.wAf) (.ref t.wAb)=some false
 wD1:W.kitOne K (.ref t.wAf) (.ref t.wAh)=some false
 wEd:W.kitOne K (.ref t.wAf) (.ref t.wAf)=some true
 wE1:W.kitOne K (.ref t.wAf) (.ref t.wAk)=some false
 wCN:W.kitOne K (.ref t.wAf) (.ref t.wAc)=some false
 wFW:mg "FORMS"=some (.ref t.wBk)
 wFX:KForms P w K t.wBk zBz
 wGr:mg "NUMBERS"=some (.ref t.wDd)
 wGs:zQJ K zBJ (.ref t.wDd)
 wGt:∃t,mg "FIGURES"=some (.str "0123456789" t)
 wCO:∃t,mg "LAST_DAY"=some (.int 5000 t)
 wGu:∃t,mg "LETTERS"=some (.str "abcdefghijklmnopqrstuvwxyz" t)
 wCt:∃t,mg "LONGEST_NAME"=some (.int 8 t)
 wFB:∃t,mg "MOST_COINS"=some (.int 1000000000000 t)
 wEA:∃t,mg "MOST_FIGURES"=some (.int 13 t)
 wCS:∃t,mg "MOST_HOUSES"=some (.int 15 t)
 wCT:∃t,mg "MOST_LOSSES"=some (.int 200 t)
 wDu:∃t,mg "MOST_PACTS"=some (.int 80 t)
 wGX:∃t,mg "WHOLE"=some (.int 1000 t)
 wGJ:mg "all"=none
 wFQ:mg "enumerate"=none
 wF6:mg "int"=none
 wAn:mg "isinstance"=none
 wAp:mg "len"=none
 wGv:mg "list"=none
 wGK:mg "max"=none
 wGL:mg "min"=none
 wAN:mg "range"=none
 wHm:mg "set"=none
 wD2:mg "sorted"=none
 wAx:mg "str"=none
 wHn:mg "sum"=none
 wGM:mg "zip"=none
section
variable {P:Program} {w:World} {K:W.Frag} {mg:Str->Option Value} {base:Heap} {t:Adr}
def zBv {x m:Int} {n:Nat} (h:0 < m) (k:m<=n):0<=x%m/\x%m < n:=⟨Int.emod_nonneg _ ∅,Int.lt_of_lt_of_le (Int.emod_lt_of_pos _ h) k⟩
inductive sp_at (K:W.Frag) (vs:List V) (H:Hp) (Q:VK) (E:XK):Prop
 | mk (a:Addr) (ns:List Int) (k:Int):vs=[.ref a,.int k]->(SqL K H a (ns.map V.int)/\0<=k/\Q (.int (ns.getD k.toNat 0)) H)->sp_at K vs H Q E
def zQG {ns:List Int} {k:Int} (h0:0<=k) (h:k < (ns.length:Int)):atI (ns.map V.int) k=some (.int (ns.getD k.toNat 0)):=by
 have hk:k.toNat < ns.length:=by omega
 have ek:k=((k.toNat:Nat):Int):=by omega
 have q:atI (ns.map V.int) ((k.toNat:Nat):Int)=some (.int (ns.getD k.toNat 0)):=zCy (by rw[wHB,wHv hk,wHw,wHv hk];rfl);rw[← ek] at q;exact q
def zPS {ns:List Int} {k:Int} (h:¬k < (ns.length:Int)):ns.getD k.toNat 0=0:=by
 rw[wHw,wIw ∅]
 rfl
def zPu (T:Txt P w K mg t):FnOk P w K mg base CX0 40 t.wGw t.wGx ["_law_script","_law_k"] (sp_at K):=by
 refine T.wGC.ok zQr ⟨⟩ ();obtain⟨a,ns,k,rfl,hS,h0,q⟩:=h;refine⟨_,(zD (zAm (zS zDH (pv 1) (zU (zAo K) rfl T.wAp wH8 (zG (pv 0) zE zA)) (zAc _)) (zH (zX (zA8 K (pv 0) (pv 1)))) zR)
  (zH (zX zF))),?_⟩
 have hl:(ns.map V.int).length=ns.length:=wHt _;refine⟨_,rfl,_,rfl,a,_,rfl,.inl hS,_,_,rfl,rfl,_,rfl,?_⟩;refine zBD (λc=>?_) (λc=>?_)
 ·have c':k < (((ns.map V.int).length:Nat):Int):=wHP c;rw[hl] at c';exact⟨_,rfl,_,rfl,a,_,_,_,rfl,rfl,hS,zQG h0 c',q⟩
 have c':¬k < (((ns.map V.int).length:Nat):Int):=wH9 (wIO c);rw[hl] at c';rw[zPS c'] at q;exact q
inductive sp_draws (K:W.Frag) (vs:List V) (H:Hp) (Q:VK) (E:XK):Prop
 | mk (a:Addr) (ns:List Int) (m:Int):vs=[.ref a,.int m]->(SqL K H a (ns.map V.int)/\0<=m/\m<=900/\
 ∀(l:Addr) (ds:List Int) (H':Hp),H l=none->zAi H H'->H' l=some (.lst (ds.map V.int))->(ds.length:Int)=m->(∀d∈ds,0<=d/\d < 10 ^ 13)->Q (.ref l) H')->sp_draws K vs H Q E
def zMb (T:Txt P w K mg t):FnOk P w K mg base CX0 41 t.wEi t.wEj ["_law_script","_law_many"] (sp_draws K):=by
 refine T.wFT.ok zBQ ⟨⟩ ();obtain⟨a,ns,m,rfl,hS,m0,m9,q⟩:=h;refine⟨_,(zD (zHA ["_law_k","_law_script"] [none,some 0] (by kernel_rfl) rfl (zBu rfl T.wAN (zG zF zE zI)) (λ_ _ _ _ _=>(zN (i:=0) ndB rfl (Or.inl rfl))) (λ_ _ _ _ _=>zAO) (λ_ _ _ _ _=>(cal (zPu T) hr T.wG1 T.wGC T.wG0 (zY (pv 1) (zP zBj zF (pv 0)) zE zA zV))) (zN (i:=2) zBQ.nd rfl (Or.inl rfl)))
  (zD (zAJ 3 zBQ.nd (zP zAl (zU (zLp K rfl) rfl T.wHn PyProof.Rows.boot_sum (zG (pv 2) zE zA)) zF))
  (zD (zAJ 4 zBQ.nd (zAd zE))
  (zD (zAW PassesOwn.never rfl (zBu rfl T.wAN (zG (pv 1) zE zA)) (zN (i:=5) zBQ.nd rfl (Or.inl rfl)) (zD (zAJ 6 zBQ.nd (zA8 K (pv 2) (zP zAl (pv 5) zF)))
  (zH (zAm (zS zCb (zP zAl (cal (zPu T) hr T.wG1 T.wGC T.wG0 (zY (pv 0) zF zE zA zI)) zF) zF (zAc _)) (zD (zAJ 3 zBQ.nd (zP zAl (zP zBj (zP zBj (zP zBj (zP zFn (pv 3) zF) (pv 6)) (pv 5)) zF) zF))
  (zH (zAe (zAQ K wHW wH5 wIa zAr (pv 4) (zG (zP zAl (zP zFn (pv 3) zF) zF) zE zV))))) (zD (zAe (zAQ K wHW wH5 wIa zAr (pv 4) (zG (zP zAl (pv 6) (zP zKq zF zF)) zE zV)))
  (zH (zG5 (zP zLW (pv 6) (zP zKq zF zF)) (zKj (pv 2) (zP zAl (pv 5) zF) zCQ))))))))
  (zH (zX (pv 4))))))),?_⟩
 refine⟨62,rfl,by decide,by decide,λc hc=>?_⟩;refine zD0 (λi σ' H'=>∃(v:Option V) (cs:List Int),σ'=[v,some (.ref a)]/\cs.length=i/\H'=upd H c (.lst (cs.map V.int))) ⟨none,[],rfl,rfl,rfl⟩ ?_ ?_
 ·rintro i σ' H' hi ⟨v,cs,rfl,hl,rfl⟩;refine⟨_,rfl,_,rfl,_,_,rfl,rfl,a,ns,1+(0+(i:Int)),rfl,(zC hc _).seq hS,by omega,_,zB,?_,?_⟩
  ·rw[wHt];exact zBH ∅
  exact⟨_,cs++[ns.getD (1+(0+(i:Int))).toNat 0],rfl,by rw[wHy,hl];rfl,by rw[zBl,zBO]⟩
 rintro σ' H1 ⟨v,cs,rfl,hl,rfl⟩;refine⟨_,rfl,c,cs,rfl,SqL.of zB,_,_,rfl,rfl,(by show (0:Int) < 2147483647;decide),?_⟩;refine⟨szl,λd hd=>?_⟩;have aO:c≠d:=zM zB hd;have cC:H d=none:=(zC hc _).free hd;have s0:zAi H (upd (upd H c (.lst (cs.map V.int))) d (.lst [])):=(zC hc _).trans (zC hd _);refine⟨_,rfl,m,rfl,by omega,by omega,zDc (n:=m.toNat) (λi σ' H'=>∃(cs ds:List Int) (sd:Int) (v w:Option V),σ'=[some (.ref a),some (.int m),some (.ref c),some (.int sd),some (.ref d),v,w]/\zAi H H'/\
  H' c=some (.lst (cs.map V.int))/\cs.length=62/\H' d=some (.lst (ds.map V.int))/\ds.length=i/\∀x∈ds,0<=x/\x < 10 ^ 13) ⟨cs,[],_,none,none,rfl,s0,by rw[zJ aO];exact zB,hl,zB,rfl,λx hx=>by cases hx⟩ ?_ ?_⟩
 ·rintro i σ' H' hi ⟨cs,ds,sd,v,w,rfl,sm,ec,lc,ed,ld,hx⟩;have k0:=zBv (x:=0+(i:Int)) (m:=62) (n:=62) ⋯ ⋯;refine⟨_,rfl,_,rfl,_,_,rfl,rfl,(by show (0:Int) < 62;decide),c,_,_,_,rfl,rfl,SqL.of ec,zEG k0.1 ∅,?_⟩;obtain⟨ce,hce⟩:∃ce:Int,ce=cs.getD ((0+(i:Int))%62).toNat 0:=⟨_,rfl⟩;refine⟨_,rfl,a,ns,0,rfl,sm.seq hS,by omega,_,_,rfl,rfl,(by show (0:Int) < 2;decide),rfl,_,rfl,?_⟩;refine zBD (λ_=>?_) (λ_=>?_)
  ·refine⟨_,rfl,_,_,rfl,rfl,.inr ⟨by decide,by decide⟩,_,rfl,_,_,rfl,rfl,_,rfl,_,_,rfl,rfl,_,_,rfl,rfl,_,_,rfl,rfl,(by show (0:Int) < 2147483647;decide),?_⟩;refine⟨_,rfl,.inl ⟨rfl,_,SqL.of ed⟩,_,rfl,_,_,rfl,rfl,.inr ⟨by decide,by decide⟩,_,_,rfl,rfl,(by show (0:Int) < 2147483647;decide),d,_,_,rfl,rfl,ed,?_,?_⟩
   ·rw[wHt];exact zBH ∅
   refine⟨cs,ds++[_],_,_,_,rfl,zAk sm cC _,by rw[zJ aO];exact ec,lc,by rw[zB,zBO],by rw[wHy,ld];rfl,λx hm=>?_⟩;rcases wIP hm with z | z
   ·exact hx x z
   rw[wIM z];have b:=λx:Int=>zBv (x:=x) (m:=2147483647) (n:=2147483647) ⋯ ⋯;exact⟨(b _).1,Int.lt_trans (b _).2 ⋯⟩
  refine⟨_,rfl,.inl ⟨rfl,_,SqL.of ed⟩,_,rfl,_,_,rfl,rfl,⟨by decide,by decide,by decide⟩,_,_,rfl,rfl,(by show (0:Int) < 10 ^ (13:Int).toNat;decide),d,_,_,rfl,rfl,ed,?_,?_⟩
  ·rw[wHt];exact zBH ∅
  refine⟨_,rfl,_,_,rfl,rfl,⟨by decide,by decide,by decide⟩,_,_,rfl,rfl,⟨(by show (0:Int) < 10 ^ (13:Int).toNat;decide),Sm.of ⋯⟩,_,rfl,_,rfl,_,_,rfl,rfl,(by show (0:Int) < 62;decide),c,_,_,_,rfl,rfl,by rw[zJ aO];exact ec,zOd k0.1 ∅,?_⟩;have hc0:H c=none:=hc;refine⟨cs.set _ _,ds++[_],_,_,_,rfl,zAk (zAk sm cC _) hc0 _,by rw[zB,zLG],by rw[List.length_set];exact lc,by rw[zJ aO.symm,zB,zBO],by rw[wHy,ld];rfl,λx hm=>?_⟩;rcases wIP hm with z | z
  ·exact hx x z
  rw[wIM z];have b:=λx:Int=>zBv (x:=x) (m:=(10:Int) ^ (13:Int).toNat) (n:=10 ^ 13) ⋯ ⋯;exact⟨(b _).1,Int.lt_of_lt_of_le (b _).2 ⋯⟩
 rintro σ' H' ⟨cs,ds,sd,v,w,rfl,sm,ec,lc,ed,ld,hx⟩;exact⟨_,rfl,q d ds H' cC sm ed ∅ hx⟩
def zGQ (c:Nat):Bool:=decide (c∈(Str.ofString "0123456789").cps.toList)
def zGP (c:Nat):zGQ c=true↔48<=c/\c<=57:=by
 have e:(Str.ofString "0123456789").cps.toList=[48,49,50,51,52,53,54,55,56,57]:=by nofun
 unfold zGQ;rw[e,decide_eq_true_iff];simp only[wIb,wH1,or_false];omega
def zI2 (l:List Nat):((l.map zGQ).all id)=true↔∀c∈l,48<=c/\c<=57:=by rw[List.all_map,List.all_eq_true];exact⟨λh c hc=>(zGP c).mp (h c hc),λh c hc=>(zGP c).mpr (h c hc)⟩
def zJo (l:List Nat):Prop:=(∀c∈l,48<=c/\c<=57)/\l.length<=13/\(1 < l.length->l.head?≠some 48)
instance (l:List Nat):Decidable (zJo l):=inferInstanceAs (Decidable (_/\_/\_))
def zF2 (kind:Str) (l:List Nat):Option V:=if kind∈zBJ then (if zJo l then some (.int (zPK l:Nat)) else none) else some (vx l)
def zD4:List Str->List (List Nat)->Option (List V)
 | k::ks,l::ls=>(zF2 k l).bind λv=>(zD4 ks ls).map (v::·)
 | _,_=>some []
def zFG (ws:List (List Nat)):Option (List V):=
 if []∈ws then none else match zBz.find? (λp=>p.1=tx (ws.headD [])) with
  | none=>none
  | some p=>if ws.length=p.2.length+1 then (zD4 p.2 ws.tail).map (vx (ws.headD [])::·) else none
def zFH (row:List Nat):Option (List V):=zFG (zBo 32 row)
theorem zFd:∀{ks:List Str} {ls:List (List Nat)} {vs:List V},zD4 ks ls=some vs->ks.length=ls.length->vs.length=ls.length/\∀(i:Nat) k l,ks[i]?=some k->ls[i]?=some l->∃v,zF2 k l=some v/\vs[i]?=some v
 | [],[],vs,h,_=>by cases h;exact⟨rfl,λi k l z=>by simp at z⟩
 | k::ks,l::ls,vs,h,e=>by
  unfold zD4 at h;obtain⟨v,hv,h2⟩:=Option.bind_eq_some_iff.mp h;obtain⟨vs',l7,rfl⟩:=wIN h2;obtain⟨e1,ih⟩:=zFd l7 (by simpa using e);refine⟨by simp[e1],λi k' l' hk hl=>?_⟩;cases i with
  | zero=>simp at hk hl;subst hk hl;exact⟨v,hv,by simp⟩
  | succ i=>simp at hk hl;obtain⟨u,h1,h2⟩:=ih i k' l' hk hl;exact⟨u,h1,by simpa using h2⟩
def zG3 {ws:List (List Nat)} {vs:List V} (h:zFG ws=some vs) (ne:ws≠[]):[]∉ws/\∃f ls k us,ws=f::ls/\(tx f,k)∈zBz/\ls.length=k.length/\zD4 k ls=some us/\vs=vx f::us:=by
 unfold zFG at h
 split at h
 ·cases h
 rename_i h0
 split at h
 ·cases h
 rename_i p hp
 split at h
 ·rename_i hl
  obtain⟨us,hu,rfl⟩:=wIN h;cases ws with
  | nil=>exact absurd rfl ne
  | cons f ls=>
   have m:=List.mem_of_find?_eq_some hp;have e:p.1=tx f:=by simpa using List.find?_some hp
   refine⟨h0,f,ls,p.2,us,rfl,?_,by simpa using hl,hu,rfl⟩;rw[← e];exact m
 cases h
theorem zMS {sep x:List Nat} {c:Nat}:∀{ws:List (List Nat)},x∈ws->c∈x->c∈jn sep ws
 | [w],h,hc=>by rw[wIM h] at hc;exact hc
 | w::v::ws,h,hc=>by
  show c∈w++sep++jn sep (v::ws);rcases wIQ h with z | z
  ·rw[z] at hc;simp[hc]
  simp[zMS z hc]
theorem zP6 {sep x:List Nat}:∀{ws:List (List Nat)},x∈ws->x.length<=(jn sep ws).length
 | [w],h=>by rw[wIM h];exact wHA _
 | w::v::ws,h=>by
  show x.length<=(w++sep++jn sep (v::ws)).length;rw[wHy,wHy];rcases wIQ h with z | z
  ·rw[z];omega
  have:=zP6 (sep:=sep) z;omega
theorem zKE {sep:List Nat}:∀{ws:List (List Nat)},1<=sep.length->ws.length<=(jn sep ws).length+1
 | [],_=>by show 0<=_;omega
 | [w],_=>by show 1<=_;omega
 | w::v::ws,h=>by show (v::ws).length+1<=(w++sep++jn sep (v::ws)).length+1;rw[wHy,wHy];have:=zKE (sep:=sep) (ws:=v::ws) h;omega
inductive sp_read_number (cU:Addr) (vs:List V) (H:Hp) (Q:VK) (E:XK):Prop
 | mk (l:List Nat):vs=[vx l]->(l≠[]/\zBL (tx l)/\(∀H',zAi H H'->zJo l->Q (.int (zPK l:Nat)) H')/\∀H',zAi H H'->¬zJo l->E (.ref cU) none H')->sp_read_number cU vs H Q E
def zET (T:Txt P w K mg t):FnOk P w K mg base (CXx P w) 40 t.wA2 t.wA3 ["word"] (sp_read_number t.wAP):=by
 refine T.wCQ.okX zEM ⟨⟩ ();obtain⟨l,rfl,ne,sn,q,qe⟩:=h;refine⟨_,(zD (zAm (zEs (zAM (zU (zHd K rfl) rfl T.wGJ PyProof.Rows.boot_all (zG (zA4 ["sign"] [none] (by kernel_rfl) rfl (zMN (pv 0)) (λ_ _ _ _ _=>(zN (i:=0) ndB rfl (Or.inl rfl))) (λ_ _ _ _ _=>zAO) (λ_ _ _ _ _=>(zDs zFo (pv 0) (zAn (v:=.str "0123456789") rfl T.wGt.choose_spec ⟨_,rfl⟩) (by with_unfolding_all rfl)))) zE zA3)))) (zH (zA0 T.wAS rfl T.wAQ (zAy (zEu (pv 0) (zAX zB1))))) zR)
  (zD (zAm (PW.pt (zLQ (zS zKu (zU zCx rfl T.wAp wH8 (zG (pv 0) zE zA)) (zAn (v:=.int 13) rfl T.wEA.choose_spec ⟨_,rfl⟩) (zAc _)) (zIh (PW.pt (zCV (zS zKu (zU zCx rfl T.wAp wH8 (zG (pv 0) zE zA)) zF (zAc _)) (zCt (zS zCb (zHC zIv (pv 0) zF (λ_ _=>rfl)) zT (zAc _)))))))) (zH (zA0 T.wAS rfl T.wAQ (zAy (zEu (pv 0) (zAX zB1))))) zR)
  (zH (zX (zAt zLn rfl T.wF6 PyProof.Rows.boot_int (zG (pv 0) zE zA)))))),?_⟩
 have hz:=small (sn.2);have bK:=sn.2;refine⟨_,rfl,_,rfl,λp hp=>?_⟩;refine zI5 (λi σ' H'=>∃(v:Option V),σ'=[v]/\H'=upd H p (.lst ((((tx l).cps.toList.take i).map zGQ).map V.bl))) ⟨none,rfl,rfl⟩ ?_ ?_
 ·rintro i c σ' H' hi ⟨v,rfl,rfl⟩;refine⟨_,rfl,_,_,rfl,rfl,_,zB,?_,?_⟩
  ·rw[wHt,wHt,wHS];have:=zAC (tx l);exact zAa ∅
  refine⟨_,rfl,?_⟩;rw[zBl,wId,hi];simp only[Option.toList_some,wHC,wH6,List.map_nil]
  rfl
 rintro σ' H1 ⟨v,rfl,rfl⟩;rw[wIo (by rw[← zAC];exact wHA _),zAN];have s1:=zC hp (.lst ((l.map zGQ).map V.bl));refine⟨p,_,rfl,SqL.of zB,?_⟩;refine⟨_,rfl,?_⟩;rcases Classical.em (¬∀c∈l,48<=c/\c<=57) with fg | fg
 ·have c0:((l.map zGQ).all id)=false:=wIO λz=>fg ((zI2 l).mp z);rw[c0];refine zDh ?_;refine⟨_,rfl,tx l,rfl,sn.c16,wHI bK ⋯,λy hy=>⟨by bv_omega,?_⟩⟩;refine⟨by bv_omega,?_⟩;refine⟨by bv_omega,?_⟩;exact qe _ s1 λz=>fg z.1
 have fg:=Classical.not_not.mp fg;have c0:((l.map zGQ).all id)=true:=(zI2 l).mpr fg;rw[c0];refine zBC ?_;refine⟨_,rfl,_,rfl,hz,?_⟩;refine⟨_,_,rfl,rfl,_,rfl,?_⟩;have ln:(tx l).length=l.length:=zAI l;rcases Classical.em ((13:Int) < ((tx l).length:Int)) with c1 | c1
 ·rw[wHU c1];refine zDh ?_;refine zDh ?_;refine⟨_,rfl,tx l,rfl,sn.c16,wHI bK ⋯,λy hy=>⟨by bv_omega,?_⟩⟩;refine⟨by bv_omega,?_⟩;refine⟨by bv_omega,?_⟩;exact qe _ s1 λz=>by have:=z.2.1;omega
 rw[wHX c1];refine zBC ?_;refine⟨_,rfl,_,rfl,hz,_,_,rfl,rfl,_,rfl,?_⟩;have fin:zJo l->zQR (tCB (λxs H Q=>∃l,xs=[V.str (tx l)]/\l≠[]/\l.length<=600/\(∀c∈l,48<=c/\c<=57)/\Q (V.int (zPK l:Nat)) H) (zAx (zQi 0) zMC)) { nx:=λx H'=>Q V.non H',rt:=Q } (L2.zCP [Str.ofString "word"] [vx l]) (upd H p (.lst ((l.map zGQ).map V.bl))):=λok=>
  ⟨_,rfl,l,rfl,ne,by omega,fg,q _ s1 ok⟩
 rcases Classical.em ((1:Int) < ((tx l).length:Int)) with c2 | c2
 ·rw[wHU c2];refine zDh ?_;obtain⟨a,l',el⟩:∃a l',l=a::l':=by cases l with | nil=>exact absurd rfl ne | cons a l'=>exact⟨a,l',rfl⟩
  refine⟨_,rfl,_,_,a,rfl,rfl,hz,by rw[zAN,el];show atI (a::l') ((0:Nat):Int)=_;exact zCy rfl,?_⟩;refine⟨rfl,_,rfl,?_⟩;have z0:Str.ofString "0"=tx [48]:=by nofun
  refine zBD (λc3=>?_) (λc3=>?_)
  ·have e0:(⟨#[a]⟩:Str)=Str.ofString "0":=V.str.inj (wHP c3);have e1:[a]=[48]:=zJ0 (e0.trans z0);refine⟨_,rfl,tx l,rfl,sn.c16,wHI bK ⋯,λy hy=>⟨by bv_omega,?_⟩⟩;refine⟨by bv_omega,?_⟩;refine⟨by bv_omega,?_⟩;refine qe _ s1 λz=>z.2.2 ∅ ?_;rw[el];exact congrArg some (List.cons.inj e1).1
  refine fin ⟨fg,by omega,λ_ z=>?_⟩;rw[el] at z;have e1:a=48:=wHE z;exact c3 (wHU (by rw[z0,e1];rfl))
 rw[wHX c2];refine zBC ?_;refine zBC ?_;exact fin ⟨fg,by omega,λz=>by omega⟩
inductive sp_read_word (cU:Addr) (vs:List V) (H:Hp) (Q:VK) (E:XK):Prop
 | mk (k:Str) (l:List Nat):vs=[.str k,vx l]->(l≠[]/\zBL (tx l)/\(∀H' v,zAi H H'->zF2 k l=some v->Q v H')/\∀H',zAi H H'->zF2 k l=none->E (.ref cU) none H')->sp_read_word cU vs H Q E
theorem zDU (k:Str):∀xs:List Str,inV (.str k) (xs.map V.str)=decide (k∈xs)
 | []=>rfl
 | x::xs=>by
  show ((x == k) || inV (.str k) (xs.map V.str))=_;rw[zDU k xs];by_cases e:x=k
  ·subst e;simp
  simp[e,Ne.symm e]
theorem zBy:∀xs:List Str,(xs.map V.str).all zEA=true
 | []=>rfl
 | x::xs=>by show (true && _)=true;rw[Bool.true_and];exact zBy xs
def zGD (T:Txt P w K mg t):FnOk P w K mg base (CXx P w) 41 t.wBZ t.wB0 ["kind","word"] (sp_read_word t.wAP):=by
 refine T.wDJ.okX zGw ⟨⟩ ();obtain⟨k,l,rfl,ne,sn,q,qe⟩:=h;refine⟨_,(zH (zX (zIk (zS (zGA K) (pv 0) (zAn (v:=.ref t.wDd) rfl T.wGr rfl) (by with_unfolding_all rfl)) (zAB ((zET T).mono ⋯) hr rfl T.wES T.wCQ.kp T.wER .nil zB7 (zG (pv 1) zE zA)) (pv 1)))),?_⟩;obtain⟨b,eb,tb⟩:=T.wGs;cases eb;refine⟨_,rfl,⟨_,_,rfl,.inr (tb _),rfl,zBy _,_,rfl,?_⟩⟩;show (if inV (V.str k) (List.map V.str zBJ)=true then _ else _);rw[zDU];by_cases c:k∈zBJ
 ·rw[wHU c];refine zDh ?_;refine⟨_,rfl,l,rfl,ne,sn,λH' s' ok=>q H' _ s' ?_,λH' s' ok=>qe H' s' ?_⟩
  ·unfold zF2;rw[wHF c,wHF ok]
  unfold zF2;rw[wHF c,wHD ok]
 rw[wHX c];refine zBC ?_;exact⟨_,rfl,q H _ (zAi.refl _) (by unfold zF2;rw[wHD c])⟩
inductive sp_parse (cU:Addr) (vs:List V) (H:Hp) (Q:VK) (E:XK):Prop
 | mk (l:List Nat) (us:List V):vs=[vx l]->(zBL (tx l)/\zFH l=some us/\∀(p:Addr) (H':Hp),H p=none->zAi H H'->H' p=some (.lst us)->Q (.ref p) H')->sp_parse cU vs H Q E
def zLX (T:Txt P w K mg t):FnOk P w K mg base (CXx P w) 42 t.wEg t.wEh ["row"] (sp_parse t.wAP):=by
 refine T.wFS.okX zDQ ⟨⟩ ();obtain⟨l,us,rfl,sn,rd,q⟩:=h;refine⟨_,(zD (zAJ 1 zDQ.nd (zFJ F.plainAttrs_str F.slot_str_split F.type_str_split zMk (pv 0) (zG zT zE zI)))
  (zD (zAm (zS (zGA K) zT (pv 1) (by with_unfolding_all rfl)) (zH (zA0 T.wAS rfl T.wAQ zT)) zR)
  (zD (zAJ 2 zDQ.nd (zA8 K (pv 1) zF))
  (zD (zAm (zS zKr (pv 2) (zAn (v:=.ref t.wBk) rfl T.wFW rfl) (by with_unfolding_all rfl)) (zH (zA0 T.wAS rfl T.wAQ (zAy (zAX (zEu (pv 2) zB1))))) zR)
  (zD (zAJ 3 zDQ.nd (zHC zOc (zAn (v:=.ref t.wBk) rfl T.wFW rfl) (pv 2) (λ_ _=>rfl)))
  (zD (zAm (zS zNO (zU (zAo K) rfl T.wAp wH8 (zG (pv 1) zE zA)) (zP zBj (zU (zAo K) rfl T.wAp wH8 (zG (pv 3) zE zA)) zF) (zAc _)) (zH (zA0 T.wAS rfl T.wAQ zT)) zR)
  (zH (zX (zP zD7 (zAd (zG (pv 2) zE zA)) (zA4 ["kind","word"] [none,none] (by kernel_rfl) rfl (zNH rfl T.wGM (zY (pv 3) (zBZ (zF7 K) (pv 1) (zCu zF) zDr) zE zA zL)) (λ_ _ _ _ _=>(zAE K (n:=2) rfl (zO (zN (i:=0) ndB rfl (Or.inl rfl)) (zO (zN (i:=1) ndB rfl (Or.inl rfl)) zAA)))) (λ_ _ _ _ _=>zAO) (λ_ _ _ _ _=>(zAB ((zGD T).mono ⋯) hr rfl T.wFN T.wDJ.kp T.wFM .nil zQy (zY (pv 0) (pv 1) zE zA zA))))))))))))),?_⟩
 have bK:=sn.2;have b32:Str.ofString " "=tx [32]:=by nofun
 refine⟨_,rfl,rfl,tx l,32,rfl,congrArg (λz=>[V.str z]) b32,by omega,λp hp=>?_⟩;rw[zAN];obtain⟨h0,f,ls,k,vs,ew,hk,hl,hv,eu⟩:=zG3 rd (zLa 32 l);have s1:=zC hp (.lst ((zBo 32 l).map vx));have x1:upd H p (.lst ((zBo 32 l).map vx)) p=some (.lst (vx f::ls.map vx)):=by rw[zB,ew];rfl
 generalize upd H p (.lst ((zBo 32 l).map vx))=H1 at s1 x1 ⊢;have len:(jn [32] (f::ls)).length<=1000:=by rw[← ew,zKF,← zAI];exact bK
 have ef:Str.ofString ""=tx []:=by nofun
 have nin:inV (.str "") (vx f::ls.map vx)=false:=by show inV (.str "") ((f::ls).map vx)=false;rw[← zJz,zDU,ef];refine wHX λz=>?_;obtain⟨y,hy,e⟩:=List.mem_map.mp z;rw[zJ0 e,← ew] at hy;exact h0 hy
 refine⟨_,rfl,p,_,rfl,.inl (SqL.of x1),rfl,?_,_,rfl,?_⟩
 ·show ((f::ls).map vx).all zEA=true;rw[← zJz];exact zBy _
 show (if inV (.str "") (vx f::ls.map vx)=true then _ else _);rw[nin];refine zBC ?_;refine⟨_,rfl,p,_,0,vx f,rfl,rfl,SqL.of x1,(by show atI _ ((0:Nat):Int)=_;exact zCy rfl),?_⟩;refine⟨_,rfl,t.wBk,zBz,tx f,rfl,rfl,T.wFX,_,rfl,?_⟩;rw[wHU (List.mem_map.mpr ⟨_,hk,rfl⟩)];refine zBC ?_;refine⟨_,rfl,t.wBk,zBz,tx f,k,rfl,rfl,T.wFX,hk,λb hb=>?_⟩;refine⟨_,rfl,p,_,rfl,.inl (SqL.of x1),?_⟩;refine⟨_,rfl,b,_,rfl,.inr (hb _),_,_,rfl,rfl,?_⟩;refine⟨rfl,_,rfl,?_⟩;have e1:((vx f::ls.map vx).length:Int)=((k.map V.str).length:Int)+1:=by rw[wH3,wHt,wHt,hl];omega
 rw[e1];refine zQ3 rfl ?_;refine⟨_,rfl,szl,λa ha=>?_⟩;have s2:=s1.trans (zC ha (.lst [vx f]));have a2:upd H1 a (.lst [vx f]) a=some (.lst [vx f]):=zB;have x2:=zC ha (.lst [vx f]) _ _ x1;have ap:a≠p:=λz=>by rw[z,x1] at ha;cases ha
 generalize upd H1 a (.lst [vx f])=H2 at s2 a2 x2 ⊢;refine⟨_,rfl,_,rfl,1,rfl,p,_,rfl,SqL.of x2,λc hc=>?_⟩;rw[zGb];have s3:=s2.trans (zC hc (.lst (ls.map vx)));have c3:upd H2 c (.lst (ls.map vx)) c=some (.lst (ls.map vx)):=zB;have a3:=zC hc (.lst (ls.map vx)) _ _ a2;generalize upd H2 c (.lst (ls.map vx))=H3 at s3 a3 c3 ⊢;refine⟨b,c,_,_,rfl,hb _,SqL.of c3,λm hm=>?_⟩;obtain⟨lv,get⟩:=zFd hv hl.symm;have lb:ls.length<=1000:=by have:=zKE (sep:=[32]) (ws:=f::ls) ⋯;rw[wH3] at this;omega
 refine zLe (K:=K) (xs:=k.map V.str) (ys:=ls.map vx) (by rw[wHt,wHt,hl]) (λi σ' H'=>∃u v:Option V,σ'=[u,v]/\zAi H3 H'/\H' m=some (.lst (vs.take i)))
  ⟨none,none,rfl,zC hm _,zB⟩ (λj σ2 H2 _ ⟨_,_,_,s4,_⟩=>⟨hb _,SqL.of (s4 _ _ c3)⟩) ?_ ?_
 ·rintro i x y σ' H' T2 hx hy ⟨u,v,rfl,s4,em⟩ eU;obtain⟨kd,hkd,rfl⟩:∃kd,k[i]?=some kd/\x=.str kd:=by rw[wHB] at hx;obtain⟨kd,h1,h2⟩:=wIN hx;exact⟨kd,h1,h2.symm⟩
  obtain⟨wd,l6,rfl⟩:=zOA hy;obtain⟨v',bU,gv⟩:=get i kd wd hkd l6;have mw:wd∈f::ls:=wHV _ (wIe l6);have sT:=zC eU (.tup [.str kd,vx wd]);refine⟨T2,_,rfl,SqT.of zB,rfl,_,_,rfl,_,_,rfl,rfl,?_⟩;refine⟨_,rfl,_,rfl,kd,wd,rfl,λz=>h0 (by rw[ew,← z];exact mw),?_,λH5 v5 s5 e5=>?_,λH5 s5 e5=>by rw[bU] at e5;cases e5⟩
  ·refine zJN (λc hc=>sn.1 c ?_) (wHI (zP6 mw) len);rw[zAN,← zKF 32 l,ew];exact zMS mw hc
  rw[bU] at e5;cases e5;refine⟨_,s5 _ _ (sT _ _ em),?_,_,_,rfl,zAk ((s4.trans sT).trans s5) hm _,?_⟩
  ·rw[wHS];exact zAa ∅
  rw[zB,wId,gv];rfl
 rintro σ' H4 ⟨u,v,rfl,s4,em⟩;rw[wHt,← hl,← lv,wH0] at em;refine⟨a,m,_,_,rfl,rfl,s4 _ _ a3,em,?_,λp2 iF=>?_⟩
 ·show 1+vs.length<=_;rw[lv];exact sz _ ∅
 refine q p2 _ ((s3.trans s4).free iF) ((s3.trans s4).trans (zC iF _)) ?_;rw[zB,eu];rfl
inductive sp_check_name (cB:Addr) (vs:List V) (H:Hp) (Q:VK) (E:XK):Prop
 | mk (n:Str):vs=[.str n]->(zBL n/\(∀H',zAi H H'->zGl n->Q .non H')/\∀H',zAi H H'->¬zGl n->E (.ref cB) none H')->sp_check_name cB vs H Q E
def zFO (T:Txt P w K mg t):FnOk P w K mg base (CXx P w) 40 t.wBl t.wBm ["name"] (sp_check_name t.wAi):=by
 refine T.wDe.okX zCT ⟨⟩ ();obtain⟨n,rfl,sn,q,qe⟩:=h;refine⟨_,(zD (zAJ 1 zCT.nd (zU (zHd K rfl) rfl T.wGJ PyProof.Rows.boot_all (zG (zA4 ["sign"] [none] (by kernel_rfl) rfl (zMN (pv 0)) (λ_ _ _ _ _=>(zN (i:=0) ndB rfl (Or.inl rfl))) (λ_ _ _ _ _=>zAO) (λ_ _ _ _ _=>(zDs zFo (pv 0) (zAn (v:=.str "abcdefghijklmnopqrstuvwxyz") rfl T.wGu.choose_spec ⟨_,rfl⟩) (by with_unfolding_all rfl)))) zE zA3)))
  (zH (zAm (zEs (PW.pt (zCV (zAM (pv 1)) (zCt (zDS zDt zDt zF (zU zCx rfl T.wAp wH8 (zG (pv 0) zE zA)) (zAn (v:=.int 8) rfl T.wCt.choose_spec ⟨_,rfl⟩)))))) (zH (zA0 T.wGn rfl T.wEH (zAy (zEu (pv 0) (zAX (zCv (zAn (v:=.int 8) rfl T.wCt.choose_spec ⟨_,rfl⟩) (zAX zB1))))))) zR))),?_⟩
 have hz:=small (sn.2);have bK:=sn.2;refine⟨_,rfl,_,rfl,λl hl=>?_⟩;refine zI5 (λi σ' H'=>∃(v:Option V),σ'=[v]/\H'=upd H l (.lst (((n.cps.toList.take i).map zKJ).map V.bl))) ⟨none,rfl,rfl⟩ ?_ ?_
 ·rintro i c σ' H' hi ⟨v,rfl,rfl⟩;refine⟨_,rfl,_,_,rfl,rfl,_,zB,?_,?_⟩
  ·rw[wHt,wHt,wHS];have:=zAC n;exact zAa ∅
  refine⟨_,rfl,?_⟩;rw[zBl,wId,hi];simp only[Option.toList_some,wHC,wH6,List.map_nil]
  rfl
 rintro σ' H1 ⟨v,rfl,rfl⟩;rw[wIo (by rw[← zAC];exact wHA _)];have s1:=zC hl (.lst ((n.cps.toList.map zKJ).map V.bl));refine⟨l,_,rfl,SqL.of zB,?_⟩;refine⟨_,rfl,_,rfl,?_⟩;refine zBD (λc=>?_) (λc=>?_)
 ·have lo:=(zIs n).mp c;refine⟨_,rfl,_,rfl,hz,?_⟩;refine⟨_,_,rfl,rfl,?_⟩;refine⟨_,rfl,?_⟩;refine zBD (λc1=>?_) (λc1=>?_)
  ·have d1:(1:Int)<=(n.length:Int):=wHP c1;refine⟨_,_,rfl,rfl,?_⟩;refine⟨_,rfl,?_⟩;by_cases c2:(n.length:Int)<=8
   ·rw[wHU c2];refine zBC ?_;exact q _ s1 ⟨lo,by omega,by omega⟩
   rw[wHX c2];refine zDh ?_;refine⟨_,rfl,n,rfl,sn.c16,wHI bK ⋯,λy hy=>⟨by bv_omega,?_⟩⟩;refine⟨by bv_omega,_,⟨by decide,rfl⟩,by bv_omega,by bv_omega,by bv_omega,?_⟩;exact qe _ s1 λz=>c2 (by have:=z.2.2;omega)
  have d1:¬(1:Int)<=(n.length:Int):=wH9 (wIO c1);refine⟨_,rfl,zDh ?_⟩;refine⟨_,rfl,n,rfl,sn.c16,wHI bK ⋯,λy hy=>⟨by bv_omega,?_⟩⟩;refine⟨by bv_omega,_,⟨by decide,rfl⟩,by bv_omega,by bv_omega,by bv_omega,?_⟩;exact qe _ s1 λz=>d1 (by have:=z.2.1;omega)
 refine zDh ?_;refine⟨_,rfl,n,rfl,sn.c16,wHI bK ⋯,λy hy=>⟨by bv_omega,?_⟩⟩;refine⟨by bv_omega,_,⟨by decide,rfl⟩,by bv_omega,by bv_omega,by bv_omega,?_⟩;exact qe _ s1 λz=>c ((zIs n).mpr z.1)
inductive sp_Book_UinitU (K:W.Frag) (C:Addr) (vs:List V) (H:Hp) (Q:VK) (E:XK):Prop
 | mk (x dx:Addr):vs=[.ref x]->(H x=some (.ins C dx [])/\∀l,H l=none->Q .non (upd (upd H l (.lst [])) x (.ins C dx [("told",.ref l)])))->sp_Book_UinitU K C vs H Q E
def zEY (T:Txt P w K mg t):FnOk P w K mg base CX0 40 t.wAs t.wAX ["self"] (sp_Book_UinitU K t.wAj):=by refine T.wEL.ok zES ⟨⟩ ();obtain⟨x,dx,rfl,hx,q⟩:=h;refine⟨_,(zH (zML (pv 0) (zAd zE) rfl)),?_⟩;refine⟨szl,λl hl=>?_⟩;exact⟨_,rfl,x,_,dx,_,rfl,zC hl _ _ _ hx,T.wAl,T.wAo,by decide,q l hl⟩
inductive sp_Book_houses (K:W.Frag) (C:Addr) (vs:List V) (H:Hp) (Q:VK) (E:XK):Prop
 | mk (b tl:Addr) (ds:List Deed):vs=[.ref b]->(zAs H C b tl ds/\ds.length<=900/\∀l,H l=none->Q (.ref l) (upd H l (.lst ((zQ ds).map V.str))))->sp_Book_houses K C vs H Q E
def zBe (T:Txt P w K mg t):FnOk P w K mg base CX0 40 t.wAY t.wAZ ["self"] (sp_Book_houses K t.wAj):=by
 refine T.wEN.ok zER ⟨⟩ ();obtain⟨b,tl,ds,rfl,⟨dx,qs,hb,ht,hq,hd⟩,hz,q⟩:=h;refine⟨_,(zH (zX (zA4 ["deed"] [none] (by kernel_rfl) rfl (zAh K (zC9 (pv 0) rfl)) (λ_ _ _ _ _=>(zN (i:=0) ndB rfl (Or.inl rfl))) (λ_ _ _ _ _=>(zCJ (zS zCb (zDL K (pv 0) zF) zT (zAc _)))) (λ_ _ _ _ _=>(zDL K (pv 0) zF))))),?_⟩;refine⟨_,rfl,b,_,dx,_,_,rfl,hb,T.wAl,T.wAo,rfl,tl,rfl,⟨_,SqL.of ht⟩,λl hl=>?_⟩;have sl:∀o,zAi H (upd H l o):=λo=>zC hl o;refine zAz (ys:=qs.map V.ref) (λi σ' H'=>∃(v:Option V),σ'=[v]/\H'=upd H l (.lst ((zQ (ds.take i)).map V.str))) ⟨none,rfl,rfl⟩ ?_ ?_ ?_
 ·rintro i σ' H' hi ⟨v,rfl,rfl⟩;exact SqL.of (sl _ _ _ ht)
 ·rintro i x σ' H' hi ⟨v,rfl,rfl⟩;rw[wHB] at hi;obtain⟨a,ha,rfl⟩:∃a,qs[i]?=some a/\V.ref a=x:=by
   cases e:qs[i]? with
   | none=>rw[e] at hi;cases hi
   | some a=>rw[e] at hi;exact⟨a,rfl,wHE hi⟩
  have aK:i < ds.length:=by rw[← hq];exact (wIL ha).1
  have bZ:ds[i]?=some ds[i]:=wHv aK;have ta:=SqT.of (K:=K) (sl (.lst ((zQ (ds.take i)).map V.str)) _ _ (hd i a _ ha bZ));have ln:(zQ (ds.take i)).length<=900:=wHI (zGH _) (by rw[wHS];omega);refine⟨_,rfl,a,_,0,.str (ds[i]).tag,rfl,rfl,ta,zBE ⋯ rfl,rfl,_,rfl,?_⟩;rw[zJ8];rw[zE2 bZ];cases e:ds[i] with
  | house n=>
   rw[e] at ta;refine zDh ⟨_,rfl,a,_,1,_,rfl,rfl,ta,rfl,_,zB,by rw[wHt];exact zAa ∅,_,rfl,?_⟩;rw[zBl,wHC];rfl
  | pact g u p f z=>
   exact zBC ⟨_,rfl,by rw[wHC];exact congrArg (λz=>upd H l (.lst z)) (wHQ _).symm⟩
  | loss g u z=>
   exact zBC ⟨_,rfl,by rw[wHC];exact congrArg (λz=>upd H l (.lst z)) (wHQ _).symm⟩
 rintro σ' H' ⟨v,rfl,rfl⟩;rw[wIo (by rw[wHt];omega)];exact q l hl
def zGV (ds:List Deed) (n:Str):Option Nat:=if zGl n then (if n∈zQ ds then some 1 else if 15<=(zQ ds).length then some 8 else none) else some 0
def zR6 (t:Adr):Nat->Addr
 | 0=>t.wAi
 | 1=>t.wAe
 | _=>t.wAk
inductive sp_Book_house (K:W.Frag) (t:Adr) (vs:List V) (H:Hp) (Q:VK) (E:XK):Prop
 | mk (b tl:Addr) (ds:List Deed) (n:Str):vs=[.ref b,.str n]->(zAs H t.wAj b tl ds/\ds.length<=900/\zBL n/\
 (∀H',zGV ds n=none->zBk tl H H'->zAs H' t.wAj b tl (ds++[.house n])->Q .non H')/\∀H' k,zGV ds n=some k->zAi H H'->E (.ref (zR6 t k)) none H')->sp_Book_house K t vs H Q E
def zFP (T:Txt P w K mg t):FnOk P w K mg base (CXx P w) 41 t.wBr t.wBs ["self","name"] (sp_Book_house K t):=by
 refine T.wFk.okX zCU ⟨⟩ ();obtain⟨b,tl,ds,n,rfl,hB,hz,sn,q,qe⟩:=h;refine⟨_,(zD (zAe (zAB ((zFO T).mono ⋯) hr rfl T.wFf T.wDe.kp T.wFe .nil zB7 (zG (pv 1) zE zA)))
  (zD (zAJ 2 zCU.nd (zBd (pv 0) T.wAl T.wAw ((zBe T).mono ⋯) hr T.wAv .nil zCW))
  (zD (zAm (zS (zGA K) (pv 1) (pv 2) (by with_unfolding_all rfl)) (zH (zA0 T.wFu rfl T.wDk (zAy (zAX (zCv (pv 1) (zAX zB1)))))) zR)
  (zD (zAm (zS zNP (zU (zAo K) rfl T.wAp wH8 (zG (pv 2) zE zA)) (zAn (v:=.int 15) rfl T.wCS.choose_spec ⟨_,rfl⟩) (zAc _)) (zH (zA0 T.wFw rfl T.wEa (zAy (zCv (zAn (v:=.int 15) rfl T.wCS.choose_spec ⟨_,rfl⟩) (zAX zB1))))) zR)
  (zH (zAe (zAQ K wHW wH5 wIa zAr (zC9 (pv 0) rfl) (zG (zAT (zG zT (zG (pv 1) zE zA) zI)) zE zAF)))))))),?_⟩
 have bK:=sn.2;refine⟨_,rfl,n,rfl,sn,λH1 s1 ok=>?_,λH1 s1 bad=>qe H1 0 (by unfold zGV;rw[wHD bad]) s1⟩;have gL:=hB.same s1;obtain⟨dx,qs,hb,ht,hq,hd⟩:=id gL;refine⟨_,rfl,b,dx,_,rfl,hb,rfl,b,tl,ds,rfl,gL,hz,λl hl=>?_⟩;have s2:=zC hl (.lst ((zQ ds).map V.str));have el:upd H1 l (.lst ((zQ ds).map V.str)) l=some (.lst ((zQ ds).map V.str)):=zB;generalize upd H1 l (.lst ((zQ ds).map V.str))=H2 at s2 el ⊢;refine⟨_,rfl,_,rfl,l,_,rfl,.inl (SqL.of el),rfl,zBy _,_,rfl,?_⟩;rw[wHD (by decide:¬(false=true)),zKL];refine zBD (λc=>?_) (λc=>?_)
 ·have c':=wHP c;refine⟨by bv_omega,_,rfl,_,⟨wHI bK (sz _ ⋯),rfl⟩,by bv_omega,by bv_omega,by bv_omega,?_⟩;exact qe H2 1 (by unfold zGV;rw[wHF ok,wHF c']) (s1.trans s2)
 have c':¬n∈zQ ds:=wH9 (wIO c);have cl:(zQ ds).length<=900:=wHI (zGH _) hz;refine⟨_,rfl,l,_,rfl,.inl (SqL.of el),_,_,rfl,rfl,_,rfl,?_⟩;rw[wHt];refine zBD (λd=>?_) (λd=>?_)
 ·have d':(15:Int)<=((zQ ds).length:Nat):=wHP d;refine⟨_,⟨by decide,rfl⟩,by bv_omega,by bv_omega,by bv_omega,?_⟩;exact qe H2 8 (by unfold zGV;rw[wHF ok,wHD c',wHF ∅]) (s1.trans s2)
 have d':¬(15:Int)<=((zQ ds).length:Nat):=wH9 (wIO d);have cD:=s2 _ _ hb;have eJ:=s2 _ _ ht;refine⟨_,rfl,b,_,dx,_,_,rfl,cD,T.wAl,T.wAo,rfl,.inl ⟨rfl,_,SqL.of eJ⟩,?_⟩;refine⟨_,rfl,zAp,λp hp=>?_⟩;have s3:=zC hp (.tup (Deed.house n).vs);refine⟨tl,_,_,rfl,rfl,s3 _ _ eJ,by rw[wHt,hq];exact zAa ∅,?_⟩;refine q _ (by unfold zGV;rw[wHF ok,wHD c',wHD ∅]) ((zBk.of (s1.trans (s2.trans s3))).trans zBk.upd) ?_;exact zAs.snoc (s3 _ _ cD) (s3 _ _ eJ) hq (λi a d e1 e2=>s3 _ _ (s2 _ _ (hd i a d e1 e2))) zB
inductive sp_check_range (cR:Addr) (vs:List V) (H:Hp) (Q:VK) (E:XK):Prop
 | mk (n lo hi:Int):vs=[.int n,.int lo,.int hi]->(lo.natAbs < 10 ^ 60/\hi.natAbs < 10 ^ 60/\(lo<=n/\n<=hi->Q .non H)/\(¬(lo<=n/\n<=hi)->E (.ref cR) none H))->sp_check_range cR vs H Q E
def zB9 (T:Txt P w K mg t):FnOk P w K mg base (CXx P w) 40 t.wAT t.wAU ["number","least","most"] (sp_check_range t.wAb):=by
 refine T.wAu.okX zEO ⟨⟩ ();obtain⟨n,lo,hi,rfl,h1,h2,q,qe⟩:=h;refine⟨_,(zH (zAm (zEs (zDS zDt zDt (pv 1) (pv 0) (pv 2))) (zH (zA0 T.wFx rfl T.wDm (zAy (zAX (zCv (pv 1) (zAX (zCv (pv 2) zB1))))))) zR)),?_⟩;have l1:=zA5 h1;have l2:=zA5 h2;refine⟨_,rfl,_,rfl,_,_,rfl,rfl,_,rfl,?_⟩;refine zBD (λc=>?_) (λc=>?_)
 ·have c':lo<=n:=wHP c;refine⟨_,rfl,_,_,rfl,rfl,_,rfl,?_⟩;by_cases d:n<=hi
  ·rw[wHU d];exact zBC (q ⟨c',d⟩)
  rw[wHX d];refine zDh ?_;refine⟨by bv_omega,_,rfl,_,⟨zFr h1,rfl⟩,by bv_omega,by bv_omega,_,rfl,_,⟨zFr h2,rfl⟩,by bv_omega,by bv_omega,?_⟩;exact qe λz=>d z.2
 have c':¬lo<=n:=wH9 (wIO c);refine⟨_,rfl,zDh ?_⟩;refine⟨by bv_omega,_,rfl,_,⟨zFr h1,rfl⟩,by bv_omega,by bv_omega,_,rfl,_,⟨zFr h2,rfl⟩,by bv_omega,by bv_omega,?_⟩;exact qe λz=>c' z.1
inductive sp_check_day (cR:Addr) (vs:List V) (H:Hp) (Q:VK) (E:XK):Prop
 | mk (n:Int):vs=[.int n]->((0<=n/\n<=5000->Q .non H)/\(¬(0<=n/\n<=5000)->E (.ref cR) none H))->sp_check_day cR vs H Q E
def zCw (T:Txt P w K mg t):FnOk P w K mg base (CXx P w) 41 t.wBR t.wBS ["day"] (sp_check_day t.wAb):=by refine T.wAO.okX zGx ⟨⟩ ();obtain⟨n,rfl,q,qe⟩:=h;refine⟨_,(zH (zAe (zAB ((zB9 T).mono ⋯) hr rfl T.wA8 T.wAu.kp T.wA7 .nil zB7 (zAq (pv 0) zF (zAn (v:=.int 5000) rfl T.wCO.choose_spec ⟨_,rfl⟩) zE zA zI zA)))),?_⟩;exact⟨_,rfl,n,0,5000,rfl,by decide,by decide,q,qe⟩
inductive sp_place_of (K:W.Frag) (cU:Addr) (vs:List V) (H:Hp) (Q:VK) (E:XK):Prop
 | mk (nl:Addr) (ns:List Str) (n:Str):vs=[.ref nl,.str n]->(SqL K H nl (ns.map V.str)/\zBL n/\(n∈ns->Q (.int (ns.idxOf n:Nat)) H)/\(n∉ns->E (.ref cU) none H))->sp_place_of K cU vs H Q E
def zCd (T:Txt P w K mg t):FnOk P w K mg base (CXx P w) 40 t.wCu t.wCv ["names","name"] (sp_place_of K t.wAa):=by
 refine T.wAF.okX zHz ⟨⟩ ();obtain⟨nl,ns,n,rfl,hS,sn,q,qe⟩:=h;refine⟨_,(zD (zAm (zS (zKw K) (pv 1) (pv 0) (by with_unfolding_all rfl)) (zH (zA0 T.wEx rfl T.wCf (zAy (zAX (zEu (pv 1) (zAX zB1)))))) zR)
  (zH (zX (zAQ K wHW F.slot_list_index F.type_list_index (zE3 K) (pv 0) (zG (pv 1) zE zA))))),?_⟩
 have bK:=sn.2;refine⟨_,rfl,_,rfl,nl,_,rfl,.inl hS,rfl,zBy _,_,rfl,?_⟩;rw[wHF rfl,zKL];by_cases c:n∈ns
 ·rw[wHU c];refine zBC ?_;exact⟨_,rfl,.inl ⟨rfl,_,hS⟩,_,rfl,nl,ns,n,rfl,rfl,hS,c,q c⟩
 rw[wHX c];refine zDh ?_;refine⟨by bv_omega,_,rfl,n,rfl,sn.c16,wHI bK ⋯,λy hy=>⟨by bv_omega,by bv_omega,by bv_omega,?_⟩⟩;exact qe c
inductive sp_check_amount (cR:Addr) (vs:List V) (H:Hp) (Q:VK) (E:XK):Prop
 | mk (n:Int):vs=[.int n]->((1<=n/\n<=10 ^ 12->Q .non H)/\(¬(1<=n/\n<=10 ^ 12)->E (.ref cR) none H))->sp_check_amount cR vs H Q E
def zE1 (T:Txt P w K mg t):FnOk P w K mg base (CXx P w) 41 t.wAJ t.wAK ["amount"] (sp_check_amount t.wAb):=by refine T.wCd.okX zEl ⟨⟩ ();obtain⟨n,rfl,q,qe⟩:=h;refine⟨_,(zH (zAe (zAB ((zB9 T).mono ⋯) hr rfl T.wA8 T.wAu.kp T.wA7 .nil zB7 (zAq (pv 0) zF (zAn (v:=.int 1000000000000) rfl T.wFB.choose_spec ⟨_,rfl⟩) zE zA zI zA)))),?_⟩;exact⟨_,rfl,n,1,1000000000000,rfl,by decide,by decide,q,qe⟩
def zId (ns:List Str) (g u:Str) (p f l:Int):Option Nat:=
 if g∈ns then (if u∈ns then (if g=u then some 3 else if l < f then some 4 else if 1<=p/\p<=1000 then (if 0<=f/\f<=5000 then (if 0<=l/\l<=5000 then none else some 5) else some 5) else some 5) else some 2) else some 2
def zQS (t:Adr):Nat->Addr
 | 2=>t.wAa
 | 3=>t.wAg
 | 4=>t.wAd
 | _=>t.wAb
inductive sp_check_terms (K:W.Frag) (t:Adr) (vs:List V) (H:Hp) (Q:VK) (E:XK):Prop
 | mk (nl:Addr) (ns:List Str) (g u:Str) (p f l:Int):vs=[.ref nl,.str g,.str u,.int p,.int f,.int l]->(SqL K H nl (ns.map V.str)/\zBL g/\zBL u/\(zId ns g u p f l=none->Q .non H)/\∀k,zId ns g u p f l=some k->E (.ref (zQS t k)) none H)->sp_check_terms K t vs H Q E
def zEU (T:Txt P w K mg t):FnOk P w K mg base (CXx P w) 42 t.wAV t.wAW ["names","giver","taker","part","first","last"] (sp_check_terms K t):=by
 refine T.wCP.okX zEN ⟨⟩ ();obtain⟨nl,ns,g,u,p,f,l,rfl,hS,sg,su,q,qe⟩:=h;refine⟨_,(zD (zAe (zAB ((zCd T).mono ⋯) hr rfl T.wBc T.wAF.kp T.wBb .nil zB7 (zY (pv 0) (pv 1) zE zA zA)))
  (zD (zAe (zAB ((zCd T).mono ⋯) hr rfl T.wBc T.wAF.kp T.wBb .nil zB7 (zY (pv 0) (pv 2) zE zA zA)))
  (zD (zAm (zS zCb (pv 1) (pv 2) (zAc _)) (zH (zA0 T.wF4 rfl T.wD9 (zAy (zCv (pv 1) (zAX zB1))))) zR)
  (zD (zAm (zS zKu (pv 4) (pv 5) (zAc _)) (zH (zA0 T.wFz rfl T.wDl zT)) zR)
  (zD (zAe (zAB ((zB9 T).mono ⋯) hr rfl T.wA8 T.wAu.kp T.wA7 .nil zB7 (zAq (pv 3) zF (zAn (v:=.int 1000) rfl T.wGX.choose_spec ⟨_,rfl⟩) zE zA zI zA)))
  (zD (zAe (zAB ((zCw T).mono ⋯) hr rfl T.wB2 T.wAO.kp T.wB1 .nil zB7 (zG (pv 4) zE zA)))
  (zH (zAe (zAB ((zCw T).mono ⋯) hr rfl T.wB2 T.wAO.kp T.wB1 .nil zB7 (zG (pv 5) zE zA)))))))))),?_⟩
 have sg2:=sg.2;unfold zId at q qe;refine⟨_,rfl,_,rfl,nl,ns,g,rfl,hS,sg,λc1=>?_,λc1=>qe 2 (by rw[wHD c1])⟩;rw[wHF c1] at q qe;refine⟨_,rfl,_,rfl,nl,ns,u,rfl,hS,su,λc2=>?_,λc2=>qe 2 (by rw[wHD c2])⟩;rw[wHF c2] at q qe;refine⟨_,rfl,_,rfl,rfl,_,rfl,?_⟩;refine zBD (λc=>?_) (λc=>?_)
 ·have c3:g=u:=V.str.inj (wHP c);refine⟨_,rfl,_,⟨wHI sg2 (sz _ ⋯),rfl⟩,by bv_omega,by bv_omega,by bv_omega,?_⟩;exact qe 3 (by rw[wHF c3])
 have c3:¬g=u:=λz=>c (wHU (congrArg V.str z));rw[wHD c3] at q qe;refine⟨_,rfl,_,rfl,_,_,rfl,rfl,_,rfl,?_⟩;refine zBD (λc=>?_) (λc=>?_)
 ·have c4:l < f:=wHP c;exact qe 4 (by rw[wHF c4])
 have c4:¬l < f:=wH9 (wIO c);rw[wHD c4] at q qe;refine⟨_,rfl,p,1,1000,rfl,by decide,by decide,λc5=>?_,λc5=>qe 5 (by rw[wHD c5])⟩;rw[wHF c5] at q qe;refine⟨_,rfl,f,rfl,λc6=>?_,λc6=>qe 5 (by rw[wHD c6])⟩;rw[wHF c6] at q qe;exact⟨_,rfl,l,rfl,λc7=>q (by rw[wHF c7]),λc7=>qe 5 (by rw[wHD c7])⟩
def zLv (ns:List Str) (p:Pct):List V:=[.int (ns.idxOf p.1:Nat),.int (ns.idxOf p.2.1:Nat),.int p.2.2.1]
inductive sp_ways_of (K:W.Frag) (vs:List V) (H:Hp) (Q:VK) (E:XK):Prop
 | mk (nl pl:Addr) (ns:List Str) (ps:List Pct):vs=[.ref nl,.ref pl]->(SqL K H nl (ns.map V.str)/\zAf H pl (ps.map Pct.vs)/\ps.length<=900/\(∀p∈ps,p.1∈ns/\p.2.1∈ns)/\
 ∀l H',H l=none->zAi H H'->zAf H' l (ps.map (zLv ns))->Q (.ref l) H')->sp_ways_of K vs H Q E
def zIX (T:Txt P w K mg t):FnOk P w K mg base CX0 40 t.wC9 t.wDa ["names","pacts"] (sp_ways_of K):=by
 refine T.wEF.ok zIS ⟨⟩ ();obtain⟨nl,pl,ns,ps,rfl,hN,⟨qs,hp,lq,hq⟩,hz,lV,q⟩:=h;refine⟨_,(zH (zX (zA4 ["giver","taker","part","first","last","names"] [none,none,none,none,none,some 0] (by kernel_rfl) rfl (zAh K (pv 1)) (λ_ _ _ _ _=>(zAE K (n:=5) rfl (zO (zN (i:=0) ndB rfl (Or.inl rfl)) (zO (zN (i:=1) ndB rfl (Or.inl rfl)) (zO (zN (i:=2) ndB rfl (Or.inl rfl)) (zO (zN (i:=3) ndB rfl (Or.inl rfl)) (zO (zN (i:=4) ndB rfl (Or.inl rfl)) zAA))))))) (λ_ _ _ _ _=>zAO) (λ_ _ _ _ _=>(zAT (zG (zAQ K wHW F.slot_list_index F.type_list_index (zE3 K) (pv 5) (zG (pv 0) zE zA)) (zG (zAQ K wHW F.slot_list_index F.type_list_index (zE3 K) (pv 5) (zG (pv 1) zE zA)) (zG (pv 2) zE zA) zZ) zZ)))))),?_⟩;rw[wHt] at lq;refine⟨_,rfl,pl,rfl,⟨_,SqL.of hp⟩,λl hl=>?_⟩;refine zAz (ys:=qs.map V.ref) (λi σ' H'=>∃(v1 v2 v3 v4 v5:Option V),σ'=[v1,v2,v3,v4,v5,some (.ref nl)]/\zAi H H'/\zAf H' l ((ps.take i).map (zLv ns))) ⟨none,none,none,none,none,rfl,zC hl _,zAf.nil zB⟩ ?_ ?_ ?_
 ·rintro i σ' H' hi ⟨v1,v2,v3,v4,v5,rfl,s',el⟩;exact SqL.of (s' _ _ hp)
 ·rintro i x σ' H' hi ⟨v1,v2,v3,v4,v5,rfl,s',el⟩;rw[wHB] at hi;obtain⟨a,ha,rfl⟩:=wIN hi;have aK:i < ps.length:=by rw[← lq];exact (wIL ha).1
  have bM:ps[i]?=some ps[i]:=wHv aK;have ea:=s' _ _ (hq i a _ ha (by rw[wHB,bM];rfl));obtain⟨m1,m2⟩:=lV ps[i] (wHZ aK);refine⟨a,_,rfl,SqT.of ea,rfl,_,_,rfl,_,_,rfl,_,_,rfl,_,_,rfl,_,_,rfl,rfl,?_⟩;have iP:=s'.seq hN;refine⟨_,rfl,.inl ⟨rfl,_,iP⟩,_,rfl,nl,ns,_,rfl,rfl,iP,m1,?_⟩;refine⟨_,rfl,.inl ⟨rfl,_,iP⟩,_,rfl,nl,ns,_,rfl,rfl,iP,m2,?_⟩;refine⟨_,rfl,szl,λp cY=>?_⟩;have s2:=zC cY (.tup (zLv ns ps[i]));obtain⟨q2,g1,g2,g3⟩:=el.same s2;refine⟨_,g1,by rw[wHt,g2,wHt,wHS];exact zAa ∅,_,_,_,_,_,rfl,zAk (s'.trans s2) hl _,?_⟩;rw[wId,bM,wHC];exact zAf.snoc g1 g2 g3 zB
 rintro σ' H' ⟨v1,v2,v3,v4,v5,rfl,s',el⟩;rw[wHt,lq,wH0] at el;exact q l H' hl s' el
def zBG (d:Int) (p:Pct):Bool:=decide (p.2.2.2.1<=d) && decide (d<=p.2.2.2.2)
inductive sp_Book_pacts (K:W.Frag) (C:Addr) (vs:List V) (H:Hp) (Q:VK) (E:XK):Prop
 | mk (b tl:Addr) (ds:List Deed):vs=[.ref b]->(zAs H C b tl ds/\ds.length<=900/\∀l H',H l=none->zAi H H'->zAf H' l ((zAb ds).map Pct.vs)->Q (.ref l) H')->sp_Book_pacts K C vs H Q E
def zCX (T:Txt P w K mg t):FnOk P w K mg base CX0 40 t.wBn t.wBo ["self"] (sp_Book_pacts K t.wAj):=by
 refine T.wFi.ok zFB ⟨⟩ ();obtain⟨b,tl,ds,rfl,⟨dx,qs,hb,ht,hq,hd⟩,hz,q⟩:=h;refine⟨_,(zH (zX (zA4 ["deed"] [none] (by kernel_rfl) rfl (zAh K (zC9 (pv 0) rfl)) (λ_ _ _ _ _=>(zN (i:=0) ndB rfl (Or.inl rfl))) (λ_ _ _ _ _=>(zCJ (zS zCb (zDL K (pv 0) zF) zT (zAc _)))) (λ_ _ _ _ _=>(zBZ (zJF K) (pv 0) (zCu zF) zDr))))),?_⟩;refine⟨_,rfl,b,_,dx,_,_,rfl,hb,T.wAl,T.wAo,rfl,tl,rfl,⟨_,SqL.of ht⟩,λl hl=>?_⟩;refine zAz (ys:=qs.map V.ref) (λi σ' H'=>∃(v:Option V),σ'=[v]/\zAi H H'/\zAf H' l ((zAb (ds.take i)).map Pct.vs)) ⟨none,rfl,zC hl _,zAf.nil zB⟩ ?_ ?_ ?_
 ·rintro i σ' H' hi ⟨v,rfl,s',el⟩;exact SqL.of (s' _ _ ht)
 ·rintro i x σ' H' hi ⟨v,rfl,s',el⟩;rw[wHB] at hi;obtain⟨a,ha,rfl⟩:=wIN hi;have aK:i < ds.length:=by rw[← hq];exact (wIL ha).1
  have bZ:ds[i]?=some ds[i]:=wHv aK;have ea:=s' _ _ (hd i a _ ha bZ);have ln:(zAb (ds.take i)).length<=900:=wHI (zKn _) (by rw[wHS];omega);refine⟨_,rfl,a,_,0,.str (ds[i]).tag,rfl,rfl,SqT.of ea,zBE ⋯ rfl,rfl,_,rfl,?_⟩;rw[zL5];rw[zEx bZ];cases e:ds[i] with
  | pact g u p f z=>
   rw[e] at ea;refine zDh ⟨_,rfl,_,rfl,a,_,rfl,SqT.of ea,zGG _ _,λp' hp=>?_⟩;have s2:=zC hp (.tup (zGc (Deed.pact g u p f z).vs (some 1) none));obtain⟨q2,g1,g2,g3⟩:=el.same s2;refine⟨_,g1,by rw[wHt,g2,wHt];exact zAa ∅,_,rfl,zAk (s'.trans s2) hl _,?_⟩;rw[wHC];exact zAf.snoc g1 g2 g3 (by rw[zB];exact congrArg (λz=>some (HO.tup z)) (zGb _ _))
  | house g=>exact zBC ⟨_,rfl,s',by rw[wHC];exact (wHQ _).symm ▸ el⟩
  | loss g u p=>exact zBC ⟨_,rfl,s',by rw[wHC];exact (wHQ _).symm ▸ el⟩
 rintro σ' H' ⟨v,rfl,s',el⟩;rw[wIo (by rw[wHt];omega)] at el;exact q l H' hl s' el
abbrev Sps:=List (Int × Int)
def lo (sps:Sps) (k:Nat):Int:=(sps.getD k (0,0)).1
def hi (sps:Sps) (k:Nat):Int:=(sps.getD k (0,0)).2
def zHO (sps:Sps) (f l:Int) (n:Nat):List Int:=((List.range n).filter λk=>decide (lo sps k<=f/\l<=hi sps k)).map λk:Nat=>(k:Int)
def zO1 (sps:Sps) (f l:Int):List Int:=zHO sps f l sps.length
def zIx {sps:Sps} {f l:Int} {n:Nat} (h:lo sps n<=f/\l<=hi sps n):zHO sps f l (n+1)=zHO sps f l n++[(n:Int)]:=by unfold zHO;rw[List.range_succ,List.filter_append,wHC,List.filter_cons,wHF (wHU h)];rfl
def zHN {sps:Sps} {f l:Int} {n:Nat} (h:¬(lo sps n<=f/\l<=hi sps n)):zHO sps f l (n+1)=zHO sps f l n:=by unfold zHO;rw[List.range_succ,List.filter_append,wHC,List.filter_cons,wHD (by rw[wHX h];exact wHM)];simp
def zOg (sps:Sps) (f l:Int) (n:Nat):(zHO sps f l n).length<=n:=by unfold zHO;rw[wHt];exact wHI (wIE _ _) (wIG wIH)
def zJh {sps:Sps} {f l f' l':Int} (n:Nat) (h:∀k,k < n->((lo sps k<=f/\l<=hi sps k)↔(lo sps k<=f'/\l'<=hi sps k))):zHO sps f l n=zHO sps f' l' n:=by
 unfold zHO
 congr 1
 refine List.filter_congr λk hk=>?_;rw[decide_eq_decide];exact h k (List.mem_range.mp hk)
def zNg (sps:Sps):Prop:=∀k,k < sps.length->0<=lo sps k/\lo sps k<=hi sps k/\hi sps k<=5000
structure Days (sps:Sps) (ds:List Int):Prop where
 inc:ds.Pairwise (· < ·)
 zero:ds[0]?=some 0
 bd:∀d∈ds,0<=d/\d<=5000
 src:∀d∈ds,d=0∨∃k,k < sps.length/\(d=lo sps k∨d=hi sps k+1)
 has1:∀k,k < sps.length->lo sps k∈ds
 has2:∀k,k < sps.length->hi sps k+1<=5000->hi sps k+1∈ds
def nxt (ds:List Int) (i:Nat):Int:=ds.getD (i+1) 5001
def Days.pos {sps:Sps} {ds:List Int} (D:Days sps ds):0 < ds.length:=(wIL D.zero).1
def Days.lt {sps:Sps} {ds:List Int} (D:Days sps ds) {i j:Nat} (eO:i < j) (hj:j < ds.length):ds.getD i 0 < ds.getD j 0:=by have h:=List.pairwise_iff_getElem.mp D.inc i j ∅ hj eO;rw[wHw,wHw,wHv ∅,wHv hj];exact h
def zDb {ds:List Int} {i:Nat} (h:i < ds.length):ds.getD i 0∈ds:=by rw[wHw,wHv h];exact wHZ h
def zIr {ds:List Int} {i:Nat} (h:i+1 < ds.length):nxt ds i=ds.getD (i+1) 0:=by unfold nxt;rw[wHw,wHw,wHv h];rfl
def zHJ {ds:List Int} {i:Nat} (h:¬i+1 < ds.length):nxt ds i=5001:=by unfold nxt;rw[wHw,wIw ∅];rfl
def Days.up {sps:Sps} {ds:List Int} (D:Days sps ds) {i:Nat} (h:i < ds.length):ds.getD i 0 < nxt ds i/\nxt ds i<=5001:=by
 have b:=D.bd _ (zDb h);by_cases c:i+1 < ds.length
 ·rw[zIr c];have:=D.bd _ (zDb c);exact⟨D.lt (wIv i) c,by omega⟩
 rw[zHJ c];omega
def Days.gap {sps:Sps} {ds:List Int} (D:Days sps ds) {i:Nat} (h:i < ds.length) {d:Int} (hd:d∈ds):d<=ds.getD i 0∨nxt ds i<=d:=by
 obtain⟨j,hj,rfl⟩:=List.mem_iff_getElem.mp hd;have e:ds[j]=ds.getD j 0:=by rw[wHw,wHv hj];rfl
 rw[e];rcases Nat.lt_trichotomy j i with c | c | c
 ·exact .inl (wIK (D.lt c h))
 ·rw[c];exact .inl (wII _)
 refine .inr ?_;rw[zIr ∅];by_cases z:j=i+1
 ·rw[z];exact wII _
 exact wIK (D.lt ∅ hj)
def Days.whole {sps:Sps} {ds:List Int} (S:zNg sps) (D:Days sps ds) {i k:Nat} (h:i < ds.length) (hk:k < sps.length) (h1:lo sps k<=nxt ds i-1) (h2:ds.getD i 0<=hi sps k):lo sps k<=ds.getD i 0/\nxt ds i-1<=hi sps k:=by
 have u:=D.up h;have s:=S k hk;refine⟨?_,?_⟩
 ·rcases D.gap h (D.has1 k hk) with c | c
  ·exact c
  omega
 by_cases z:hi sps k+1<=5000
 ·rcases D.gap h (D.has2 k hk z) with c | c
  ·omega
  omega
 omega
def Days.same {sps:Sps} {ds:List Int} (S:zNg sps) (D:Days sps ds) {i:Nat} (h:i < ds.length):zO1 sps (ds.getD i 0) (ds.getD i 0)=zO1 sps (ds.getD i 0) (nxt ds i-1):=by
 refine zJh _ λk hk=>?_;have u:=D.up h;constructor
 ·rintro⟨a,b⟩;exact D.whole S h hk ∅ b
 rintro⟨a,b⟩;exact⟨a,by omega⟩
section
open PySem.Spec PyProof.Rows
def zIM {prog:Program} {w:World} {A:Around} {E:Value->Shared->Prop} {s:Shared} {v:Value} {Q:Value->Shared->Prop}
  (h:wpAny (model prog w) A.in1 (collect v) (λvs s1=>∃ns,IntsAre vs ns/\vs.length < 64/\∀(h':Heap) (out:Array Value) (ms:List Int),IntsAre out.toList ms->ms.Perm ns->ms.Pairwise (·<=·)->
   (∀b o,s1.heap.get? b=some o->h'.get? b=some o)->(∃e,h'.get? s1.heap.objs.size=some (seqObj "list" out e))->s1.heap.objs.size < h'.objs.size->Q (.ref s1.heap.objs.size) { s1 with heap:=h' }) E s):wpAny (model prog w) A (call (.builtin "sorted") [v]) Q E s:=by
 refine Calls.call_function_entry kind_sorted plain_sorted entry_sorted (args_sorted1 _) ?_;unfold Builtin.«sorted»;refine wHu (m:=checkCount "sorted" 1 1 _) (wHx (wHu (wH4 h (λvs s1 h1=>?_) λ_ _ e=>e)));obtain⟨ns,hI,hz,q⟩:=h1;refine wHu (wpAny_newList ?_ (by exact wHI (wIC hz) ⋯));have hL:(s1.heap.push (seqObj "list" vs.toArray 0)).get? s1.heap.objs.size=some (seqObj "list" vs.toArray 0):=wHG _ rfl;refine wHu (wIn (wpAny_call_entry slot_list_sort ⟨_,hL,rfl⟩ entry_list_sort (list_sort_tree hL hI hz λout ms a1 a2 a3=>⟨_,rfl,?_⟩) (args_list_sort _)));refine wHx ⟨_,rfl,q _ out ms a1 a2 a3 (λb o e=>?_) ?_ ?_⟩
 ·have hb:=wHH e;unfold sortedHeap;refine (wHN _ _ (Ne.symm (wHO hb))).trans (wHz _ (wHz _ ?_));exact (wHN _ _ (Ne.symm (wHO hb))).trans (wHz _ e)
 ·unfold sortedHeap;exact⟨_,get?_update_seq (wHz _ (wHz _ (get?_update_seq hL (λ_=>#[])))) (λ_=>out)⟩
 unfold sortedHeap;rw[Heap.size_update,wIk,wIk,Heap.size_update,wIk];exact wIx (wIx (wIv _))
def zGf {X:Cx} (hc:X.calm=true):zBp X (.builtin "sorted") (λxs H Q=>∃(p:Addr) (ks:List Int),xs=[.ref p]/\H p=some (zOV X.w p ks)/\ks.length < 64/\
  ∀(l:Addr) (ms:List Int),H l=none->ms.Perm ks->ms.Pairwise (·<=·)->Q (.ref l) (upd H l (.lst (ms.map V.int)))):=by
 intro pins s σ H xs us Q I r h;obtain⟨p,ks,rfl,hp,kl,q⟩:=h;obtain⟨u,rfl,ru⟩:=r.one;cases ru;have hS:zFc X.w s.heap p ks:=(I.hok p _ hp).1;refine zIM (zHT (w:=X.w) (show X.A.in1.handled=none from I.ok.hd hc) hS λs1 vs ns i1 i2 i3 i4 i5 i6=>⟨ns,i1,?_,λh' out ms o1 o2 o3 o4 o5 o6=>?_⟩)
 ·have z:vs.length=ns.length:=i1.length;rw[z,i2.length_eq];exact kl
 have hl:H s1.heap.objs.size=none:=I.hok.fresh i6;obtain⟨e,he⟩:=o5;have J:=I.laid (h':=h') (o:=.lst (ms.map V.int)) (t':=s1.toks) (a:=s1.heap.objs.size) (λb o e=>o4 _ _ (i3 _ _ e)) i6 ⟨by rw[wHt,o2.length_eq,i2.length_eq];exact wHI (wIC kl) ⋯,out.toList,e,zCO o1,by rw[he]⟩
 exact⟨.ref s1.heap.objs.size,_,J.drawn rfl i4 i5,rfl,q _ ms hl (o2.trans i2) o3⟩
end
structure SpAt (K:W.Frag) (H:Hp) (r:Addr) (rs:List V) (sps:Sps):Prop where
 sq:SqL K H r rs
 len:rs.length=sps.length
 at_:∀k,k < sps.length->∃q,rs[k]?=some (.ref q)/\H q=some (.tup [.int (lo sps k),.int (hi sps k)])
def SpAt.mono {K:W.Frag} {H H':Hp} {r:Addr} {rs:List V} {sps:Sps} (h:SpAt K H r rs sps) (s:zAi H H'):SpAt K H' r rs sps:=
 ⟨s.seq h.sq,h.len,λk hk=>let ⟨q,e1,e2⟩:=h.at_ k hk;⟨q,e1,s _ _ e2⟩⟩
inductive sp_holding (K:W.Frag) (vs:List V) (H:Hp) (Q:VK) (E:XK):Prop
 | mk (r:Addr) (rs:List V) (sps:Sps) (d:Int):vs=[.ref r,.int d]->(SpAt K H r rs sps/\sps.length<=800/\∀(p:Addr) (H':Hp),H p=none->zAi H H'->H' p=some (.lst ((zO1 sps d d).map V.int))->Q (.ref p) H')->sp_holding K vs H Q E
def zIZ (T:Txt P w K mg t):FnOk P w K mg base CX0 40 t.wC5 t.wC6 ["spans","day"] (sp_holding K):=by
 refine T.wED.ok zIT ⟨⟩ ();obtain⟨r,rs,sps,d,rfl,sp,hl,q⟩:=h;refine⟨_,(zH (zX (zA4 ["place","span","day"] [none,none,some 1] (by kernel_rfl) rfl (zNJ rfl T.wFQ (zG (pv 0) zE zA)) (λ_ _ _ _ _=>(zAE K (n:=2) rfl (zO (zN (i:=0) ndB rfl (Or.inl rfl)) (zO (zN (i:=1) ndB rfl (Or.inl rfl)) zAA)))) (λ_ _ _ _ _=>(zCJ (zDS zDt zDt (zDL K (pv 1) zF) (pv 2) (zDL K (pv 1) zF)))) (λ_ _ _ _ _=>(pv 0))))),?_⟩;refine⟨_,rfl,r,rs,rfl,sp.sq,λc hc=>?_⟩;refine zLf (K:=K) (ys:=rs) (λi σ' H'=>∃u v,σ'=[u,v,some (.int d)]/\zAi H H'/\H' c=some (.lst ((zHO sps d d i).map V.int))) ⟨none,none,rfl,zC hc _,zB⟩ (λi σ' H' _ ⟨u,v,_,sm,_⟩=>sm.seq sp.sq) ?_ ?_
 ·rintro i x σ' H' T bY ⟨u,v,rfl,sm,ec⟩ hT;have aK:i < sps.length:=by rw[← sp.len];exact (wIL bY).1
  obtain⟨t',e1,e2⟩:=sp.at_ i aK;have ex:x=.ref t':=by rw[e1] at bY;exact (wHE bY).symm
  subst ex;have cH:=sm.trans (zC hT (.tup [.int (i:Int),.ref t']));have et:=SqT.of (K:=K) (cH _ _ e2);have ncT:c≠T:=zM ec hT;have nB:upd H' T (.tup [.int (i:Int),.ref t']) c=some (.lst ((zHO sps d d i).map V.int)):=by rw[zJ ncT];exact ec
  have le:=zOg sps d d i;refine⟨T,_,rfl,SqT.of zB,rfl,_,_,rfl,_,_,rfl,rfl,?_⟩;refine⟨_,rfl,t',_,_,_,rfl,rfl,et,rfl,_,rfl,_,_,rfl,rfl,_,rfl,zBD (λa=>?_) (λa=>?_)⟩
  ·have a1:lo sps i<=d:=wHP a;refine⟨_,rfl,t',_,_,_,rfl,rfl,et,rfl,_,_,rfl,rfl,_,rfl,zBD (λb=>?_) (λb=>?_)⟩
   ·have b1:d<=hi sps i:=wHP b;exact⟨_,rfl,_,nB,by rw[wHt];exact zBH ∅,_,_,rfl,zAk cH hc _,by rw[zB,zIx ⟨a1,b1⟩,zBO]⟩
   have b1:¬d<=hi sps i:=wH9 (wIO b);exact⟨_,_,rfl,cH,by rw[nB,zHN λz=>b1 z.2]⟩
  have a1:¬lo sps i<=d:=wH9 (wIO a);exact⟨_,rfl,zBC ⟨_,_,rfl,cH,by rw[nB,zHN λz=>a1 z.1]⟩⟩
 rintro σ' H' ⟨u,v,rfl,sm,ec⟩;rw[sp.len] at ec;exact q c H' hc sm ec
def dTo (sps:Sps):Nat->List Int
 | 0=>[0]
 | i+1=>dTo sps i++[lo sps i]++[hi sps i+1]
theorem zHS (sps:Sps):∀n,(dTo sps n).length=2*n+1
 | 0=>rfl
 | n+1=>by unfold dTo;rw[wHy,wHy,zHS sps n];simp only[wIl];omega
theorem zK8 {sps:Sps} {y:Int}:∀{n:Nat},y∈dTo sps n↔y=0∨∃k,k < n/\(y=lo sps k∨y=hi sps k+1)
 | 0=>by unfold dTo;rw[List.mem_singleton];exact⟨.inl,λh=>h.elim id λ⟨_,h,_⟩=>absurd h (wIy _)⟩
 | n+1=>by
  unfold dTo;rw[List.mem_append,List.mem_append,List.mem_singleton,List.mem_singleton,zK8 (n:=n)];constructor
  ·rintro (((h | ⟨k,h1,h2⟩) | h) | h)
   ·exact .inl h
   ·exact .inr ⟨k,by omega,h2⟩
   ·exact .inr ⟨n,by omega,.inl h⟩
   exact .inr ⟨n,by omega,.inr h⟩
  rintro (h | ⟨k,h1,h2⟩)
  ·exact .inl (.inl (.inl h))
  by_cases e:k=n
  ·subst e;rcases h2 with h2 | h2
   ·exact .inl (.inr h2)
   exact .inr h2
  exact .inl (.inl (.inr ⟨k,by omega,h2⟩))
def dIn (d:Int):Bool:=decide (0<=d) && decide (d<=5000)
def fTo (D:List Int) (i:Nat):List Int:=(D.take i).filter dIn
def zOr {D:List Int} {i:Nat} {d:Int} (e:D[i]?=some d) (h:0<=d/\d<=5000):fTo D (i+1)=fTo D i++[d]:=by unfold fTo;rw[List.take_add_one,e,List.filter_append];unfold dIn;simp[h]
theorem zMX {D:List Int} {i:Nat} {d:Int} (e:D[i]?=some d) (h:¬(0<=d/\d<=5000)):fTo D (i+1)=fTo D i:=by
 unfold fTo;rw[List.take_add_one,e,List.filter_append];unfold dIn;have:(decide (0<=d) && decide (d<=5000))=false:=by rw[← Bool.not_eq_true,wHR,decide_eq_true_eq,decide_eq_true_eq];exact h
 simp[this]
theorem zMY (D:List Int) (i:Nat):(fTo D i).length<=D.length:=wHI (wIE _ _) (by rw[wHS];omega)
def zNX {D:List Int} {y:Int}:y∈fTo D D.length↔y∈D/\0<=y/\y<=5000:=by unfold fTo dIn;rw[wH0,List.mem_filter];simp
def zOv {sps:Sps} {ms ks:List Int} (so:zNg sps) (nd:ks.Nodup) (mem:∀y,y∈ks↔y∈fTo (dTo sps sps.length) (dTo sps sps.length).length) (pm:ms.Perm ks) (pw:ms.Pairwise (·<=·)):Days sps ms:=by
 have mm:∀y,y∈ms↔(y=0∨∃k,k < sps.length/\(y=lo sps k∨y=hi sps k+1))/\0<=y/\y<=5000:=λy=>by rw[pm.mem_iff,mem,zNX,zK8]
 have inc:ms.Pairwise (· < ·):=by
  have ff:ms.Pairwise (·≠·):=pm.nodup_iff.mpr nd;exact (List.Pairwise.and pw ff).imp λ{a b} h=>by have h1:=h.1;have h2:=h.2;omega
 refine⟨inc,?_,λd hd=>((mm d).mp hd).2,λd hd=>((mm d).mp hd).1,λk hk=>(mm _).mpr ⟨.inr ⟨k,hk,.inl rfl⟩,?_⟩,λk hk h=>(mm _).mpr ⟨.inr ⟨k,hk,.inr rfl⟩,?_,h⟩⟩
 ·have z:(0:Int)∈ms:=(mm 0).mpr ⟨.inl rfl,by omega,by omega⟩
  match ms,z,pw,mm with
  | a::r,z,pw,mm=>
   have a0:=((mm a).mp (wIg ..)).2.1;rcases wIQ z with e | e
   ·rw[← e];rfl
   have:=(List.pairwise_cons.mp pw).1 0 e;have:a=0:=by omega
   rw[this];rfl
 ·have:=so k hk;omega
 have:=so k hk;omega
inductive sp_turning_days (K:W.Frag) (vs:List V) (H:Hp) (Q:VK) (E:XK):Prop
 | mk (r:Addr) (rs:List V) (sps:Sps):vs=[.ref r]->(SpAt K H r rs sps/\zNg sps/\sps.length<=30/\
 ∀(l:Addr) (ds:List Int) (H':Hp),H l=none->zAi H H'->H' l=some (.lst (ds.map V.int))->Days sps ds->ds.length<=900->Q (.ref l) H')->sp_turning_days K vs H Q E
def zEy (T:Txt P w K mg t):FnOk P w K mg base CX0 40 t.wAH t.wAI ["spans"] (sp_turning_days K):=by
 refine T.wCc.ok zAS ⟨⟩ ();obtain⟨r,rs,sps,rfl,sp,so,hl,q⟩:=h;refine⟨_,(zD (zAJ 1 zAS.nd (zAd (zG zF zE zI)))
  (zD (zAW PassesOwn.never rfl (zAh K (pv 0)) (zAE K (n:=2) rfl (zO (zN (i:=2) zAS.nd rfl (Or.inl rfl)) (zO (zN (i:=3) zAS.nd rfl (Or.inl rfl)) zAA))) (zD (zAe (zAQ K wHW wH5 wIa zAr (pv 1) (zG (pv 2) zE zA)))
  (zH (zAe (zAQ K wHW wH5 wIa zAr (pv 1) (zG (zP zBj (pv 3) zF) zE zV))))))
  (zH (zX (zU (zGf rfl) rfl T.wD2 PyProof.Rows.boot_sorted (zG (zAt (zLo K rfl) rfl T.wHm PyProof.Rows.boot_set (zG (zA4 ["day"] [none] (by kernel_rfl) rfl (zAh K (pv 1)) (λ_ _ _ _ _=>(zN (i:=0) ndB rfl (Or.inl rfl))) (λ_ _ _ _ _=>(zCJ (zDS zDt zDt zF (pv 0) (zAn (v:=.int 5000) rfl T.wCO.choose_spec ⟨_,rfl⟩)))) (λ_ _ _ _ _=>(pv 0))) zE zA3)) zE zZ)))))),?_⟩
 refine⟨szl,λd hd=>?_⟩;have s0:=zC hd (.lst [V.int 0]);refine⟨_,rfl,r,rfl,⟨_,s0.seq sp.sq⟩,zAH (K:=K) (a:=r) (xs:=rs) (λi σ' H'=>∃u v,σ'=[some (.ref r),some (.ref d),u,v]/\zAi H H'/\H' d=some (.lst ((dTo sps i).map V.int)))
  ⟨_,_,rfl,s0,zB⟩ (λi σ' H' _ ⟨_,_,_,sm,_⟩=>sm.seq sp.sq) ?_ ?_⟩
 ·rintro i x σ' H' hx ⟨u,v,rfl,sm,ed⟩;have aK:i < sps.length:=by rw[← sp.len];exact (wIL hx).1
  obtain⟨t',e1,e2⟩:=sp.at_ i aK;have ex:x=.ref t':=by rw[e1] at hx;exact (wHE hx).symm
  subst ex;have dl:=zHS sps i;refine⟨t',_,rfl,SqT.of (sm _ _ e2),rfl,_,_,rfl,_,_,rfl,rfl,?_⟩;refine⟨_,rfl,.inl ⟨rfl,_,SqL.of ed⟩,_,rfl,d,_,_,rfl,rfl,ed,by rw[wHt];exact zBH ∅,?_⟩;refine⟨_,rfl,.inl ⟨rfl,_,SqL.of zB⟩,_,rfl,_,_,rfl,rfl,d,_,_,rfl,rfl,zB,by rw[wHy,wHt];exact zBH (by simp only[wIl];omega),?_⟩;refine⟨_,_,rfl,zAk (zAk sm hd _) hd _,?_⟩;rw[zB,show dTo sps (i+1)=dTo sps i++[lo sps i]++[hi sps i+1] from rfl,wHC,wHC]
  rfl
 rintro σ' H1 ⟨u,v,rfl,s1,ed⟩;rw[sp.len] at ed;have dl:=zHS sps sps.length;refine⟨_,rfl,d,rfl,⟨_,SqL.of ed⟩,λc hc=>?_⟩;refine zAz (K:=K) (ys:=(dTo sps sps.length).map V.int) (λi σ' H'=>∃u,σ'=[u]/\H'=upd H1 c (.lst ((fTo (dTo sps sps.length) i).map V.int))) ⟨none,rfl,rfl⟩ (λi σ' H' _ ⟨_,_,e⟩=>by rw[e];exact SqL.of (zC hc _ _ _ ed)) ?_ ?_
 ·rintro i x σ' H' hx ⟨u,rfl,rfl⟩;rw[wHB] at hx;obtain⟨dd,e1,rfl⟩:=wIN hx;have fl:=zMY (dTo sps sps.length) i;refine⟨_,rfl,_,_,rfl,rfl,_,rfl,zBD (λa=>?_) (λa=>?_)⟩
  ·have a1:0<=dd:=wHP a;refine⟨_,_,rfl,rfl,_,rfl,zBD (λb=>?_) (λb=>?_)⟩
   ·have b1:dd<=5000:=wHP b;exact⟨_,rfl,_,zB,by rw[wHt];exact zBH ∅,_,rfl,by rw[zBl,zOr e1 ⟨a1,b1⟩,zBO]⟩
   have b1:¬dd<=5000:=wH9 (wIO b);exact⟨_,rfl,by rw[zMX e1 λz=>b1 z.2]⟩
  have a1:¬0<=dd:=wH9 (wIO a);exact⟨_,rfl,zBC ⟨_,rfl,by rw[zMX e1 λz=>a1 z.1]⟩⟩
 rintro σ' H2 ⟨u,rfl,rfl⟩;rw[wHt];have fl:=zMY (dTo sps sps.length) (dTo sps sps.length).length;refine⟨c,_,rfl,SqL.of zB,by omega,λl ks cZ mem nd len=>?_⟩;refine⟨l,ks,rfl,zB,by omega,λl2 ms hl3 pm pw=>?_⟩;have sA:=(s1.trans (zC hc _)).trans (zC cZ (zOV w l ks));refine q l2 ms _ (sA.free hl3) (sA.trans (zC hl3 _)) zB (zOv so nd mem pm pw) ?_;rw[pm.length_eq];omega
def zRa (xs:List V):zGc xs (some 1) none=xs.drop 1:=by
 unfold zGc;rw[HT.sIx_none,show (some (1:Int))=some (((1:Nat):Int)) from rfl,HT.sIx_nat];cases xs with
 | nil=>rfl
 | cons x r=>
  have:min 1 (x::r).length=1:=by simp
  rw[this];exact wIo (by simp)
def bhd (ds:List Int):List Int:=ds.drop 1++[5001]
theorem zLq {ds:List Int} {i:Nat} (h:i < ds.length):(bhd ds)[i]?=some (nxt ds i):=by
 unfold bhd;by_cases c:i+1 < ds.length
 ·rw[wHJ (by rw[wIu];omega),List.getElem?_drop,zIr c,wHw,Nat.add_comm 1 i,wHv c];rfl
 rw[wHK (by rw[wIu];omega),zHJ c,wIu,show i-(ds.length-1)=0 by omega];rfl
structure StRec where
 t:Addr
 p:Addr
 f:Int
 l:Int
 ps:List Int
def zKa (ss:List StRec):List V:=ss.map λs=>V.ref s.t
def zFF (ss:List StRec):(zKa ss).length=ss.length:=wHt _
def zLO {ss:List StRec} {i:Nat} {s:StRec} (h:ss[i]?=some s):(zKa ss)[i]?=some (.ref s.t):=by unfold zKa;rw[wHB,h];rfl
def zJZ (ss:List StRec) (s:StRec):zKa (ss++[s])=zKa ss++[.ref s.t]:=by unfold zKa;rw[wHC];rfl
def zRf (H:Hp) (s:StRec):Prop:=H s.t=some (.tup [.int s.f,.int s.l,.ref s.p])/\H s.p=some (.lst (s.ps.map V.int))
structure Told (sps:Sps) (ds:List Int) (ss:List StRec) (n:Nat):Prop where
 len:ss.length=n
 at_:∀(i:Nat) (s:StRec),ss[i]?=some s->s.f=ds.getD i 0/\s.l=nxt ds i-1/\s.ps=zO1 sps (ds.getD i 0) (ds.getD i 0)
 nd:(ss.map (·.p)).Nodup
inductive sp_stretches (K:W.Frag) (vs:List V) (H:Hp) (Q:VK) (E:XK):Prop
 | mk (r:Addr) (rs:List V) (sps:Sps):vs=[.ref r]->(SpAt K H r rs sps/\zNg sps/\sps.length<=30/\
 ∀(fl:Addr) (ds:List Int) (ss:List StRec) (H':Hp),H fl=none->zAi H H'->H' fl=some (.lst (zKa ss))->Days sps ds->ds.length<=900->Told sps ds ss ds.length->(∀s∈ss,zRf H' s/\H s.p=none/\s.p≠fl)->Q (.ref fl) H')->sp_stretches K vs H Q E
def zGC (T:Txt P w K mg t):FnOk P w K mg base CX0 41 t.wBP t.wBQ ["spans"] (sp_stretches K):=by
 refine T.wDH.ok zAP ⟨⟩ ();obtain⟨r,rs,sps,rfl,sp,so,hl,q⟩:=h;refine⟨_,(zD (zAJ 1 zAP.nd (cal (zEy T) hr T.wEp T.wCc T.wEo (zG (pv 0) zE zA)))
  (zD (zAJ 2 zAP.nd (zP zD7 (zBZ (zF7 K) (pv 1) (zCu zF) zDr) (zAd (zG (zP zBj (zAn (v:=.int 5000) rfl T.wCO.choose_spec ⟨_,rfl⟩) zF) zE zV))))
  (zD (zAJ 3 zAP.nd (zAd zE))
  (zD (zAW PassesOwn.never rfl (zPg rfl T.wGM (zY (pv 1) (pv 2) zE zA zA)) (zAE K (n:=2) rfl (zO (zN (i:=4) zAP.nd rfl (Or.inl rfl)) (zO (zN (i:=5) zAP.nd rfl (Or.inl rfl)) zAA))) (zH (zAe (zAQ K wHW wH5 wIa zAr (pv 3) (zG (zAT (zAq (pv 4) (zP zIo (pv 5) zF) (cal (zIZ T) hr T.wF8 T.wED T.wF7 (zY (pv 0) (pv 4) zE zA zA)) zE zA zV zZ)) zE zAF)))))
  (zH (zX (pv 3))))))),?_⟩
 refine⟨_,rfl,r,rs,sps,rfl,sp,so,hl,λa ds H1 ha s1 ea D dl=>?_⟩;have dp:=D.pos;refine⟨_,rfl,_,rfl,a,_,rfl,SqL.of ea,λc hc=>?_⟩;have s2:=zC hc (.lst (zGc (ds.map V.int) (some 1) none));refine⟨_,_,rfl,rfl,szl,λd hd=>?_⟩;have s3:=s2.trans (zC hd (.lst [.int 5001]));refine⟨c,d,_,_,rfl,rfl,zC hd _ _ _ zB,zB,?_,λb hb=>?_⟩
 ·rw[zRa,wIu,wHt];exact small (by show ds.length-1+1<=1000;omega)
 have eb0:zGc (ds.map V.int) (some 1) none++[.int 5001]=(bhd ds).map V.int:=by unfold bhd;rw[zRa,wHC,List.map_drop];rfl
 have s4:=s3.trans (zC hb (.lst (zGc (ds.map V.int) (some 1) none++[.int 5001])));refine⟨szl,λtl dS=>?_⟩;have s5:=s1.trans (s4.trans (zC dS (.lst [])));have ea5:=(s4.trans (zC dS (.lst []))) _ _ ea;have eb5:upd (upd (upd (upd H1 c (.lst (zGc (ds.map V.int) (some 1) none))) d (.lst [.int 5001])) b (.lst (zGc (ds.map V.int) (some 1) none++[.int 5001]))) tl (.lst []) b=some (.lst ((bhd ds).map V.int)):=by rw[← eb0];exact zC dS _ _ _ zB
 have fR:H tl=none:=(s1.trans s4).free dS;have nat:a≠tl:=zM (s4 _ _ ea) dS;have nbt:b≠tl:=zM (zB) dS;have lb:(ds.map V.int).length=((bhd ds).map V.int).length:=by unfold bhd;simp;omega
 refine⟨_,rfl,_,rfl,a,b,_,_,rfl,SqL.of ea5,SqL.of eb5,zOo (K:=K) lb (λi σ' H'=>∃(ss:List StRec) (u v:Option V),σ'=[some (.ref r),some (.ref a),some (.ref b),some (.ref tl),u,v]/\zAi H H'/\H' a=some (.lst (ds.map V.int))/\H' b=some (.lst ((bhd ds).map V.int))/\
  H' tl=some (.lst (zKa ss))/\Told sps ds ss i/\∀s∈ss,zRf H' s/\H s.p=none/\s.p≠tl/\s.t≠tl) ⟨[],none,none,rfl,s5,ea5,eb5,zB,⟨rfl,λi s hs=>by simp at hs,List.nodup_nil⟩,λs hs=>by cases hs⟩ (λi σ' H' _ ⟨_,_,_,_,_,z1,z2,_⟩=>⟨SqL.of z1,SqL.of z2⟩) ?_ ?_⟩
 ·rintro i x y σ' H' T hx hy ⟨ss,u,v,rfl,sm,e1,e2,e3,td,hs⟩ hT;have bY:i < ds.length:=by have:=(wIL hx).1;rw[wHt] at this;exact this
  have ex:x=.int (ds.getD i 0):=by rw[wHB,wHv bY] at hx;rw[wHw,wHv bY];exact (wHE hx).symm
  have ey:y=.int (nxt ds i):=by rw[wHB,zLq bY] at hy;exact (wHE hy).symm
  subst ex ey;have cH:=zC hT (.tup [.int (ds.getD i 0),.int (nxt ds i)]);have sH:=sm.trans cH;refine⟨T,_,rfl,SqT.of zB,rfl,_,_,rfl,_,_,rfl,rfl,?_⟩;refine⟨_,rfl,.inl ⟨rfl,_,SqL.of (cH _ _ e3)⟩,_,rfl,_,rfl,_,_,rfl,rfl,_,rfl,_,rfl,r,rs,sps,ds.getD i 0,rfl,sp.mono sH,by omega,λp H2 hp hV ep=>?_⟩;have sA:=cH.trans hV;refine⟨szl,λt' iD=>?_⟩;have sB:=sA.trans (zC iD (.tup [.int (ds.getD i 0),.int (nxt ds i-1),.ref p]));have eB:=sB _ _ e3;have l3:(zKa ss).length < sizeLine:=by rw[zFF,td.len];exact zBH ∅
  refine⟨tl,_,_,rfl,rfl,eB,l3,?_⟩;have hp0:H p=none:=sH.free hp;have npt:p≠tl:=Ne.symm (zM (cH _ _ e3) hp);have ntt:t'≠tl:=Ne.symm (zM (sA _ _ e3) iD);have nA:∀{z:Addr} {o:HO},H' z=some o->z≠tl->upd (upd H2 t' (.tup [.int (ds.getD i 0),.int (nxt ds i-1),.ref p])) tl (.lst ((zKa ss)++[.ref t'])) z=some o:=λh n=>by rw[zJ n];exact sB _ _ h
  refine⟨ss++[⟨t',p,ds.getD i 0,nxt ds i-1,zO1 sps (ds.getD i 0) (ds.getD i 0)⟩],_,_,rfl,zAk (sH.trans (hV.trans (zC iD _))) fR _,nA e1 nat,nA e2 nbt,by rw[zB,zJZ],⟨by rw[wHy,td.len];rfl,λj s hj=>?_,?_⟩,λs hm=>?_⟩
  ·by_cases c:j < ss.length
   ·rw[wHJ c] at hj;exact td.at_ j s hj
   rw[wHK ∅] at hj;have:j-ss.length=0:=by
    rcases Nat.eq_zero_or_pos (j-ss.length) with z | z
    ·exact z
    rw[wIw (by simp;omega)] at hj;cases hj
   have ej:j=i:=by rw[← td.len];omega
   rw[this] at hj;have:=wHE hj;subst this ej;exact⟨rfl,rfl,rfl⟩
  ·rw[wHC,List.nodup_append];refine⟨td.nd,by simp,λz hz w hw=>?_⟩;obtain⟨s,fT,rfl⟩:=List.mem_map.mp hz;have:w=p:=by simpa using hw
   subst this;exact zM (cH _ _ (hs s fT).1.2) hp
  rcases wIP hm with z | z
  ·obtain⟨⟨h1,h2⟩,h3,h4,h5⟩:=hs s z;exact⟨⟨nA h1 h5,nA h2 h4⟩,h3,h4,h5⟩
  rw[wIM z];have et':t'≠p:=Ne.symm (zM ep iD);exact⟨⟨by show upd _ tl _ t'=_;rw[zJ ntt];exact zB,by show upd _ tl _ p=_;rw[zJ npt,zJ (Ne.symm et')];exact ep⟩,hp0,npt,ntt⟩
 rintro σ' H' ⟨ss,u,v,rfl,sm,e1,e2,e3,td,hs⟩;rw[wHt] at td;exact⟨_,rfl,q tl ds ss H' fR sm e3 D dl td λs hm=>⟨(hs s hm).1,(hs s hm).2.1,(hs s hm).2.2.1⟩⟩
def zLA (p:Pct):Int × Int:=(p.2.2.2.1,p.2.2.2.2)
def zMp {ps:List Pct} {k:Nat} {p:Pct} (h:ps[k]?=some p):lo (ps.map zLA) k=p.2.2.2.1/\hi (ps.map zLA) k=p.2.2.2.2:=by unfold lo hi;rw[wHw,wHB,h];exact⟨rfl,rfl⟩
def zEJ (H:Hp) (l:Addr) (ns:List Str) (ps:List Pct) (ds:List Int):Prop:=
 ∃q:List (Addr × Addr),H l=some (.lst (q.map λx=>V.ref x.1))/\q.length=ds.length/\∀(i:Nat) (a w:Addr) (d:Int),q[i]?=some (a,w)->ds[i]?=some d->H a=some (.tup [.int d,.ref w])/\zAf H w ((ps.filter (zBG d)).map (zLv ns))/\w≠l
def zEJ.same {H H':Hp} {l:Addr} {ns:List Str} {ps:List Pct} {ds:List Int} (x:zEJ H l ns ps ds) (s:zAi H H'):zEJ H' l ns ps ds:=by obtain⟨q,h1,h2,h3⟩:=x;exact⟨q,s _ _ h1,h2,λi a w d e1 e2=>let ⟨g1,g2,g4⟩:=h3 i a w d e1 e2;⟨s _ _ g1,g2.same s,g4⟩⟩
theorem zPq (ps:List Pct) (d:Int):∀n,n<=ps.length->∃ks:List Nat,zHO (ps.map zLA) d d n=ks.map (λk:Nat=>(k:Int))/\(∀k∈ks,k < n)/\∀(α:Type) (f:Pct->α) (g:Nat->α),(∀k p,ps[k]?=some p->g k=f p)->ks.map g=((ps.take n).filter (zBG d)).map f
 | 0,_=>⟨[],rfl,(λk hk=>nomatch hk),λα f g _=>rfl⟩
 | n+1,h=>by
  obtain⟨ks,e,b,g⟩:=zPq ps d n ∅;have hp:ps[n]?=some ps[n]:=wHv ∅;obtain⟨l1,l2⟩:=zMp hp;have et:(ps.take (n+1)).filter (zBG d)=(ps.take n).filter (zBG d)++[ps[n]].filter (zBG d):=by rw[wId,hp,List.filter_append];rfl
  by_cases c:(ps[n]).2.2.2.1<=d/\d<=(ps[n]).2.2.2.2
  ·refine⟨ks++[n],?_,λk hk=>?_,λα f g' hg=>?_⟩
   ·rw[zIx (by rw[l1,l2];exact c),e,wHC];rfl
   ·rcases wIP hk with z | z
    ·have:=b k z;omega
    rw[wIM z];omega
   rw[et,List.filter_cons_of_pos (by unfold zBG;rw[wHU c.1,wHU c.2];rfl),List.filter_nil,wHC,wHC,g α f g' hg];show _++[g' n]=_++[f ps[n]];rw[hg n _ hp]
  refine⟨ks,?_,λk hk=>by have:=b k hk;omega,λα f g' hg=>?_⟩
  ·rw[zHN (by rw[l1,l2];exact c),e]
  rw[et,List.filter_cons_of_neg (by unfold zBG;intro z;rw[wHR,decide_eq_true_eq,decide_eq_true_eq] at z;exact c z),List.filter_nil,wHQ]
  exact g α f g' hg
inductive sp_looks (K:W.Frag) (vs:List V) (H:Hp) (Q:VK) (E:XK):Prop
 | mk (nl pl:Addr) (ns:List Str) (ps:List Pct):vs=[.ref nl,.ref pl]->(SqL K H nl (ns.map V.str)/\zAf H pl (ps.map Pct.vs)/\ps.length<=30/\(∀p∈ps,p.1∈ns/\p.2.1∈ns)/\zNg (ps.map zLA)/\
 ∀l H' ds,H l=none->zAi H H'->Days (ps.map zLA) ds->ds.length<=900->zEJ H' l ns ps ds->Q (.ref l) H')->sp_looks K vs H Q E
def zLZ (T:Txt P w K mg t):FnOk P w K mg base CX0 42 t.wEe t.wEf ["names","pacts"] (sp_looks K):=by
 refine T.wFR.ok zF9 ⟨⟩ ();obtain⟨nl,pl,ns,ps,rfl,hN,hP,hz,lV,so,q⟩:=h;refine⟨_,(zD (zFj (i:=2) zF9.nd rfl (Or.inr rfl) (cal (zIX T) hr T.wGe T.wEF T.wGd (zY (pv 0) (pv 1) zE zA zA)))
  (zD (zHA ["giver","taker","part","first","last"] [none,none,none,none,none] (by kernel_rfl) rfl (zAh K (pv 1)) (λ_ _ _ _ _=>(zAE K (n:=5) rfl (zO (zN (i:=0) ndB rfl (Or.inl rfl)) (zO (zN (i:=1) ndB rfl (Or.inl rfl)) (zO (zN (i:=2) ndB rfl (Or.inl rfl)) (zO (zN (i:=3) ndB rfl (Or.inl rfl)) (zO (zN (i:=4) ndB rfl (Or.inl rfl)) zAA))))))) (λ_ _ _ _ _=>zAO) (λ_ _ _ _ _=>(zAT (zY (pv 3) (pv 4) zE zA zA))) (zN (i:=3) zF9.nd rfl (Or.inl rfl)))
  (zH (zX (zA4 ["first","last","places","ways"] [none,none,none,some 2] (by kernel_rfl) rfl (zAh K (cal (zGC T) hr T.wFD T.wDH T.wFC (zG (pv 3) zE zA))) (λ_ _ _ _ _=>(zAE K (n:=3) rfl (zO (zN (i:=0) ndB rfl (Or.inl rfl)) (zO (zN (i:=1) ndB rfl (Or.inl rfl)) (zO (zN (i:=2) ndB rfl (Or.inl rfl)) zAA))))) (λ_ _ _ _ _=>zAO) (λ_ _ _ _ _=>(zAT (zY (pv 0) (zA4 ["place","ways"] [none,some 3] (by kernel_rfl) rfl (zAh K (pv 2)) (λ_ _ _ _ _=>(zN (i:=0) ndB rfl (Or.inl rfl))) (λ_ _ _ _ _=>zAO) (λ_ _ _ _ _=>(zA8 K (pv 1) (pv 0)))) zE zA zA3)))))))),?_⟩
 refine⟨_,rfl,_,rfl,nl,pl,ns,ps,rfl,hN,hP,by omega,lV,λwl H1 iC s1 W1=>?_⟩;obtain⟨qs,hp,lq,hq⟩:=hP.same s1;rw[wHt] at lq;refine⟨_,rfl,pl,rfl,⟨_,SqL.of hp⟩,λsl bJ=>?_⟩;refine zAz (ys:=qs.map V.ref) (λi σ' H'=>∃(v1 v2 v3 v4 v5:Option V),σ'=[v1,v2,v3,v4,v5]/\zAi H1 H'/\zAf H' sl ((ps.take i).map λp=>[V.int p.2.2.2.1,V.int p.2.2.2.2])) ⟨none,none,none,none,none,rfl,zC bJ _,zAf.nil zB⟩ ?_ ?_ ?_
 ·rintro i σ' H' hi ⟨v1,v2,v3,v4,v5,rfl,s',el⟩;exact SqL.of (s' _ _ hp)
 ·rintro i x σ' H' hi ⟨v1,v2,v3,v4,v5,rfl,s',el⟩;rw[wHB] at hi;obtain⟨a,ha,rfl⟩:=wIN hi;have aK:i < ps.length:=by rw[← lq];exact (wIL ha).1
  have bM:ps[i]?=some ps[i]:=wHv aK;have ea:=s' _ _ (hq i a _ ha (by rw[wHB,bM];rfl));refine⟨a,_,rfl,SqT.of ea,rfl,_,_,rfl,_,_,rfl,_,_,rfl,_,_,rfl,_,_,rfl,rfl,?_⟩;refine⟨_,rfl,_,rfl,zAp,λp cY=>?_⟩;have s2:=zC cY (.tup [V.int (ps[i]).2.2.2.1,V.int (ps[i]).2.2.2.2]);obtain⟨q2,g1,g2,g3⟩:=el.same s2;refine⟨_,g1,by rw[wHt,g2,wHt,wHS];exact zAa ∅,_,_,_,_,_,rfl,zAk (s'.trans s2) bJ _,?_⟩;rw[wId,bM,wHC];exact zAf.snoc g1 g2 g3 zB
 rintro σ' H2 ⟨v1,v2,v3,v4,v5,rfl,s2,S2⟩;rw[wHt,lq,wH0] at S2;obtain⟨sq,g1,g2,g3⟩:=S2;rw[wHt] at g2;have SA:SpAt K H2 sl (sq.map V.ref) (ps.map zLA):=by refine⟨SqL.of g1,by rw[wHt,wHt,g2],λk hk=>?_⟩;rw[wHt] at hk;have iE:ps[k]?=some ps[k]:=wHv hk;have hsk:sq[k]?=some (sq[k]' ∅):=wHv _;obtain⟨l1,l2⟩:=zMp iE;refine⟨sq[k]' ∅,by rw[wHB,hsk];rfl,?_⟩;rw[l1,l2];exact g3 k _ _ hsk (by rw[wHB,iE];rfl)
 refine⟨_,rfl,sl,_,_,rfl,SA,so,by rw[wHt];exact hz,λfl ds ss H3 iL s3 efl D dl Tl ly=>?_⟩;refine⟨fl,rfl,⟨_,SqL.of efl⟩,λl hl=>?_⟩;obtain⟨wq,w1,w2,w3⟩:=W1.same (s2.trans s3);rw[wHt] at w2;have bR:=s2.trans s3;refine zAz (ys:=zKa ss) (λi σ' H'=>∃(v1 v2 v3:Option V),σ'=[v1,v2,v3,some (.ref wl)]/\zAi H3 H'/\zEJ H' l ns ps (ds.take i)) ⟨none,none,none,rfl,zC hl _,⟨[],zB,rfl,λi a w d e=>by simp at e⟩⟩ ?_ ?_ ?_
 ·rintro i σ' H' hi ⟨v1,v2,v3,rfl,s4,L4⟩;exact SqL.of (s4 _ _ efl)
 ·rintro i x σ' H4 hx ⟨v1,v2,v3,rfl,s4,L4⟩;have hi:i < ss.length:=by rw[← zFF];exact (wIL hx).1
  have hs:ss[i]?=some ss[i]:=wHv hi;rw[zLO hs] at hx;cases hx;have hid:i < ds.length:=by rw[← Tl.len];exact hi
  obtain⟨t1,t2,t3⟩:=Tl.at_ i _ hs;obtain⟨⟨tup,lst⟩,_,_⟩:=ly ss[i] (wHZ hi);generalize ss[i]=sr at t1 t2 t3 tup lst;have hd:ds[i]?=some (ds.getD i 0):=by rw[wHw,wHv hid];rfl
  generalize ds.getD i 0=d at t1 t3 hd;refine⟨sr.t,_,rfl,SqT.of (s4 _ _ tup),rfl,_,_,rfl,_,_,rfl,_,_,rfl,rfl,?_⟩;obtain⟨ks,ek,bk,gk⟩:=zPq ps d ps.length (wHA _);have ep:sr.ps=ks.map (λk:Nat=>(k:Int)):=by rw[t3,← ek];unfold zO1;rw[wHt]
  have lk:ks.length<=100:=by have:=congrArg List.length (gk Pct id (λk=>ps.getD k (Str.empty,Str.empty,0,0,0)) (λk p h=>by rw[wHw,h];rfl));rw[wHt,wHt,wH0] at this;rw[this];exact wHI (wIE _ _) ∅
  rw[ep] at lst;refine⟨_,rfl,_,rfl,sr.p,rfl,⟨_,SqL.of (s4 _ _ lst)⟩,λm hm=>?_⟩;refine zAz (ys:=(ks.map (λk:Nat=>(k:Int))).map V.int) (λj σ' H'=>∃(v:Option V),σ'=[v,some (.ref wl)]/\zAi H4 H'/\H' m=some (.lst (((ks.take j).map λk=>wq.getD k 0).map V.ref))) ⟨none,rfl,zC hm _,zB⟩ ?_ ?_ ?_
  ·rintro j σ' H' hj ⟨v,rfl,s5,em⟩;exact SqL.of (s5 _ _ (s4 _ _ lst))
  ·rintro j x σ' H' hx ⟨v,rfl,s5,em⟩;rw[List.map_map,wHB] at hx;obtain⟨k,hk,rfl⟩:=wIN hx;have lS:k < wq.length:=by rw[w2];exact bk k (wIe hk)
   have nr:wq[k]?=some (wq.getD k 0):=by rw[wHw,wHv lS];rfl
   refine⟨_,rfl,_,rfl,wl,_,_,_,rfl,rfl,SqL.of (s5 _ _ (s4 _ _ w1)),(show atI (wq.map V.ref) ((k:Nat):Int)=some (.ref (wq.getD k 0)) from zCy (by rw[wHB,nr];rfl)),_,em,by rw[wHt,wHt,wHS];exact zAa ∅,_,rfl,zAk s5 hm _,?_⟩;rw[zB,wId,hk];simp only[Option.toList_some,wHC,wH6,List.map_nil]
  rintro σ' H5 ⟨v,rfl,s5,em⟩;rw[wHt,wHt,wH0] at em;have TW:zAf H5 m ((ps.filter (zBG d)).map (zLv ns)):=by
   refine⟨_,em,?_,λj a ys e1 e2=>?_⟩
   ·have:=congrArg List.length (gk (List V) (zLv ns) (λk=>zLv ns (ps.getD k (Str.empty,Str.empty,0,0,0))) (λk p h=>by rw[wHw,h];rfl));rw[wH0] at this;rw[← this,wHt,wHt]
   have eg:=gk (List V) (zLv ns) (λk=>zLv ns (ps.getD k (Str.empty,Str.empty,0,0,0))) (λk p h=>by rw[wHw,h];rfl);rw[wH0] at eg;rw[← eg,wHB] at e2;rw[wHB] at e1;obtain⟨k,hk,rfl⟩:=wIN e1;rw[hk] at e2;cases e2;have lS:k < ps.length:=bk k (wIe hk);have nr:wq[k]?=some (wq.getD k 0):=by rw[wHw,wHv (show k < wq.length by omega)];rfl
   have ep2:ps[k]?=some (ps.getD k (Str.empty,Str.empty,0,0,0)):=by rw[wHw,wHv lS];rfl
   exact s5 _ _ (s4 _ _ (w3 k _ _ nr (by rw[wHB,ep2];rfl)))
  refine⟨zAp,λp cY=>?_⟩;have s6:=zC cY (.tup [V.int sr.f,V.ref m]);obtain⟨q4,a1,a2,a3⟩:=(L4.same s5).same s6;have TW6:=TW.same s6;have lq4:q4.length<=900:=by rw[a2,wHS];omega
  refine⟨_,a1,by rw[wHt];exact zAa ∅,_,_,_,rfl,zAk ((s4.trans s5).trans s6) hl _,?_⟩;have s7:zBk l (upd H5 p (.tup [V.int sr.f,V.ref m])) (upd (upd H5 p (.tup [V.int sr.f,V.ref m])) l (.lst ((q4.map λx=>V.ref x.1)++[V.ref p]))):=zBk.upd;have tn:∀{a:Addr} {ys:List V},upd H5 p (.tup [V.int sr.f,V.ref m]) a=some (.tup ys)->a≠l:=λe=>zFS e a1 (by intro z;cases z);have ln:∀{w:Addr} {yss:List (List V)},zAf (upd H5 p (.tup [V.int sr.f,V.ref m])) w yss->w≠l->zAf (upd (upd H5 p (.tup [V.int sr.f,V.ref m])) l (.lst ((q4.map λx=>V.ref x.1)++[V.ref p]))) w yss:=λT n=>T.keep s7 n ⟨_,a1⟩;have ml:m≠l:=λz=>by obtain⟨_,e,_⟩:=L4;rw[z,e] at hm;cases hm
  have et:ds.take (i+1)=ds.take i++[d]:=by rw[wId,hd];rfl
  refine⟨q4++[(p,m)],by rw[zB,wHC];rfl,by rw[et,wHy,wHy,a2];rfl,λi' a w d' e1 e2=>?_⟩;rw[et] at e2;by_cases c:i' < q4.length
  ·rw[wHJ c] at e1;rw[wHJ ∅] at e2;obtain⟨b1,b2,b3⟩:=a3 i' a w d' e1 e2;exact⟨s7 _ _ (tn b1) b1,ln b2 b3,b3⟩
  rw[wHK ∅] at e1;rw[wHK ∅] at e2;have z:i'-q4.length=0:=by have:=(wIL e1).1;rw[wIl] at this;omega
  have z2:i'-(ds.take i).length=0:=by omega
  rw[z] at e1;rw[z2] at e2;cases e1;cases e2;refine⟨s7 _ _ (tn zB) ?_,ln TW6 ml,ml⟩;rw[zB,t1]
 rintro σ' H' ⟨v1,v2,v3,rfl,s4,L4⟩;rw[zFF,Tl.len,wH0] at L4;exact q l H' ds ((s1.trans bR).free hl) ((s1.trans bR).trans s4) D dl L4
def zGM {ws:Wys} {n i:Nat}:(tab n λh=>V.int (1000-zBr ws i h)).set (wg ws i) (.int (1000-zBr ws i (wg ws i)-wp ws i))=tab n λh=>V.int (1000-zBr ws (i+1) h):=by
 rw[zHq];refine zEc λh _=>?_;show _=V.int (1000-(zBr ws i h+if wg ws i=h then wp ws i else 0));by_cases c:h=wg ws i
 ·subst c;rw[wHF rfl,wHF rfl];congr 1;omega
 rw[wHD c,wHD (Ne.symm c)];congr 1;omega
inductive sp_kept (K:W.Frag) (vs:List V) (H:Hp) (Q:VK) (E:XK):Prop
 | mk (n:Nat) (r:Addr) (rs:List V) (ws:Wys):vs=[.int (n:Nat),.ref r]->(WyAt K H r rs ws/\(∀k,k < ws.length->wg ws k < n)/\n<=900/\
 ∀(d:Addr) (H':Hp),H d=none->zAi H H'->H' d=some (.lst (tab n λh=>V.int (keeps ws h)))->Q (.ref d) H')->sp_kept K vs H Q E
def zKz (T:Txt P w K mg t):FnOk P w K mg base CX0 40 t.wE2 t.wE3 ["count","ways"] (sp_kept K):=by
 refine T.wFg.ok zEj ⟨⟩ ();obtain⟨n,r,rs,ws,rfl,wa,wo,n9,q⟩:=h;refine⟨_,(zD (zAJ 2 zEj.nd (zP zMQ (zAd (zG zF zE zI)) (pv 0)))
  (zD (zAW PassesOwn.never rfl (zAh K (pv 1)) (zAE K (n:=3) rfl (zO (zN (i:=3) zEj.nd rfl (Or.inl rfl)) (zO (zN (i:=4) zEj.nd rfl (Or.inl rfl)) (zO (zN (i:=5) zEj.nd rfl (Or.inl rfl)) zAA)))) (zH (zKg (pv 2) (pv 3) zIz (pv 5) zMU zCQ)))
  (zH (zX (pv 2))))),?_⟩
 refine⟨szl,λl1 h1=>⟨_,rfl,l1,_,_,rfl,rfl,zB,by omega,by omega,?_,λd hd=>?_⟩⟩
 ·show 1*_<=sizeLine;exact small ∅
 have s0:=(zC h1 (.lst [V.int 1000])).trans (zC hd (.lst (List.replicate (n:Int).toNat [V.int 1000]).flatten));have cC:H d=none:=(zC h1 _).free hd;refine⟨_,rfl,r,rfl,⟨_,s0.seq wa.sq⟩,zAH (K:=K) (a:=r) (xs:=rs) (λi σ' H'=>∃u v w,σ'=[some (.int (n:Nat)),some (.ref r),some (.ref d),u,v,w]/\zAi H H'/\H' d=some (.lst (tab n λh=>V.int (1000-zBr ws i h))))
  ⟨_,_,_,rfl,s0,by rw[zB,zQv,wIs,zJ9];exact congrArg (λl=>some (HO.lst l)) (zEc λi _=>by show _=V.int (1000-0);rfl)⟩ (λi σ' H' _ ⟨_,_,_,_,sm,_⟩=>sm.seq wa.sq) ?_ ?_⟩
 ·rintro i x σ' H' hx ⟨u,v,w,rfl,sm,ed⟩;have hi:i < ws.length:=by rw[← wa.len];exact (wIL hx).1
  obtain⟨q',e1,e2⟩:=wa.at_ i hi;have ex:x=.ref q':=by rw[e1] at hx;exact (wHE hx).symm
  subst ex;refine⟨q',_,rfl,SqT.of (sm _ _ e2),rfl,_,_,rfl,_,_,rfl,_,_,rfl,rfl,?_⟩;refine⟨_,rfl,_,rfl,d,_,_,_,rfl,rfl,SqL.of ed,zD1 (wo i hi),_,rfl,_,_,rfl,rfl,d,_,_,_,rfl,rfl,ed,zDT (wo i hi),?_⟩;exact⟨_,_,_,rfl,zAk sm cC _,by rw[zB,zGM]⟩
 rintro σ' H' ⟨u,v,w,rfl,sm,ed⟩;rw[wa.len] at ed;exact⟨_,rfl,q d H' cC sm ed⟩
def zHs {n:Nat} {a b:Nat->Nat} {mk:Nat->Bool} {i:Nat} (h:zCk a b mk i (a i)=true):(tab n λj=>V.bl (zCk a b mk i j)).set (b i) (.bl true)=tab n λj=>V.bl (zCk a b mk (i+1) j):=by
 rw[zHq];refine zEc λj _=>?_;have e:zCk a b mk (i+1)=λj=>if j=b i then true else zCk a b mk i j:=by show (if _ then _ else _)=_;rw[wHF h]
 rw[e];by_cases c:j=b i
 ·simp[c]
 simp[c]
theorem zHt {n:Nat} {a b:Nat->Nat} {mk:Nat->Bool} {i:Nat} (h:¬zCk a b mk i (a i)=true):(tab n λj=>V.bl (zCk a b mk i j))=tab n λj=>V.bl (zCk a b mk (i+1) j):=by
 have e:zCk a b mk (i+1)=zCk a b mk i:=by show (if _ then _ else _)=_;rw[wHD h]
 rw[e]
inductive sp_spread (K:W.Frag) (vs:List V) (H:Hp) (Q:VK) (E:XK):Prop
 | mk (p r:Addr) (rs:List V) (n m:Nat) (a b:Nat->Nat) (mk:Nat->Bool):vs=[.ref p,.ref r]->(SqL K H p (tab n λj=>V.bl (mk j))/\PrAt K H r rs m a b/\(∀k,k < m->a k < n)/\(∀k,k < m->b k < n)/\n<=900/\
 ∀(d:Addr) (f:Nat->Bool) (H':Hp),H d=none->zAi H H'->H' d=some (.lst (tab n λj=>V.bl (f j)))->(∀j,f j=true↔Rch m a b mk j)->Q (.ref d) H')->sp_spread K vs H Q E
def zKx (T:Txt P w K mg t):FnOk P w K mg base CX0 40 t.wDM t.wDN ["marks","steps"] (sp_spread K):=by
 refine T.wFh.ok zCl ⟨⟩ ();obtain⟨p,r,rs,n,m,a,b,mk,rfl,hp,pr,ha,hb,n9,q⟩:=h;refine⟨_,(zD (zAJ 2 zCl.nd (zAt (zDf K) rfl T.wGv PyProof.Rows.boot_list (zG (pv 0) zE zA)))
  (zD (zAW PassesOwn.never rfl (zBu rfl T.wAN (zG (zU (zAo K) rfl T.wAp wH8 (zG (pv 0) zE zA)) zE zZ)) (zN (i:=3) zCl.nd rfl (Or.inl rfl)) (zH (zAW PassesOwn.never rfl (zAh K (pv 1)) (zAE K (n:=2) rfl (zO (zN (i:=4) zCl.nd rfl (Or.inl rfl)) (zO (zN (i:=5) zCl.nd rfl (Or.inl rfl)) zAA))) (zH (zAm (zAM (zA8 K (pv 2) (pv 4))) (zH (zG5 zHD (zKj (pv 2) (pv 5) zCQ))) zR)))))
  (zH (zX (pv 2))))),?_⟩
 refine⟨_,rfl,p,_,rfl,.inl hp,λd hd=>?_⟩;have s0:=zC hd (.lst (tab n λj=>V.bl (mk j)));have tl:(tab n λj=>V.bl (mk j)).length=n:=zBN;refine⟨_,rfl,p,_,rfl,.inl (s0.seq hp),_,rfl,by omega,by rw[tl];omega,zDc (n:=(((tab n λj=>V.bl (mk j)).length:Nat):Int).toNat) (λi σ' H'=>∃u v w,σ'=[some (.ref p),some (.ref r),some (.ref d),u,v,w]/\zAi H H'/\H' d=some (.lst (tab n λj=>V.bl (trn m a b mk i j))))
  ⟨_,_,_,rfl,s0,zB⟩ ?_ ?_⟩
 ·rintro i σ' H1 hi ⟨u,v,w,rfl,s1,ed1⟩;refine⟨_,rfl,r,rfl,⟨_,s1.seq pr.sq⟩,zAH (K:=K) (a:=r) (xs:=rs) (λj σ' H'=>∃v w,σ'=[some (.ref p),some (.ref r),some (.ref d),some (.int (0+(i:Int))),v,w]/\zAi H H'/\H' d=some (.lst (tab n λx=>V.bl (zCk a b (trn m a b mk i) j x))))
   ⟨_,_,rfl,s1,ed1⟩ (λj σ' H' _ ⟨_,_,_,sm,_⟩=>sm.seq pr.sq) ?_ ?_⟩
  ·rintro j x σ' H' hx ⟨v,w,rfl,sm,ed⟩;have hj:j < m:=by rw[← pr.len];exact (wIL hx).1
   obtain⟨q',e1,e2⟩:=pr.at_ j hj;have ex:x=.ref q':=by rw[e1] at hx;exact (wHE hx).symm
   subst ex;refine⟨q',_,rfl,SqT.of (sm _ _ e2),rfl,_,_,rfl,_,_,rfl,rfl,?_⟩;refine⟨_,rfl,_,rfl,d,_,_,_,rfl,rfl,SqL.of ed,zD1 (ha j hj),_,rfl,zBD (λc=>?_) (λc=>?_)⟩
   ·refine⟨_,rfl,_,rfl,d,_,_,_,rfl,rfl,ed,zDT (hb j hj),?_⟩;exact⟨_,_,rfl,zAk sm hd _,by rw[zB,zHs c]⟩
   exact⟨_,_,rfl,sm,by rw[ed,zHt c]⟩
  rintro σ' H' ⟨v,w,rfl,sm,ed⟩;rw[pr.len] at ed;exact⟨_,_,_,rfl,sm,ed⟩
 rintro σ' H' ⟨u,v,w,rfl,sm,ed⟩;rw[tl,wIs] at ed;exact⟨_,rfl,q d _ H' hd sm ed λj=>zNo ha hb⟩
inductive sp_shut_in (K:W.Frag) (vs:List V) (H:Hp) (Q:VK) (E:XK):Prop
 | mk (n:Nat) (r:Addr) (rs:List V) (ws:Wys):vs=[.int (n:Nat),.ref r]->(WyAt K H r rs ws/\WyOk n ws/\ws.length<=800/\n<=900/\
 ∀(d:Addr) (f:Nat->Bool) (H':Hp),H d=none->zAi H H'->H' d=some (.lst ((plc (λj=>!f j) n).map V.int))->(∀j,f j=true↔Rch ws.length (wt ws) (wg ws) (λj=>decide (0 < keeps ws j)) j)->Q (.ref d) H')->sp_shut_in K vs H Q E
def zIY (T:Txt P w K mg t):FnOk P w K mg base CX0 41 t.wC7 t.wC8 ["count","ways"] (sp_shut_in K):=by
 refine T.wEE.ok zDn ⟨⟩ ();obtain⟨n,r,rs,ws,rfl,wa,wo,wl,n9,q⟩:=h;refine⟨_,(zD (zHA ["rest"] [none] (by kernel_rfl) rfl (zAh K (cal (zKz T) hr T.wGa T.wFg T.wF9 (zY (pv 0) (pv 1) zE zA zA))) (λ_ _ _ _ _=>(zN (i:=0) ndB rfl (Or.inl rfl))) (λ_ _ _ _ _=>zAO) (λ_ _ _ _ _=>(zDs zKu (pv 0) zF (zAc _))) (zN (i:=2) zDn.nd rfl (Or.inl rfl)))
  (zD (zFj (i:=3) zDn.nd rfl (Or.inr rfl) (cal (zKx T) hr T.wGB T.wFh T.wGA (zY (pv 2) (zA4 ["giver","taker","part"] [none,none,none] (by kernel_rfl) rfl (zAh K (pv 1)) (λ_ _ _ _ _=>(zAE K (n:=3) rfl (zO (zN (i:=0) ndB rfl (Or.inl rfl)) (zO (zN (i:=1) ndB rfl (Or.inl rfl)) (zO (zN (i:=2) ndB rfl (Or.inl rfl)) zAA))))) (λ_ _ _ _ _=>zAO) (λ_ _ _ _ _=>(zAT (zY (pv 1) (pv 0) zE zA zA)))) zE zA zA3)))
  (zH (zX (zA4 ["place","free"] [none,some 3] (by kernel_rfl) rfl (zBu rfl T.wAN (zG (pv 0) zE zA)) (λ_ _ _ _ _=>(zN (i:=0) ndB rfl (Or.inl rfl))) (λ_ _ _ _ _=>(zCJ (zEs (zAM (zA8 K (pv 1) (pv 0)))))) (λ_ _ _ _ _=>(pv 0))))))),?_⟩
 refine⟨_,rfl,_,rfl,n,r,rs,ws,rfl,wa,wo.g,n9,λkp H0 hkp sk ek=>⟨kp,rfl,⟨_,SqL.of ek⟩,λc hc=>?_⟩⟩;refine zAz (K:=K) (ys:=tab n λh=>V.int (keeps ws h)) (λi σ' H'=>∃v,σ'=[v]/\H'=upd H0 c (.lst (tab i λj=>V.bl (decide (0 < keeps ws j))))) ⟨none,rfl,rfl⟩ (λj σ2 H2 _ ⟨_,_,e⟩=>by rw[e];exact SqL.of (zC hc _ _ _ ek)) ?_ ?_
 ·rintro i x σ' H' hx ⟨v,rfl,rfl⟩;obtain⟨hi,rfl⟩:=zIb hx;refine⟨_,rfl,_,_,rfl,rfl,_,zB,by rw[zBN];exact zBH ∅,_,rfl,?_⟩;rw[zBl,← zIc]
 rintro σ' H1 ⟨v,rfl,rfl⟩;rw[zBN];replace wa:=wa.mono sk;have s1:=zC hc (.lst (tab n λj=>V.bl (decide (0 < keeps ws j))));have jY:=wa.mono s1;refine⟨_,rfl,_,rfl,r,rfl,⟨_,jY.sq⟩,λe he=>?_⟩;refine zAz (K:=K) (ys:=rs) (λj σ2 H2=>∃(u0 u1 u2:Option V) (ps:List V),σ2=[u0,u1,u2]/\zAi (upd H0 c (.lst (tab n λj=>V.bl (decide (0 < keeps ws j))))) H2/\H2 e=some (.lst ps)/\PrAt K H2 e ps j (wt ws) (wg ws))
  ⟨none,none,none,[],rfl,zC he _,zB,⟨SqL.of zB,rfl,λk hk=>absurd hk (wIy _)⟩⟩ (λj σ2 H2 _ ⟨_,_,_,_,_,sm,_⟩=>sm.seq jY.sq) ?_ ?_
 ·rintro j x σ2 H2 hx ⟨u0,u1,u2,ps,rfl,sm,ee,pr⟩;have hj:j < ws.length:=by rw[← wa.len];exact (wIL hx).1
  obtain⟨q',e1,e2⟩:=jY.at_ j hj;have ex:x=.ref q':=by rw[e1] at hx;exact (wHE hx).symm
  subst ex;refine⟨q',_,rfl,SqT.of (sm _ _ e2),rfl,_,_,rfl,_,_,rfl,_,_,rfl,rfl,?_⟩;refine zDh ⟨_,rfl,_,rfl,zAp,λtq l8=>?_⟩;have nq:e≠tq:=zM ee l8;refine⟨_,by rw[zJ nq];exact ee,by rw[pr.len];exact zBH ∅,_,_,_,ps++[.ref tq],rfl,zAk (sm.trans (zC l8 _)) he _,zB,pr.snoc (λb xs hb=>?_) zB (by rw[zJ (Ne.symm nq)];exact zB)⟩;rw[zJ (zFS hb ee (by intro z;cases z))];exact zC l8 _ _ _ hb
 rintro σ2 H2 ⟨u0,u1,u2,ps,rfl,s2,ee,pr⟩;rw[wa.len] at pr;refine⟨c,e,ps,n,ws.length,wt ws,wg ws,_,rfl,s2.seq (SqL.of zB),pr,wo.t,wo.g,n9,λd f H3 hd s3 ed hf=>?_⟩;refine⟨_,rfl,(n:Nat),rfl,by omega,by omega,λg hg=>?_⟩;refine zD0 (n:=((n:Nat):Int).toNat) (λi σ' H'=>∃v,σ'=[v,some (.ref d)]/\H'=upd H3 g (.lst ((plc (λj=>!f j) i).map V.int))) ⟨none,rfl,rfl⟩ ?_ ?_
 ·rintro i σ' H' hi ⟨v,rfl,rfl⟩;have pl:=zCI (λj=>!f j) i;refine⟨_,rfl,_,rfl,d,_,_,_,rfl,rfl,SqL.of (zC hg _ _ _ ed),zIA ∅ ∅,_,rfl,zBD (λc1=>?_) (λc1=>?_)⟩
  ·rw[show (0+(i:Int)).toNat=i by omega] at c1;refine⟨_,rfl,_,zB,by rw[wHt];exact zBH ∅,_,rfl,?_⟩;rw[zBl,show plc (λj=>!f j) (i+1)=plc (λj=>!f j) i++[(i:Int)] by show (if _ then _ else _)=_;rw[wHF c1],show (0+(i:Int))=i by omega,zBO]
  rw[show (0+(i:Int)).toNat=i by omega] at c1;exact⟨_,rfl,by rw[show plc (λj=>!f j) (i+1)=plc (λj=>!f j) i by show (if _ then _ else _)=_;rw[wHD c1]]⟩
 rintro σ' H' ⟨v,rfl,rfl⟩;rw[wIs];have sa:=((sk.trans s1).trans s2).trans s3;exact q g f _ (sa.free hg) (sa.trans (zC hg _)) zB hf
def zQe (ns:List Str) (p:Pct):Nat × Nat × Int:=(ns.idxOf p.1,ns.idxOf p.2.1,p.2.2.1)
def zBq (ns:List Str) (ps:List Pct) (d:Int):Wys:=(ps.filter (zBG d)).map (zQe ns)
structure PsOk (ns:List Str) (ps:List Pct):Prop where
 inn:∀p∈ps,p.1∈ns/\p.2.1∈ns
 ne:∀p∈ps,p.1≠p.2.1
 pt:∀p∈ps,1<=p.2.2.1/\p.2.2.1<=1000
 sp:∀p∈ps,0<=p.2.2.2.1/\p.2.2.2.1<=p.2.2.2.2/\p.2.2.2.2<=5000
def PsOk.span {ns:List Str} {ps:List Pct} (h:PsOk ns ps):zNg (ps.map zLA):=λk hk=>by rw[wHt] at hk;have hp:ps[k]?=some ps[k]:=wHv hk;obtain⟨l1,l2⟩:=zMp hp;rw[l1,l2];exact h.sp _ (wHZ hk)
def zO5 {K:W.Frag} {H:Hp} {w:Addr} {ns:List Str} {ps:List Pct} {d:Int} (h:zAf H w ((ps.filter (zBG d)).map (zLv ns))):∃rs,WyAt K H w rs (zBq ns ps d):=by
 obtain⟨q,h1,h2,h3⟩:=h;rw[wHt] at h2;refine⟨q.map V.ref,SqL.of h1,by unfold zBq;rw[wHt,wHt,h2],λk hk=>?_⟩;unfold zBq at hk;rw[wHt] at hk;have e1:q[k]?=some (q[k]' ∅):=wHv _;have e2:(ps.filter (zBG d))[k]?=some ((ps.filter (zBG d))[k]):=wHv hk;refine⟨_,by rw[wHB,e1];rfl,?_⟩;have e3:(zBq ns ps d).getD k (0,0,0)=zQe ns ((ps.filter (zBG d))[k]):=by unfold zBq;rw[wHw,wHB,e2];rfl
 have:=h3 k _ _ e1 (by rw[wHB,e2];rfl);unfold wg wt wp;rw[e3];exact this
def zL1 (ns:List Str) (ps:List Pct) (d:Int) {k:Nat} (h:k < (zBq ns ps d).length):∃p∈ps,(zBq ns ps d).getD k (0,0,0)=zQe ns p:=by unfold zBq at h ⊢;rw[wHt] at h;refine⟨(ps.filter (zBG d))[k],(List.mem_filter.mp (wHZ h)).1,?_⟩;rw[wHw,wHB,wHv h];rfl
def zOh {ns:List Str} {a b:Str} (ha:a∈ns) (hb:b∈ns) (e:ns.idxOf a=ns.idxOf b):a=b:=by
 have h1:=List.getElem_idxOf (List.idxOf_lt_length_iff.mpr ha);have h2:=List.getElem_idxOf (List.idxOf_lt_length_iff.mpr hb);rw[← h1,← h2]
 congr 1
def PsOk.g {ns:List Str} {ps:List Pct} (h:PsOk ns ps) (d:Int):∀k,k < (zBq ns ps d).length->wg (zBq ns ps d) k < ns.length:=λk hk=>by obtain⟨p,hp,e⟩:=zL1 ns ps d hk;unfold wg;rw[e];exact List.idxOf_lt_length_iff.mpr (h.inn p hp).1
def PsOk.wy {ns:List Str} {ps:List Pct} (h:PsOk ns ps) {d:Int} (o:∀x,zBr (zBq ns ps d) (zBq ns ps d).length x<=1000):WyOk ns.length (zBq ns ps d):=by
 refine⟨h.g d,λk hk=>?_,λk hk=>?_,λk hk=>?_,o⟩
 ·obtain⟨p,hp,e⟩:=zL1 ns ps d hk;unfold wt;rw[e];exact List.idxOf_lt_length_iff.mpr (h.inn p hp).2
 ·obtain⟨p,hp,e⟩:=zL1 ns ps d hk;unfold wg wt;rw[e];exact λz=>h.ne p hp (zOh (h.inn p hp).1 (h.inn p hp).2 z)
 obtain⟨p,hp,e⟩:=zL1 ns ps d hk;unfold wp;rw[e];exact h.pt p hp
def Days.cover {sps:Sps} {ds:List Int} (D:Days sps ds) {d:Int} (h0:0<=d) (h1:d<=5000):∃i,i < ds.length/\ds.getD i 0<=d/\d < nxt ds i:=by
 have pos:=D.pos;have key:∀n,1<=n->n<=ds.length->∃i,i < n/\ds.getD i 0<=d/\∀j,i < j->j < n->d < ds.getD j 0:=by
  intro n hn
  induction n with
  | zero=>omega
  | succ n ih=>
   intro hl;by_cases c:n=0
   ·subst c;refine⟨0,by omega,?_,λj h1 h2=>by omega⟩;rw[wHw,D.zero];exact h0
   by_cases e:ds.getD n 0<=d
   ·exact⟨n,by omega,e,λj h1 h2=>by omega⟩
   obtain⟨i,a,b,g⟩:=ih ∅ ∅;refine⟨i,by omega,b,λj h1 h2=>?_⟩;by_cases z:j=n
   ·subst z;omega
   exact g j h1 ∅
 obtain⟨i,a,b,g⟩:=key ds.length ∅ (wHA _);refine⟨i,a,b,?_⟩;by_cases c:i+1 < ds.length
 ·rw[zIr c];exact g (i+1) ∅ c
 rw[zHJ c];omega
def zHI {ps:List Pct} {ds:List Int} (so:zNg (ps.map zLA)) (D:Days (ps.map zLA) ds) {i:Nat} {d:Int} (hi:i < ds.length) (h1:ds.getD i 0<=d) (h2:d < nxt ds i):ps.filter (zBG d)=ps.filter (zBG (ds.getD i 0)):=by
 refine List.filter_congr λp hp=>?_;obtain⟨k,hk,e⟩:=List.getElem_of_mem hp;have iE:ps[k]?=some p:=by rw[wHv hk,e]
 obtain⟨l1,l2⟩:=zMp iE;have W:=λa b=>Days.whole so D hi (k:=k) (by rw[wHt];exact hk) a b;rw[l1,l2] at W;have up:=D.up hi;unfold zBG;rw[Bool.eq_iff_iff,wHR,wHR,decide_eq_true_eq,decide_eq_true_eq,decide_eq_true_eq,decide_eq_true_eq];constructor
 ·rintro⟨a,b⟩;have:=W ∅ ∅;omega
 rintro⟨a,b⟩;have:=W ∅ ∅;omega
open Classical in
noncomputable def zLC (ns:List Str) (ps:List Pct) (d:Int):Nat->Bool:=λj=>decide (¬Rch (zBq ns ps d).length (wt (zBq ns ps d)) (wg (zBq ns ps d)) (λj=>decide (0 < keeps (zBq ns ps d) j)) j)
open Classical in
theorem zGv {ns:List Str} {ps:List Pct} {d:Int} {j:Nat}:zLC ns ps d j=true↔¬Rch (zBq ns ps d).length (wt (zBq ns ps d)) (wg (zBq ns ps d)) (λj=>decide (0 < keeps (zBq ns ps d) j)) j:=by unfold zLC;exact decide_eq_true_iff
noncomputable def zAZ (ns:List Str) (ps:List Pct) (d:Int):List Int:=plc (zLC ns ps d) ns.length
def zEf {ns:List Str} {ps:List Pct} {d e:Int} (h:ps.filter (zBG d)=ps.filter (zBG e)):zAZ ns ps d=zAZ ns ps e/\zBq ns ps d=zBq ns ps e:=by
 have w:zBq ns ps d=zBq ns ps e:=by unfold zBq;rw[h]
 refine⟨?_,w⟩;unfold zAZ zLC;rw[w]
inductive sp_whom_shut (K:W.Frag) (t:Adr) (vs:List V) (H:Hp) (Q:VK) (E:XK):Prop
 | mk (nl pl nw:Addr) (ns:List Str) (ps:List Pct) (new:Pct):vs=[.ref nl,.ref pl,.ref nw]->(SqL K H nl (ns.map V.str)/\ns.length<=15/\zAf H pl (ps.map Pct.vs)/\ps.length<=25/\H nw=some (.tup new.vs)/\zBL new.1/\PsOk ns (ps++[new])/\
 (∀d x,x≠ns.idxOf new.1->zBr (zBq ns (ps++[new]) d) (zBq ns (ps++[new]) d).length x<=1000)/\
 ((∃d,0<=d/\d<=5000/\1000 < zBr (zBq ns (ps++[new]) d) (zBq ns (ps++[new]) d).length (ns.idxOf new.1))->∀H',zAi H H'->E (.ref t.wAh) none H')/\
 ((∀d,0<=d->d<=5000->zBr (zBq ns (ps++[new]) d) (zBq ns (ps++[new]) d).length (ns.idxOf new.1)<=1000)->
  ((∀d,0<=d->d<=5000->zAZ ns (ps++[new]) d=[])->∀H',zAi H H'->Q .non H')/\
  ∀d0,0<=d0->d0<=5000->zAZ ns (ps++[new]) d0≠[]->(∀d,0<=d->d < d0->zAZ ns (ps++[new]) d=[])->∀H' p m,zAi H H'->H p=none->H m=none->H' p=some (.tup [.int d0,.ref m])->H' m=some (.lst ((zAZ ns (ps++[new]) d0).map λj=>V.str (ns.getD j.toNat Str.empty)))->Q (.ref p) H'))->sp_whom_shut K t vs H Q E
def zGB (T:Txt P w K mg t):FnOk P w K mg base (CXx P w) 43 t.wBT t.wBU ["names","pacts","new"] (sp_whom_shut K t):=by
 refine T.wDI.okX zA2 ⟨⟩ ();obtain⟨nl,pl,nw,ns,ps,new,rfl,hN,n15,hP,hz,bN,sn,ok,oth,kB,q⟩:=h;refine⟨_,(zD (zAJ 3 zA2.nd (cal (zLZ T) hr T.wGO T.wFR T.wGN (zY (pv 0) (zP zD7 (pv 1) (zAd (zG (pv 2) zE zA))) zE zA zV)))
  (zD (zAJ 4 zA2.nd (zAB ((zCd T).mono ⋯) hr rfl T.wBc T.wAF.kp T.wBb .nil zB7 (zY (pv 0) (zDL K (pv 2) zF) zE zA zL)))
  (zD (zAW PassesOwn.leaving rfl (zAh K (pv 3)) (zAE K (n:=2) rfl (zO (zN (i:=5) zA2.nd rfl (Or.inl rfl)) (zO (zN (i:=6) zA2.nd rfl (Or.inl rfl)) zAA))) (zH (zAm (zS zDH (zA8 K (cal (zKz T) hr T.wGa T.wFg T.wF9 (zY (zU (zAo K) rfl T.wAp wH8 (zG (pv 0) zE zA)) (pv 6) zE zZ zA)) (pv 4)) zF (zAc _)) (zH (zA0 T.wGp rfl T.wEI (zAy (zAX (zCv (pv 5) zB1))))) zR)))
  (zD (zAW PassesOwn.leaving rfl (zAh K (pv 3)) (zAE K (n:=2) rfl (zO (zN (i:=5) zA2.nd rfl (Or.inl rfl)) (zO (zN (i:=6) zA2.nd rfl (Or.inl rfl)) zAA))) (zD (zAJ 7 zA2.nd (cal (zIY T) hr T.wGc T.wEE T.wGb (zY (zU (zAo K) rfl T.wAp wH8 (zG (pv 0) zE zA)) (pv 6) zE zZ zA)))
  (zH (zAm (zIi (pv 7) (λ_=>rfl)) (zH (zX (zAT (zY (pv 5) (zA4 ["place","names"] [none,some 0] (by kernel_rfl) rfl (zAh K (pv 7)) (λ_ _ _ _ _=>(zN (i:=0) ndB rfl (Or.inl rfl))) (λ_ _ _ _ _=>zAO) (λ_ _ _ _ _=>(zA8 K (pv 1) (pv 0)))) zE zA zA3)))) zR))))
  (zH (zX zMO)))))),?_⟩
 obtain⟨aU,cV⟩:∃x,x=ps++[new]:=⟨_,rfl⟩;have mgi:new.1∈ns:=(ok.inn new (by simp)).1;have hgi:ns.idxOf new.1 < ns.length:=List.idxOf_lt_length_iff.mpr mgi;obtain⟨pq,p1,p2,p3⟩:=id hP;rw[wHt] at p2;refine⟨_,rfl,_,rfl,_,rfl,szl,λc hc=>?_⟩;have s1:=zC hc (.lst [V.ref nw]);refine⟨pl,c,_,_,rfl,rfl,s1 _ _ p1,zB,by rw[wHt];exact small (by show _+1<=_;omega),λpn hpn=>?_⟩;have s2:=s1.trans (zC hpn (.lst (pq.map V.ref++[V.ref nw])));have TN:zAf (upd (upd H c (.lst [V.ref nw])) pn (.lst (pq.map V.ref++[V.ref nw]))) pn (aU.map Pct.vs):=by
  refine⟨pq++[nw],by rw[zB,wHC];rfl,by rw[cV,wHt,wHy,wHy,p2];rfl,λi a ys e1 e2=>?_⟩;rw[cV,wHC] at e2;by_cases cc:i < pq.length
  ·rw[wHJ cc] at e1;rw[wHJ (by rw[wHt];omega)] at e2;exact s2 _ _ (p3 i a ys e1 e2)
  rw[wHK ∅] at e1;rw[wHK (by rw[wHt];omega)] at e2;have z:i-pq.length=0:=by have:=(wIL e1).1;rw[wIl] at this;omega
  have z2:i-(ps.map Pct.vs).length=0:=by rw[wHt];omega
  rw[z] at e1;rw[z2] at e2;cases e1;cases e2;exact s2 _ _ bN
 rw[← cV] at ok oth kB q;have kU:aU.length<=30:=by rw[cV,wHy];show _+1<=_;omega
 refine⟨nl,pn,ns,aU,rfl,s2.seq hN,TN,kU,ok.inn,ok.span,λdy H3 ds hdy hW D dl L3=>?_⟩;have s3:=s2.trans hW;have iO:=s3.seq hN;refine⟨_,rfl,_,rfl,nw,_,0,_,rfl,rfl,SqT.of (s3 _ _ bN),zBE ⋯ rfl,nl,ns,new.1,rfl,iO,sn,λ_=>?_,λz=>absurd mgi z⟩;obtain⟨lq,l1,l2,l3⟩:=L3;have nD:∀i,i < ds.length->ds[i]?=some (ds.getD i 0):=λi hi=>by rw[wHw,wHv hi];rfl
 have fB:∀i,i < ds.length->0<=ds.getD i 0/\ds.getD i 0<=5000:=λi hi=>D.bd _ (wIe (nD i hi));have d60:∀i,i < ds.length->(ds.getD i 0).natAbs < 10 ^ 60:=λi hi=>by
  have:=fB i hi;have z:(5000:Nat) < 10 ^ 60:=by decide
  omega
 generalize hg:ns.idxOf new.1=gi at hgi kB q oth;refine⟨_,rfl,dy,rfl,⟨_,SqL.of l1⟩,zAH (xs:=lq.map λx=>V.ref x.1) (λi σ' H'=>∃(v5 v6:Option V),σ'=[some (.ref nl),some (.ref pl),some (.ref nw),some (.ref dy),some (.int (gi:Nat)),v5,v6,none]/\zAi H3 H'/\∀j,j < i->zBr (zBq ns aU (ds.getD j 0)) (zBq ns aU (ds.getD j 0)).length gi<=1000)
  ⟨none,none,by rw[← hg];rfl,zAi.refl _,λj hj=>absurd hj (wIy _)⟩ (λi σ' H' _ ⟨_,_,_,s',_⟩=>SqL.of (s' _ _ l1)) ?_ ?_⟩
 ·rintro i x σ' H4 hx ⟨v5,v6,rfl,s4,le⟩;rw[wHB] at hx;obtain⟨⟨a,w'⟩,ha,rfl⟩:=wIN hx;have hi:i < ds.length:=by rw[← l2];exact (wIL ha).1
  obtain⟨b1,b2,_⟩:=l3 i a w' _ ha (nD i hi);refine⟨a,_,rfl,SqT.of (s4 _ _ b1),rfl,_,_,rfl,_,_,rfl,rfl,?_⟩;obtain⟨rs,wa⟩:=zO5 (K:=K) (b2.same s4);refine⟨_,rfl,nl,_,rfl,.inl (s4.seq iO),_,rfl,ns.length,w',rs,_,by rw[wHt];rfl,wa,ok.g _,by omega,λkd H5 hkd s5 ek=>?_⟩;refine⟨_,rfl,kd,_,_,_,rfl,rfl,SqL.of ek,zD1 hgi,_,_,rfl,rfl,_,rfl,?_⟩;refine zBD (λcc=>?_) (λcc=>?_)
  ·have c':keeps (zBq ns aU (ds.getD i 0)) gi < 0:=wHP cc;have l5:=zA5 (d60 i hi);refine⟨by bv_omega,_,rfl,_,⟨zFr (d60 i hi),rfl⟩,by bv_omega,by bv_omega,?_⟩;exact kB ⟨ds.getD i 0,(fB i hi).1,(fB i hi).2,by unfold keeps at c';omega⟩ _ (s3.trans (s4.trans s5))
  have c':¬keeps (zBq ns aU (ds.getD i 0)) gi < 0:=wH9 (wIO cc);refine⟨_,_,rfl,s4.trans s5,λj hj=>?_⟩;by_cases z:j=i
  ·rw[z];unfold keeps at c';omega
  exact le j ∅
 rintro σ' H4 ⟨v5,v6,rfl,s4,le⟩;rw[wHt,l2] at le;have eZ:∀d,0<=d->d<=5000->zBr (zBq ns aU d) (zBq ns aU d).length gi<=1000:=λd h0 h1=>by obtain⟨i,a,b,g⟩:=D.cover h0 h1;have e:=(zEf (ns:=ns) (zHI ok.span D a b g)).2;rw[e];exact le i a
 have wyk:∀i,i < ds.length->WyOk ns.length (zBq ns aU (ds.getD i 0)):=λi hi=>ok.wy λx=>by
  by_cases z:x=gi
  ·rw[z];exact le i hi
  exact oth _ x z
 obtain⟨qN,qS⟩:=q eZ;have wl:∀d,(zBq ns aU d).length<=800:=λd=>by unfold zBq;rw[wHt];exact wHI (wIE _ _) ∅
 refine⟨_,rfl,dy,rfl,⟨_,SqL.of (s4 _ _ l1)⟩,zAH (xs:=lq.map λx=>V.ref x.1) (λi σ' H'=>∃(v5 v6 v7:Option V),σ'=[some (.ref nl),some (.ref pl),some (.ref nw),some (.ref dy),some (.int (gi:Nat)),v5,v6,v7]/\zAi H3 H'/\∀j,j < i->zAZ ns aU (ds.getD j 0)=[])
  ⟨v5,v6,none,rfl,s4,λj hj=>absurd hj (wIy _)⟩ (λi σ' H' _ ⟨_,_,_,_,s',_⟩=>SqL.of (s' _ _ l1)) ?_ ?_⟩
 ·rintro i x σ' H5 hx ⟨v5,v6,v7,rfl,s5,em⟩;rw[wHB] at hx;obtain⟨⟨a,w'⟩,ha,rfl⟩:=wIN hx;have hi:i < ds.length:=by rw[← l2];exact (wIL ha).1
  obtain⟨b1,b2,_⟩:=l3 i a w' _ ha (nD i hi);refine⟨a,_,rfl,SqT.of (s5 _ _ b1),rfl,_,_,rfl,_,_,rfl,rfl,?_⟩;obtain⟨rs,wa⟩:=zO5 (K:=K) (b2.same s5);refine⟨_,rfl,nl,_,rfl,.inl (s5.seq iO),_,rfl,ns.length,w',rs,_,by rw[wHt];rfl,wa,wyk i hi,wl _,by omega,λfd f H6 hfd s6 ef hf=>?_⟩;have esh:plc (λj=>!f j) ns.length=zAZ ns aU (ds.getD i 0):=by unfold zAZ;refine zG7 λj _=>?_;rw[zGv,← hf j];cases f j<;>simp
  rw[esh] at ef;have fJ:=s5.trans s6;refine⟨_,rfl,_,.inl ⟨_,SqL.of ef,rfl⟩,?_⟩;by_cases z:zAZ ns aU (ds.getD i 0)=[]
  ·rw[z];refine zBC ?_;refine⟨_,_,_,rfl,fJ,λj hj=>?_⟩;by_cases y:j=i
   ·rw[y];exact z
   exact em j ∅
  have nz:(!((zAZ ns aU (ds.getD i 0)).map V.int).isEmpty)=true:=by
   cases e:zAZ ns aU (ds.getD i 0) with
   | nil=>exact absurd e z
   | cons a r=>rfl
  rw[nz];refine zDh ?_;refine⟨_,rfl,_,rfl,fd,rfl,⟨_,SqL.of ef⟩,λm hm=>?_⟩;have inr:∀j∈zAZ ns aU (ds.getD i 0),∃k:Nat,k < ns.length/\j=(k:Int):=λj hj=>by obtain⟨k,hk,_,e⟩:=zCf.mp hj;exact⟨k,hk,e⟩
  have lsh:(zAZ ns aU (ds.getD i 0)).length<=15:=wHI (zCI _ _) n15;refine zAz (ys:=(zAZ ns aU (ds.getD i 0)).map V.int) (λj σ' H'=>∃(v:Option V),σ'=[v,some (.ref nl)]/\zAi H6 H'/\H' m=some (.lst (((zAZ ns aU (ds.getD i 0)).take j).map λj=>V.str (ns.getD j.toNat Str.empty)))) ⟨none,rfl,zC hm _,zB⟩ ?_ ?_ ?_
  ·rintro j σ' H' hj ⟨v,rfl,s7,em7⟩;exact SqL.of (s7 _ _ ef)
  ·rintro j x σ' H' hx ⟨v,rfl,s7,em7⟩;rw[wHB] at hx;obtain⟨y,hy,rfl⟩:=wIN hx;obtain⟨k,hk,ey⟩:=inr y (wIe hy);have ek:ns[k]?=some (ns.getD k Str.empty):=by rw[wHw,wHv hk];rfl
   refine⟨_,rfl,_,rfl,nl,_,_,.str (ns.getD k Str.empty),rfl,rfl,(fJ.trans s7).seq iO,by rw[ey];exact zCy (by rw[wHB,ek];rfl),_,em7,by rw[wHt,wHS];exact zAa ∅,_,rfl,zAk s7 hm _,?_⟩;rw[zB,wId,hy,ey];simp only[Option.toList_some,wHC,wH6,List.map_nil,wIs]
  rintro σ' H7 ⟨v,rfl,s7,em7⟩;rw[wHt,wH0] at em7;refine⟨zAp,λp hp=>?_⟩;have s8:=zC hp (.tup [V.int (ds.getD i 0),V.ref m]);have sA:=(s3.trans fJ).trans (s7.trans s8);refine qS (ds.getD i 0) (fB i hi).1 (fB i hi).2 z (λd h0 h1=>?_) _ p m sA (((s3.trans fJ).trans s7).free hp) ((s3.trans fJ).free hm) zB (s8 _ _ em7);obtain⟨i',a',b',g'⟩:=D.cover h0 (by have:=(fB i hi).2;omega);have e:=(zEf (ns:=ns) (zHI ok.span D a' b' g')).1;rw[e];refine em i' ?_;by_cases y:i' < i
  ·exact y
  by_cases y2:i'=i
  ·rw[y2] at b';omega
  have:=D.lt (i:=i) (j:=i') ∅ a';omega
 rintro σ' H5 ⟨v5,v6,v7,rfl,s5,em⟩;rw[wHt,l2] at em;refine qN (λd h0 h1=>?_) H5 (s3.trans s5);obtain⟨i,a,b,g⟩:=D.cover h0 h1;rw[(zEf (ns:=ns) (zHI ok.span D a b g)).1];exact em i a
inductive sp_ShutIn_UinitU (C:Addr) (vs:List V) (H:Hp) (Q:VK) (E:XK):Prop
 | mk (e p:Addr) (ys:List V) (d:Int):vs=[.ref e,.int d,.ref p]->(H e=some (zCM e (.ref C) none)/\H p=some (.lst ys)/\ys.length<=1000/\d.natAbs < 10 ^ 60/\
 ∀dx l,H dx=none->dx≠e->upd (upd H e (zCM e (.ref C) (some dx))) dx (XdN dx [("day",.int d)]) l=none->
  Q .non (upd (upd (upd (upd H e (zCM e (.ref C) (some dx))) dx (XdN dx [("day",.int d)])) l (.lst ys)) dx (XdN dx [("names",.ref l),("day",.int d)])))->sp_ShutIn_UinitU C vs H Q E
def zDJ (T:Txt P w K mg t):FnOk P w K mg base CX0 40 t.wAr t.wAC ["self","day","names"] (sp_ShutIn_UinitU t.wAf):=by
 refine T.wD3.ok zDF ⟨⟩ ();obtain⟨e,p,ys,d,rfl,he,hp,lz,d1,q⟩:=h;refine⟨_,(zD (zAe (zLV T.wFO rfl T.wDK (zY (pv 0) (zAy (zAX (zCv (pv 1) zB1))) zE zA zEL)))
  (zD (zPc (pv 0) (pv 1) rfl)
  (zH (zPc (pv 0) (zAt (zDf K) rfl T.wGv PyProof.Rows.boot_list (zG (pv 2) zE zA)) rfl)))),?_⟩
 have ed:∀dx,dx≠e->(upd (upd H e (zCM e (.ref t.wAf) (some dx))) dx (XdN dx [("day",.int d)])) e=some (zCM e (.ref t.wAf) (some dx)):=λdx h=>by rw[zJ (Ne.symm h),zB]
 have l1:=zA5 d1;refine⟨_,rfl,?_⟩;refine⟨by bv_omega,_,rfl,_,⟨zFr d1,rfl⟩,by bv_omega,by bv_omega,e,t.wAf,none,_,rfl,he,T.wFt.ex,?_⟩;refine⟨_,rfl,_,rfl,e,t.wAf,rfl,T.wAG,.inl ⟨he,λdx dC aH=>?_⟩⟩;have pe:p≠e:=λz=>by rw[z,he] at hp;cases hp
 have pd:p≠dx:=λz=>by rw[z,dC] at hp;cases hp
 have iF:(upd (upd H e (zCM e (.ref t.wAf) (some dx))) dx (XdN dx [("day",.int d)])) p=some (.lst ys):=by rw[zJ pd,zJ pe];exact hp
 refine⟨_,rfl,p,ys,rfl,.inl (SqL.of iF),λl hl=>?_⟩;have ne:e≠l:=λz=>by rw[← z,ed dx aH] at hl;cases hl
 have nd:dx≠l:=λz=>by rw[← z,zB] at hl;cases hl
 refine⟨_,rfl,e,t.wAf,rfl,T.wCg,.inr ⟨dx,[("day",.int d)],?_,?_,?_,?_⟩⟩
 ·rw[zJ ne];exact ed dx aH
 ·rw[zJ nd,zB]
 ·show 1<=1000
  decide
 exact q dx l dC aH hl
structure NewOk (ns:List Str) (ps:List Pct) (new:Pct):Prop where
 ok:PsOk ns (ps++[new])
 oth:∀d x,x≠ns.idxOf new.1->zBr (zBq ns (ps++[new]) d) (zBq ns (ps++[new]) d).length x<=1000
def zJq (ns:List Str) (ps:List Pct) (new:Pct):Prop:=∃d,0<=d/\d<=5000/\1000 < zBr (zBq ns (ps++[new]) d) (zBq ns (ps++[new]) d).length (ns.idxOf new.1)
def zHl (ns:List Str) (ps:List Pct):Prop:=∀d,0<=d->d<=5000->zAZ ns ps d=[]
theorem zJI {ns:List Str} {ps:List Pct} {d:Int}:(zAZ ns ps d).length<=ns.length:=by unfold zAZ;exact zCI _ _
def zEK (ns:List Str) (ps:List Pct) (d0:Int):Prop:=0<=d0/\d0<=5000/\zAZ ns ps d0≠[]/\∀d,0<=d->d < d0->zAZ ns ps d=[]
noncomputable def zJH (ns:List Str) (ps:List Pct) (d0:Int):List V:=(zAZ ns ps d0).map λj=>V.str (ns.getD j.toNat Str.empty)
def zLs (H0 H:Hp) (dx:Addr) (d0:Int) (xs:List V):Prop:=∃l,H0 l=none/\H dx=some (.xd [("names",.ref l),("day",.int d0)])/\H l=some (.lst xs)
def zLs.back {H1 H2 H3:Hp} {dx:Addr} {d0:Int} {xs:List V} (h:zLs H2 H3 dx d0 xs) (s:zAi H1 H2):zLs H1 H3 dx d0 xs:=let ⟨l,a,b,c⟩:=h;⟨l,s.free a,b,c⟩
inductive sp_Book_check_new (K:W.Frag) (t:Adr) (vs:List V) (H:Hp) (Q:VK) (E:XK):Prop
 | mk (b tl nw:Addr) (ds:List Deed) (new:Pct):vs=[.ref b,.ref nw]->(zAs H t.wAj b tl ds/\ds.length<=900/\(zQ ds).length<=15/\(zAb ds).length<=25/\H nw=some (.tup new.vs)/\zBL new.1/\NewOk (zQ ds) (zAb ds) new/\
 (zJq (zQ ds) (zAb ds) new->∀H',zAi H H'->E (.ref t.wAh) none H')/\
 (∀d0,¬zJq (zQ ds) (zAb ds) new->zEK (zQ ds) (zAb ds++[new]) d0->∀H' dx,zAi H H'->zLs H H' dx d0 (zJH (zQ ds) (zAb ds++[new]) d0)->E (.ref t.wAf) (some dx) H')/\
 (¬zJq (zQ ds) (zAb ds) new->zHl (zQ ds) (zAb ds++[new])->80<=(zAb ds).length->∀H',zAi H H'->E (.ref t.wAk) none H')/\
 (¬zJq (zQ ds) (zAb ds) new->zHl (zQ ds) (zAb ds++[new])->(zAb ds).length < 80->∀H',zAi H H'->Q .non H'))->sp_Book_check_new K t vs H Q E
def zDv (T:Txt P w K mg t):FnOk P w K mg base (CXx P w) 44 t.wAA t.wAB ["self","new"] (sp_Book_check_new K t):=by
 refine T.wDT.okX zBF ⟨⟩ ();obtain⟨b,tl,nw,ds,new,rfl,hB,hz,n15,hX,bN,sn,ok,qT,qS,qF,qN⟩:=h;refine⟨_,(zD (zAJ 2 zBF.nd (zAB ((zGB T).mono ⋯) hr rfl T.wFF T.wDI.kp T.wFE .nil zB7 (zAq (zBd (pv 0) T.wAl T.wAw ((zBe T).mono ⋯) hr T.wAv .nil zCW) (zBd (pv 0) T.wAl T.wDg ((zCX T).mono ⋯) hr T.wDf .nil zCW) (pv 1) zE zZ zZ zA)))
  (zD (zAm (zS zNN (pv 2) zMO (zAc _)) (zH (zKf T.wFt ((zDJ T).mono ⋯) hr T.wD4 rfl T.wFr (zY (zDL K (pv 2) zF) (zDL K (pv 2) zF) zE zL zL))) zR)
  (zH (zAm (zS zNP (zU (zAo K) rfl T.wAp wH8 (zG (zBd (pv 0) T.wAl T.wDg ((zCX T).mono ⋯) hr T.wDf .nil zCW) zE zZ)) (zAn (v:=.int 80) rfl T.wDu.choose_spec ⟨_,rfl⟩) (zAc _)) (zH (zA0 T.wFw rfl T.wEa (zAy (zCv (zAn (v:=.int 80) rfl T.wDu.choose_spec ⟨_,rfl⟩) (zAX zB1))))) zR)))),?_⟩
 obtain⟨dx,qs,hb,ht,hq,hd⟩:=id hB;refine⟨_,rfl,b,dx,_,rfl,hb,rfl,b,tl,ds,rfl,hB,hz,λnl lM=>?_⟩;have s1:=zC lM (.lst ((zQ ds).map V.str));have en:upd H nl (.lst ((zQ ds).map V.str)) nl=some (.lst ((zQ ds).map V.str)):=zB;have B1:=hB.same s1;generalize upd H nl (.lst ((zQ ds).map V.str))=H1 at s1 en B1 ⊢;obtain⟨fw,qs1,cE,_⟩:=id B1;refine⟨_,rfl,b,fw,_,rfl,cE,rfl,b,tl,ds,rfl,B1,hz,λpl H2 aM s2 T2=>?_⟩;have bB:=s1.trans s2;refine⟨_,rfl,nl,pl,nw,zQ ds,zAb ds,new,rfl,SqL.of (s2 _ _ en),n15,T2,by omega,bB _ _ bN,sn,ok.ok,ok.oth,λov H3 s3=>qT ov H3 (bB.trans s3),λeZ=>?_⟩;have aW:¬zJq (zQ ds) (zAb ds) new:=λ⟨d,h0,h1,z⟩=>absurd (eZ d h0 h1) ∅;refine⟨λbH H3 s3=>?_,λd0 h0 h1 z zf H3 p m s3 fp fm hp hm=>?_⟩
 rotate_left
 ·have bR:=bB.trans s3;refine⟨_,rfl,rfl,_,rfl,zDh ?_⟩;refine⟨_,rfl,p,_,0,_,rfl,rfl,SqT.of hp,rfl,_,rfl,p,_,1,_,rfl,rfl,SqT.of hp,rfl,(by show 2<=100;decide),λe he=>?_⟩;have me:m≠e:=λz=>by rw[z,he] at hm;cases hm
  have ll:((zAZ (zQ ds) (zAb ds++[new]) d0).map λj=>V.str ((zQ ds).getD j.toNat Str.empty)).length<=1000:=by rw[wHt];have:=zJI (ns:=zQ ds) (ps:=zAb ds++[new]) (d:=d0);omega
  refine⟨e,m,_,d0,rfl,zB,by rw[zJ me];exact hm,ll,?_,λdx l dC aH hl=>⟨rfl,dx,_,aH,?_,zB,?_⟩⟩
  ·have:d0.natAbs<=5000:=by omega
   exact wIi this ⋯
  ·have le:l≠e:=λz=>by rw[z,zJ (Ne.symm aH),zB] at hl;cases hl
   rw[zJ (Ne.symm aH),zJ (Ne.symm le),zJ (Ne.symm aH),zB]
  have ld:l≠dx:=λz=>by rw[z,zB] at hl;cases hl
  have le:l≠e:=λz=>by rw[z,zJ (Ne.symm aH),zB] at hl;cases hl
  refine qS d0 aW ⟨h0,h1,z,zf⟩ _ dx ?_ ⟨l,bR.free (by rw[zJ ld,zJ le,zJ le] at hl;exact hl),zB,?_⟩
  ·intro a o ha;have h3:=bR a o ha;have ae:a≠e:=λz=>by rw[z,he] at h3;cases h3
   have ad:a≠dx:=λz=>by rw[zJ aH] at dC;rw[z,dC] at h3;cases h3
   have al:a≠l:=λz=>by rw[zJ ld,zJ le,zJ le] at hl;rw[z,hl] at h3;cases h3
   rw[zJ ad,zH7 ae,zJ ad,zJ al,zJ ad,zJ ae,zJ ae];exact h3
  rw[zJ ld,zH7 le,zJ ld,zB]
  rfl
 have bR:=bB.trans s3;refine⟨_,rfl,rfl,_,rfl,zBC ?_⟩;have B3:=hB.same bR;obtain⟨nC,qs3,iN,_⟩:=id B3;refine⟨_,rfl,b,nC,_,rfl,iN,rfl,b,tl,ds,rfl,B3,hz,λl4 H4 hl4 s4 T4=>?_⟩;obtain⟨q4,g1,g2,_⟩:=T4;refine⟨l4,_,rfl,.inl (SqL.of g1),_,_,rfl,rfl,_,rfl,?_⟩;have ll:(q4.map V.ref).length=(zAb ds).length:=by rw[wHt,g2,wHt]
 rw[ll];refine zBD (λd=>?_) (λd=>?_)
 ·have d':(80:Int)<=((zAb ds).length:Nat):=wHP d;refine⟨_,⟨by decide,rfl⟩,by bv_omega,by bv_omega,by bv_omega,?_⟩;exact qF aW bH ∅ _ (bR.trans s4)
 have d':¬(80:Int)<=((zAb ds).length:Nat):=wH9 (wIO d);exact qN aW bH ∅ _ (bR.trans s4)
open Classical in
noncomputable def zJU (ns:List Str) (ps:List Pct) (g u:Str) (p f l:Int):Option Nat:=match zId ns g u p f l with
 | some k=>some k
 | none=>if zJq ns ps (g,u,p,f,l) then some 6 else none
def zMH {ns:List Str} {ps:List Pct} {g u:Str} {p f l:Int} {k:Nat} (h:zId ns g u p f l=some k):zJU ns ps g u p f l=some k:=by unfold zJU;rw[h]
theorem zMI {ns:List Str} {ps:List Pct} {g u:Str} {p f l:Int} (h:zId ns g u p f l=none) (o:zJq ns ps (g,u,p,f,l)):zJU ns ps g u p f l=some 6:=by unfold zJU;rw[h];exact wHF o
def zIf {ns:List Str} {ps:List Pct} {g u:Str} {p f l:Int} (h:zId ns g u p f l=none) (o:¬zJq ns ps (g,u,p,f,l)):zJU ns ps g u p f l=none:=by unfold zJU;rw[h];exact wHD o
def zQW (t:Adr):Nat->Addr
 | 2=>t.wAa
 | 3=>t.wAg
 | 4=>t.wAd
 | 5=>t.wAb
 | 6=>t.wAh
 | _=>t.wAk
def zNr {ns:List Str} {g u:Str} {p f l:Int} {k:Nat} (h:zId ns g u p f l=some k):k=2∨k=3∨k=4∨k=5:=by
 unfold zId at h
 split at h
 ·split at h
  ·split at h
   ·exact .inr (.inl (wHE h).symm)
   split at h
   ·exact .inr (.inr (.inl (wHE h).symm))
   split at h
   ·split at h
    ·split at h
     ·cases h
     exact .inr (.inr (.inr (wHE h).symm))
    exact .inr (.inr (.inr (wHE h).symm))
   exact .inr (.inr (.inr (wHE h).symm))
  exact .inl (wHE h).symm
 exact .inl (wHE h).symm
def zPo {t:Adr} {k:Nat} (h:k=2∨k=3∨k=4∨k=5):zQW t k=zQS t k:=by rcases h with rfl | rfl | rfl | rfl<;>rfl
inductive sp_Book_pact (K:W.Frag) (t:Adr) (vs:List V) (H:Hp) (Q:VK) (E:XK):Prop
 | mk (b tl:Addr) (ds:List Deed) (g u:Str) (p f l:Int):vs=[.ref b,.str g,.str u,.int p,.int f,.int l]->(zAs H t.wAj b tl ds/\ds.length<=900/\(zQ ds).length<=15/\(zAb ds).length<=25/\zBL g/\zBL u/\
 (zId (zQ ds) g u p f l=none->NewOk (zQ ds) (zAb ds) (g,u,p,f,l))/\
 (∀H' k,zJU (zQ ds) (zAb ds) g u p f l=some k->zAi H H'->E (.ref (zQW t k)) none H')/\
 (∀d0 H' dx,zJU (zQ ds) (zAb ds) g u p f l=none->zEK (zQ ds) (zAb ds++[(g,u,p,f,l)]) d0->zAi H H'->zLs H H' dx d0 (zJH (zQ ds) (zAb ds++[(g,u,p,f,l)]) d0)->E (.ref t.wAf) (some dx) H')/\
 (∀H',zJU (zQ ds) (zAb ds) g u p f l=none->zHl (zQ ds) (zAb ds++[(g,u,p,f,l)])->80<=(zAb ds).length->zAi H H'->E (.ref t.wAk) none H')/\
 ∀H',zJU (zQ ds) (zAb ds) g u p f l=none->zHl (zQ ds) (zAb ds++[(g,u,p,f,l)])->(zAb ds).length < 80->zBk tl H H'->zAs H' t.wAj b tl (ds++[.pact g u p f l])->Q .non H')->sp_Book_pact K t vs H Q E
def zGE (T:Txt P w K mg t):FnOk P w K mg base (CXx P w) 45 t.wBV t.wBW ["self","giver","taker","part","first","last"] (sp_Book_pact K t):=by
 refine T.wFG.okX zGy ⟨⟩ ();obtain⟨b,tl,ds,g,u,p,f,l,rfl,hB,hz,n15,hX,sg,su,new,qe,qS,qF,q⟩:=h;refine⟨_,(zD (zAe (zAB ((zEU T).mono ⋯) hr rfl T.wEK T.wCP.kp T.wEJ .nil zB7 (zAq (zBd (pv 0) T.wAl T.wAw ((zBe T).mono ⋯) hr T.wAv .nil zCW) (pv 1) (pv 2) (zAq (pv 3) (pv 4) (pv 5) zE zA zA zA) zZ zA zA)))
  (zD (zAe (zEw (pv 0) T.wAl T.wDV ((zDv T).mono ⋯) hr T.wDU .nil zB7 (zG (zAT (zY (pv 1) (pv 2) (zAq (pv 3) (pv 4) (pv 5) zE zA zA zA) zA zA)) zE zAF)))
  (zH (zAe (zAQ K wHW wH5 wIa zAr (zC9 (pv 0) rfl) (zG (zAT (zG zT (zY (pv 1) (pv 2) (zAq (pv 3) (pv 4) (pv 5) zE zA zA zA) zA zA) zI)) zE zAF)))))),?_⟩
 obtain⟨dx,qs,hb,ht,hq,hd⟩:=id hB;refine⟨_,rfl,b,dx,_,rfl,hb,rfl,b,tl,ds,rfl,hB,hz,λnl lM=>?_⟩;have s1:=zC lM (.lst ((zQ ds).map V.str));have en:upd H nl (.lst ((zQ ds).map V.str)) nl=some (.lst ((zQ ds).map V.str)):=zB;have B1:=hB.same s1;generalize upd H nl (.lst ((zQ ds).map V.str))=H1 at s1 en B1 ⊢;refine⟨_,rfl,_,rfl,_,rfl,_,rfl,_,rfl,nl,zQ ds,g,u,p,f,l,rfl,SqL.of en,sg,su,λtn=>?_,λk tk=>by rw[← zPo (zNr tk)];exact qe H1 k (zMH tk) s1⟩;have nok:=new tn;obtain⟨fw,qs1,cE,_⟩:=id B1;refine⟨_,rfl,b,fw,_,rfl,cE,rfl,_,rfl,_,rfl,_,rfl,_,rfl,_,rfl,szl,λnw bN=>?_⟩;have s2:=zC bN (.tup (Pct.vs (g,u,p,f,l)));have bB:=s1.trans s2;refine⟨b,tl,nw,ds,(g,u,p,f,l),rfl,B1.same s2,hz,n15,hX,zB,sg,nok,λov H3 s3=>qe H3 6 (zMI tn ov) (bB.trans s3),λd0 aW fs H3 dx s3 hd=>qS d0 H3 dx (zIf tn aW) fs (bB.trans s3) (hd.back bB),λaW bH c H3 s3=>qF H3 (zIf tn aW) bH c (bB.trans s3),λaW bH c H3 s3=>?_⟩;have bR:=bB.trans s3;obtain⟨nC,qs3,iN,l9,hq3,hd3⟩:=hB.same bR;refine⟨_,rfl,b,_,nC,_,_,rfl,iN,T.wAl,T.wAo,rfl,.inl ⟨rfl,_,SqL.of l9⟩,?_⟩;refine⟨_,rfl,_,rfl,_,rfl,_,rfl,_,rfl,szl,λp' cY=>?_⟩;have s4:=zC cY (.tup (Deed.pact g u p f l).vs);refine⟨tl,_,_,rfl,rfl,s4 _ _ l9,by rw[wHt,hq3];exact zAa ∅,?_⟩;refine q _ (zIf tn aW) bH c ((zBk.of (bR.trans s4)).trans zBk.upd) ?_;exact zAs.snoc (s4 _ _ iN) (s4 _ _ l9) hq3 (λi a d e1 e2=>s4 _ _ (hd3 i a d e1 e2)) zB
inductive sp_deed_row (K:W.Frag) (vs:List V) (H:Hp) (Q:VK) (E:XK):Prop
 | mk (a:Addr) (d:Deed):vs=[.ref a]->(SqT K H a d.vs/\d.Ok/\∀H',zAi H H'->Q (.str d.row) H')->sp_deed_row K vs H Q E
def zE0 (T:Txt P w K mg t):FnOk P w K mg base CX0 40 t.wCw t.wCx ["deed"] (sp_deed_row K):=by
 refine T.wCy.ok zH1 ⟨⟩ ();obtain⟨a,d,rfl,hS,hok,q⟩:=h;refine⟨_,(zH (zX (zFJ F.plainAttrs_str F.slot_str_join F.type_str_join (zC2 K) zT (zG (zA4 ["word"] [none] (by kernel_rfl) rfl (zPh (pv 0)) (λ_ _ _ _ _=>(zN (i:=0) ndB rfl (Or.inl rfl))) (λ_ _ _ _ _=>zAO) (λ_ _ _ _ _=>(zAt zM1 rfl T.wAx PyProof.Rows.boot_str (zG (pv 0) zE zA)))) zE zA3)))),?_⟩;have vl:=zM9 d;have wk:=hok.words;refine⟨rfl,_,rfl,a,rfl,⟨_,hS⟩,λl hl=>?_⟩;have sl:∀o,zAi H (upd H l o):=λo=>zC hl o;refine zMy (ys:=d.vs) (λi σ' H'=>∃(v:Option V),σ'=[v]/\H'=upd H l (.lst (((d.vs.take i).map wOf).map V.str))) ⟨none,rfl,rfl⟩ ?_ ?_ ?_
 ·rintro i σ' H' hi ⟨v,rfl,rfl⟩;exact (sl _).tup hS
 ·rintro i x σ' H' hi ⟨v,rfl,rfl⟩;have ln:(((d.vs.take i).map wOf).map V.str).length < sizeLine:=by rw[wHt,wHt,wHS];exact zAa ∅
  have et:((d.vs.take (i+1)).map wOf).map V.str=((d.vs.take i).map wOf).map V.str++[V.str (wOf x)]:=by rw[wId,hi];simp only[Option.toList_some,wHC,wH6,List.map_nil]
  rcases wk x (wIe hi) with ⟨j,rfl,hj⟩ | ⟨z,rfl,hz⟩
  ·exact⟨_,rfl,.inl ⟨j,rfl,zFr hj,_,zB,ln,_,rfl,by rw[zBl,et];rfl⟩⟩
  exact⟨_,rfl,.inr ⟨z,rfl,_,zB,ln,_,rfl,by rw[zBl,et];rfl⟩⟩
 rintro σ' H' ⟨v,rfl,rfl⟩;rw[wH0];refine⟨_,l,d.words,rfl,rfl,SqL.of zB,?_,q _ (sl _)⟩;have h1:∀z∈d.words,z.length<=1000:=λz hz=>by obtain⟨x,hx,rfl⟩:=List.mem_map.mp hz;exact (wk x hx).len
 have h2:=zDO d.words h1;have h3:d.words.length<=6:=by unfold Deed.words;rw[wHt];exact vl
 have h4:(Str.ofString " ").length=1:=by nofun
 rw[h4];omega
inductive sp_Book_deeds (K:W.Frag) (C:Addr) (vs:List V) (H:Hp) (Q:VK) (E:XK):Prop
 | mk (b tl:Addr) (ds:List Deed):vs=[.ref b]->(zAs H C b tl ds/\ds.length<=900/\(∀d∈ds,d.Ok)/\∀l H',H l=none->zAi H H'->H' l=some (.lst ((ds.map Deed.row).map V.str))->Q (.ref l) H')->sp_Book_deeds K C vs H Q E
def zCY (T:Txt P w K mg t):FnOk P w K mg base CX0 41 t.wBp t.wBq ["self"] (sp_Book_deeds K t.wAj):=by
 refine T.wFj.ok zFC ⟨⟩ ();obtain⟨b,tl,ds,rfl,⟨dx,qs,hb,ht,hq,hd⟩,hz,hok,q⟩:=h;refine⟨_,(zH (zX (zA4 ["deed"] [none] (by kernel_rfl) rfl (zAh K (zC9 (pv 0) rfl)) (λ_ _ _ _ _=>(zN (i:=0) ndB rfl (Or.inl rfl))) (λ_ _ _ _ _=>zAO) (λ_ _ _ _ _=>(cal (zE0 T) hr T.wD6 T.wCy T.wD5 (zG (pv 0) zE zA)))))),?_⟩;refine⟨_,rfl,b,_,dx,_,_,rfl,hb,T.wAl,T.wAo,rfl,tl,rfl,⟨_,SqL.of ht⟩,λl hl=>?_⟩;refine zAz (ys:=qs.map V.ref) (λi σ' H'=>∃(v:Option V),σ'=[v]/\zAi H H'/\H' l=some (.lst (((ds.take i).map Deed.row).map V.str))) ⟨none,rfl,zC hl _,zB⟩ ?_ ?_ ?_
 ·rintro i σ' H' hi ⟨v,rfl,s',el⟩;exact SqL.of (s' _ _ ht)
 ·rintro i x σ' H' hi ⟨v,rfl,s',el⟩;rw[wHB] at hi;obtain⟨a,ha,rfl⟩:∃a,qs[i]?=some a/\V.ref a=x:=by
   cases e:qs[i]? with
   | none=>rw[e] at hi;cases hi
   | some a=>rw[e] at hi;exact⟨a,rfl,wHE hi⟩
  have aK:i < ds.length:=by rw[← hq];exact (wIL ha).1
  have bZ:ds[i]?=some ds[i]:=wHv aK;refine⟨_,rfl,a,ds[i],rfl,SqT.of (s' _ _ (hd i a _ ha bZ)),hok _ (wHZ aK),λH2 s2=>?_⟩;refine⟨_,s2 _ _ el,by rw[wHt,wHt,wHS];exact zAa ∅,_,rfl,zAk (s'.trans s2) hl _,?_⟩;rw[zB,wId,bZ];simp only[Option.toList_some,wHC,wH6,List.map_nil]
 rintro σ' H' ⟨v,rfl,s',el⟩;rw[wHt,hq,wH0] at el;exact q l H' hl s' el
inductive sp_Book_losses (K:W.Frag) (C:Addr) (vs:List V) (H:Hp) (Q:VK) (E:XK):Prop
 | mk (b tl:Addr) (ds:List Deed):vs=[.ref b]->(zAs H C b tl ds/\ds.length<=900/\∀l H',H l=none->zAi H H'->zAf H' l ((zA6 ds).map Lss.vs)->Q (.ref l) H')->sp_Book_losses K C vs H Q E
def zEX (T:Txt P w K mg t):FnOk P w K mg base CX0 40 t.wA0 t.wA1 ["self"] (sp_Book_losses K t.wAj):=by
 refine T.wEO.ok zEQ ⟨⟩ ();obtain⟨b,tl,ds,rfl,⟨dx,qs,hb,ht,hq,hd⟩,hz,q⟩:=h;refine⟨_,(zH (zX (zA4 ["deed"] [none] (by kernel_rfl) rfl (zAh K (zC9 (pv 0) rfl)) (λ_ _ _ _ _=>(zN (i:=0) ndB rfl (Or.inl rfl))) (λ_ _ _ _ _=>(zCJ (zS zCb (zDL K (pv 0) zF) zT (zAc _)))) (λ_ _ _ _ _=>(zBZ (zJF K) (pv 0) (zCu zF) zDr))))),?_⟩;refine⟨_,rfl,b,_,dx,_,_,rfl,hb,T.wAl,T.wAo,rfl,tl,rfl,⟨_,SqL.of ht⟩,λl hl=>?_⟩;refine zAz (ys:=qs.map V.ref) (λi σ' H'=>∃(v:Option V),σ'=[v]/\zAi H H'/\zAf H' l ((zA6 (ds.take i)).map Lss.vs)) ⟨none,rfl,zC hl _,zAf.nil zB⟩ ?_ ?_ ?_
 ·rintro i σ' H' hi ⟨v,rfl,s',el⟩;exact SqL.of (s' _ _ ht)
 ·rintro i x σ' H' hi ⟨v,rfl,s',el⟩;rw[wHB] at hi;obtain⟨a,ha,rfl⟩:∃a,qs[i]?=some a/\V.ref a=x:=by
   cases e:qs[i]? with
   | none=>rw[e] at hi;cases hi
   | some a=>rw[e] at hi;exact⟨a,rfl,wHE hi⟩
  have aK:i < ds.length:=by rw[← hq];exact (wIL ha).1
  have bZ:ds[i]?=some ds[i]:=wHv aK;have ea:=s' _ _ (hd i a _ ha bZ);have ln:(zA6 (ds.take i)).length<=900:=wHI (zJf _) (by rw[wHS];omega);refine⟨_,rfl,a,_,0,.str (ds[i]).tag,rfl,rfl,SqT.of ea,zBE ⋯ rfl,rfl,_,rfl,?_⟩;rw[zL6];rw[zDK bZ];cases e:ds[i] with
  | loss h y m=>
   rw[e] at ea;refine zDh ⟨_,rfl,_,rfl,a,_,rfl,SqT.of ea,zGG _ _,λp hp=>?_⟩;have s2:=zC hp (.tup (zGc (Deed.loss h y m).vs (some 1) none));obtain⟨q2,g1,g2,g3⟩:=el.same s2;refine⟨_,g1,by rw[wHt,g2,wHt];exact zAa ∅,_,rfl,zAk (s'.trans s2) hl _,?_⟩;rw[wHC];exact zAf.snoc g1 g2 g3 (by rw[zB];exact congrArg (λz=>some (HO.tup z)) (zGb _ _))
  | house g=>exact zBC ⟨_,rfl,s',by rw[wHC];exact (wHQ _).symm ▸ el⟩
  | pact g u p f z=>exact zBC ⟨_,rfl,s',by rw[wHC];exact (wHQ _).symm ▸ el⟩
 rintro σ' H' ⟨v,rfl,s',el⟩;rw[wIo (by rw[wHt];omega)] at el;exact q l H' hl s' el
def zMr (ds:List Deed) (h:Str) (y a:Int):Option Nat:=if h∈zQ ds then (if 0<=y/\y<=5000 then (if 1<=a/\a<=10 ^ 12 then (if 200<=(zA6 ds).length then some 8 else none) else some 5) else some 5) else some 2
def zRx (t:Adr):Nat->Addr
 | 2=>t.wAa
 | 5=>t.wAb
 | _=>t.wAk
inductive sp_Book_loss (K:W.Frag) (t:Adr) (vs:List V) (H:Hp) (Q:VK) (E:XK):Prop
 | mk (b tl:Addr) (ds:List Deed) (h:Str) (y a:Int):vs=[.ref b,.str h,.int y,.int a]->(zAs H t.wAj b tl ds/\ds.length<=900/\zBL h/\
 (∀H',zMr ds h y a=none->zBk tl H H'->zAs H' t.wAj b tl (ds++[.loss h y a])->Q .non H')/\∀H' k,zMr ds h y a=some k->zAi H H'->E (.ref (zRx t k)) none H')->sp_Book_loss K t vs H Q E
def zGF (T:Txt P w K mg t):FnOk P w K mg base (CXx P w) 42 t.wBX t.wBY ["self","house","day","amount"] (sp_Book_loss K t):=by
 refine T.wFJ.okX zGz ⟨⟩ ();obtain⟨b,tl,ds,h,y,a,rfl,hB,hz,sn,q,qe⟩:=h;refine⟨_,(zD (zAe (zAB ((zCd T).mono ⋯) hr rfl T.wBc T.wAF.kp T.wBb .nil zB7 (zY (zBd (pv 0) T.wAl T.wAw ((zBe T).mono ⋯) hr T.wAv .nil zCW) (pv 1) zE zZ zA)))
  (zD (zAe (zAB ((zCw T).mono ⋯) hr rfl T.wB2 T.wAO.kp T.wB1 .nil zB7 (zG (pv 2) zE zA)))
  (zD (zAe (zAB ((zE1 T).mono ⋯) hr rfl T.wEr T.wCd.kp T.wEq .nil zB7 (zG (pv 3) zE zA)))
  (zD (zAm (zS zNP (zU (zAo K) rfl T.wAp wH8 (zG (zBd (pv 0) T.wAl T.wEQ ((zEX T).mono ⋯) hr T.wEP .nil zCW) zE zZ)) (zAn (v:=.int 200) rfl T.wCT.choose_spec ⟨_,rfl⟩) (zAc _)) (zH (zA0 T.wFw rfl T.wEa (zAy (zCv (zAn (v:=.int 200) rfl T.wCT.choose_spec ⟨_,rfl⟩) (zAX zB1))))) zR)
  (zH (zAe (zAQ K wHW wH5 wIa zAr (zC9 (pv 0) rfl) (zG (zAT (zG zT (zAq (pv 1) (pv 2) (pv 3) zE zA zA zA) zI)) zE zAF)))))))),?_⟩
 obtain⟨dx,qs,hb,ht,hq,hd⟩:=id hB;refine⟨_,rfl,b,dx,_,rfl,hb,rfl,b,tl,ds,rfl,hB,hz,λl hl=>?_⟩;have s1:=zC hl (.lst ((zQ ds).map V.str));have gL:=hB.same s1;refine⟨_,rfl,l,zQ ds,h,rfl,SqL.of zB,sn,λc1=>?_,λc1=>qe _ 2 (by unfold zMr;rw[wHD c1]) s1⟩;refine⟨_,rfl,y,rfl,λc2=>?_,λc2=>qe _ 5 (by unfold zMr;rw[wHF c1,wHD c2]) s1⟩;refine⟨_,rfl,a,rfl,λc3=>?_,λc3=>qe _ 5 (by unfold zMr;rw[wHF c1,wHF c2,wHD c3]) s1⟩;obtain⟨fw,qs1,cE,ht1,hq1,eR⟩:=id gL;refine⟨_,rfl,b,fw,_,rfl,cE,rfl,b,tl,ds,rfl,gL,hz,λl2 H2 cZ s2 T2=>?_⟩;obtain⟨q2,g1,g2,_⟩:=T2;have bB:=s1.trans s2;refine⟨l2,_,rfl,.inl (SqL.of g1),_,_,rfl,rfl,_,rfl,?_⟩;have ll:(q2.map V.ref).length=(zA6 ds).length:=by rw[wHt,g2,wHt]
 rw[ll];refine zBD (λd=>?_) (λd=>?_)
 ·have d':(200:Int)<=((zA6 ds).length:Nat):=wHP d;refine⟨_,⟨by decide,rfl⟩,by bv_omega,by bv_omega,by bv_omega,?_⟩;exact qe _ 8 (by unfold zMr;rw[wHF c1,wHF c2,wHF c3,wHF ∅]) bB
 have d':¬(200:Int)<=((zA6 ds).length:Nat):=wH9 (wIO d);have cD:=s2 _ _ cE;have eJ:=s2 _ _ ht1;refine⟨_,rfl,b,_,fw,_,_,rfl,cD,T.wAl,T.wAo,rfl,.inl ⟨rfl,_,SqL.of eJ⟩,?_⟩;refine⟨_,rfl,_,rfl,_,rfl,szl,λp hp=>?_⟩;have s3:=zC hp (.tup (Deed.loss h y a).vs);refine⟨tl,_,_,rfl,rfl,s3 _ _ eJ,by rw[wHt,hq1];exact zAa ∅,?_⟩;refine q _ (by unfold zMr;rw[wHF c1,wHF c2,wHF c3,wHD ∅]) ((zBk.of (bB.trans s3)).trans zBk.upd) ?_;exact zAs.snoc (s3 _ _ cD) (s3 _ _ eJ) hq1 (λi a d e1 e2=>s3 _ _ (s2 _ _ (eR i a d e1 e2))) zB
inductive sp_Book_take_back (K:W.Frag) (t:Adr) (vs:List V) (H:Hp) (Q:VK) (E:XK):Prop
 | mk (b tl:Addr):vs=[.ref b]->(((zAs H t.wAj b tl []/\E (.ref t.wAc) none H)∨∃(ds:List Deed) (d:Deed),zAs H t.wAj b tl (ds++[d])/\(ds++[d]).length<=900/\d.Ok/\∀H',zBk tl H H'->zAs H' t.wAj b tl ds->Q (.str d.row) H'))->sp_Book_take_back K t vs H Q E
def zDu (T:Txt P w K mg t):FnOk P w K mg base (CXx P w) 41 t.wAy t.wAz ["self"] (sp_Book_take_back K t):=by
 refine T.wDQ.okX zDo ⟨⟩ ();obtain⟨b,tl,rfl,⟨hB,q⟩ | ⟨ds,d,hB,hz,fA,q⟩⟩:=h<;>refine⟨_,(zD (zAm (zS zCb (zU (zAo K) rfl T.wAp wH8 (zG (zC9 (pv 0) rfl) zE zBc)) zF (zAc _)) (zH (zA0 T.wEZ rfl T.wCR zT)) zR)
  (zH (zX (cal (zE0 T) hr T.wD6 T.wCy T.wD5 (zG (zKm wHW F.slot_list_pop F.type_list_pop zK6 (zC9 (pv 0) rfl)) zE zZ))))),?_⟩
 ·obtain⟨dx,qs,hb,ht,hq,hd⟩:=id hB;have lq:qs.length=0:=hq;exact⟨_,rfl,b,_,dx,_,_,rfl,hb,T.wAl,T.wAo,rfl,tl,_,rfl,.inl (SqL.of ht),rfl,_,rfl,zGj (congrArg V.int (by rw[wHt,lq];rfl)) q⟩
 obtain⟨dx,qs,hb,ht,hq,hd⟩:=id hB;have lq:qs.length=ds.length+1:=by rw[hq,wHy];rfl
 refine⟨_,rfl,b,_,dx,_,_,rfl,hb,T.wAl,T.wAo,rfl,tl,_,rfl,.inl (SqL.of ht),rfl,_,rfl,zFU (λz=>?_) ?_⟩
 ·have:=V.int.inj z;rw[wHt,lq] at this;omega
 have ha:qs[ds.length]?=some (qs[ds.length]' ∅):=wHv _;have eA:(ds++[d])[ds.length]?=some d:=by rw[wHK (wHA _),Nat.sub_self];rfl
 have ea:=hd ds.length _ d ha eA;generalize qs[ds.length]' ∅=a at ha ea;refine⟨_,rfl,b,_,dx,_,_,rfl,hb,T.wAl,T.wAo,rfl,.inl ⟨rfl,_,SqL.of ht⟩,tl,_,.ref a,rfl,rfl,ht,by rw[wHt,lq,wHB];show (qs[ds.length]?).map V.ref=_;rw[ha];rfl,?_⟩;have nb:b≠tl:=λz=>by rw[z,ht] at hb;cases hb
 have na:∀x xs,H x=some (.tup xs)->x≠tl:=λx xs e z=>by rw[z,ht] at e;cases e
 refine⟨a,d,rfl,SqT.of (by rw[zJ (na _ _ ea)];exact ea),fA,λH' s'=>q H' (zBk.upd.trans (zBk.of s')) ?_⟩;refine zAs.same ⟨dx,qs.dropLast,by rw[zJ nb];exact hb,by rw[zB,List.map_dropLast],by rw[List.length_dropLast,lq];rfl,λi x y e1 e2=>?_⟩ s';have hi:i < ds.length:=(wIL e2).1;have cF:qs[i]?=some x:=by
  rw[List.getElem?_dropLast] at e1
  split at e1
  ·exact e1
  cases e1
 have ex:=hd i x y cF (by rw[wHJ hi];exact e2);rw[zJ (na _ _ ex)];exact ex
def nws:List Str:=[Str.ofString "pact",Str.ofString "loss",Str.ofString "house",Str.ofString "back",Str.ofString "none",Str.ofString "deeds",Str.ofString "done",Str.ofString "shut",Str.ofString "change",Str.ofString "coins",Str.ofString "paper",Str.ofString "shares",Str.ofString "borne",Str.ofString "rounds",Str.ofString "refused"]
def nmL (d:Int) (k:Nat):List Nat:=
 if d%8=2 then (nws.getD k Str.empty).cps.toList
 else if d%8 < 2 then List.replicate (1+k%5) 113++[97+(17+k / 5)]
 else (List.replicate (d / 208%8).toNat (97+(d / 13312%26).toNat)).take (min (d / 1664%8) (d / 208%8)).toNat++[97+(((k:Int)*7+d / 8)%26).toNat]++(List.replicate (d / 208%8).toNat (97+(d / 13312%26).toNat)).drop (min (d / 1664%8) (d / 208%8)).toNat
def zQz:∀k:Fin 15,zGl (nws.getD k Str.empty):=by nofun
def zQ0 (d:Int) (h:0<=d) (k:Nat) (hk:k < 15):zGl (tx (nmL d k)):=by
 unfold nmL;by_cases c:d%8=2
 ·rw[wHF c,zAj];exact zQz ⟨k,hk⟩
 rw[wHD c];by_cases e:d%8 < 2
 ·rw[wHF e];refine⟨λx hx=>?_,?_⟩
  ·rw[zAN] at hx;rcases wIP hx with z | z
   ·rw[List.eq_of_mem_replicate z];omega
   rw[wIM z];omega
  rw[zAI,wHy,wIB,wIl];omega
 rw[wHD e];have b1:=zBv (x:=d / 208) (m:=8) (n:=8) ⋯ ⋯;have b2:=zBv (x:=d / 13312) (m:=26) (n:=26) ⋯ ⋯;have b3:=zBv (x:=(k:Int)*7+d / 8) (m:=26) (n:=26) ⋯ ⋯;refine⟨λx hx=>?_,?_⟩
 ·rw[zAN] at hx;rcases wIP hx with z | z
  ·rcases wIP z with z | z
   ·rw[List.eq_of_mem_replicate (List.mem_of_mem_take z)];omega
   rw[wIM z];omega
  rw[List.eq_of_mem_replicate (List.mem_of_mem_drop z)];omega
 rw[zAI,wHy,wHy,wIl,wHS,wIu,wIB];omega
def zPw:∀i j:Fin 15,nws.getD i Str.empty=nws.getD j Str.empty->i=j:=by nofun
def zPy (d:Int) {i j:Nat} (hi:i < 15) (hj:j < 15) (h:nmL d i=nmL d j):i=j:=by
 unfold nmL at h;by_cases c:d%8=2
 ·rw[wHF c,wHF c] at h;have:=zPw ⟨i,hi⟩ ⟨j,hj⟩ (by rw[← zAj (nws.getD i Str.empty),h,zAj]);exact Fin.mk.inj this
 rw[wHD c,wHD c] at h;by_cases e:d%8 < 2
 ·rw[wHF e,wHF e] at h;have l:=congrArg List.length h;rw[wHy,wHy,wIB,wIB,wIl,wIl] at l;have g:=congrArg List.getLast? h;rw[List.getLast?_append,List.getLast?_append] at g;simp at g;omega
 rw[wHD e,wHD e] at h;rw[wHY,wHY] at h;have h2:=List.append_cancel_left h;have h3:=(List.cons.inj h2).1;have b1:=zBv (x:=(i:Int)*7+d / 8) (m:=26) (n:=26) ⋯ ⋯;have b2:=zBv (x:=(j:Int)*7+d / 8) (m:=26) (n:=26) ⋯ ⋯;omega
def zKB {n:Int} (h0:0<=n) (h:n < 26):atI ((Str.ofString "abcdefghijklmnopqrstuvwxyz").cps.toList) n=some (97+n.toNat):=by
 have e:(Str.ofString "abcdefghijklmnopqrstuvwxyz").cps.toList=(List.range 26).map (97 + ·):=by nofun
 rw[e];exact zM6 h0 (by rw[wHB,List.getElem?_range ∅];rfl)
def zJX (c r:Nat):(List.replicate r (⟨#[c]⟩:Str).cps.toList).flatten=List.replicate r c:=by
 rw[show (⟨#[c]⟩:Str).cps.toList=[c] from rfl]
 induction r with
 | zero=>rfl
 | succ r ih=>rw[wIr,wID,ih,wIr];rfl
inductive sp_names (K:W.Frag) (vs:List V) (H:Hp) (Q:VK) (E:XK):Prop
 | mk (d:Int) (n:Nat):vs=[.int d,.int (n:Nat)]->(0<=d/\n<=15/\
 ∀l H' (ns:List Str),H l=none->zAi H H'->H' l=some (.lst (ns.map V.str))->ns.length=n->(∀x∈ns,zGl x)->ns.Nodup->Q (.ref l) H')->sp_names K vs H Q E
def zJb:∃(L1 L2:Expr) (c0:Nat) (p0 q0 r0 p1 q1 p2 q2 p3 q3:Pos),(∀X:Cx,PE X L1 (zOM (zAx (tC (.str "pact")) (zAx (tC (.str "loss")) (zAx (tC (.str "house")) (zAx (tC (.str "back")) (zAx (tC (.str "none")) (zAx (tC (.str "deeds")) (zAx (tC (.str "done")) (zAx (tC (.str "shut")) (zAx (tC (.str "change")) (zAx (tC (.str "coins")) zMC))))))))))))/\(∀X:Cx,PE X L2 (zOM (zAx (tC (.str "paper")) (zAx (tC (.str "shares")) (zAx (tC (.str "borne")) (zAx (tC (.str "rounds")) (zAx (tC (.str "refused")) zMC)))))))/\(∀tg ln env,swapsWith L1 tg ln env=pure false)/\
  zAU zEo=.Assign [.Name "_law_letters" p0] (.Constant (.str "abcdefghijklmnopqrstuvwxyz") c0 q0) r0::.Assign [.Name "_law_words" p1] L1 q1::.Assign [.Name "_law_words" p2] (.BinOp (.Name "_law_words" p3) .Add L2 q3) q2::(zAU zEo).drop 3:=by
 refine⟨_,_,_,_,_,_,_,_,_,_,_,_,?_,?_,?_,rfl⟩
 ·intro X
  with_reducible exact zNK
 ·intro X
  with_reducible exact zPm
 intro tg ln env
 rfl
def zLY (T:Txt P w K mg t):FnOk P w K mg base CX0 40 t.wEk t.wEl ["_law_draw","_law_count"] (sp_names K):=by
 refine T.wFU.ok zAG ⟨⟩ ();obtain⟨d,n,rfl,d0,n15,q⟩:=h;obtain⟨L1,L2,c0,p0',q0,r0,p1,q1,p2,q2,p3,q3,h1,h2,w1,eb⟩:=zJb;rw[eb];refine⟨_,(zD (zAJ 2 zAG.nd zT)
  (zD (zFj (i:=3) zAG.nd rfl (Or.inl rfl) (h1 _) (w1 _ _ _))
  (zD (zAJ 3 zAG.nd (zP zD7 (pv 3) (h2 _)))
  (zD (zAJ 4 zAG.nd (zAd zE))
  (zD (zAW PassesOwn.never rfl (zBu rfl T.wAN (zG (pv 1) zE zA)) (zN (i:=5) zAG.nd rfl (Or.inl rfl)) (zD (zAJ 6 zAG.nd (zHC zIv (pv 2) (zP zAl (zP zBj (zP zFn (pv 5) zF) (zP zAK (pv 0) zF)) zF) (λ_ _=>rfl)))
  (zD (zAJ 7 zAG.nd (zP zAl (zP zAK (pv 0) zF) zF))
  (zD (zAJ 8 zAG.nd (zU (zLk rfl) rfl T.wGL PyProof.Rows.boot_min (zY (zP zAl (zP zAK (pv 0) zF) zF) (pv 7) zE zV zA)))
  (zD (zAJ 9 zAG.nd (zP zFm (zHC zIv (pv 2) (zP zAl (zP zAK (pv 0) zF) zF) (λ_ _=>rfl)) (pv 7)))
  (zD (zAJ 10 zAG.nd (zP zW (zP zW (zBZ zMD (pv 9) zDr (zCu (pv 8))) (pv 6)) (zBZ zMD (pv 9) (zCu (pv 8)) zDr)))
  (zD (zG4 (zAm (zS zDH (zP zAl (pv 0) zF) zF (zAc _)) (zH (zAJ 10 zAG.nd (zP zW (zP zFm zT (zP zBj zF (zP zAl (pv 5) zF))) (zHC zIv (pv 2) (zP zBj zF (zP zAK (pv 5) zF)) (λ_ _=>rfl))))) zR))
  (zD (zG4 (zAm (zS zCb (zP zAl (pv 0) zF) zF (zAc _)) (zH (zAJ 10 zAG.nd (zA8 K (pv 3) (pv 5)))) zR))
  (zH (zAe (zAQ K wHW wH5 wIa zAr (pv 4) (zG (pv 10) zE zA))))))))))))
  (zH (zX (pv 4)))))))),?_⟩
 refine⟨szl,λl1 h1=>?_⟩;refine⟨_,rfl,szl,λl2 h2=>?_⟩;have s1:=zC h1 (.lst [V.str "pact",V.str "loss",V.str "house",V.str "back",V.str "none",V.str "deeds",V.str "done",V.str "shut",V.str "change",V.str "coins"]);have s2:=zC h2 (.lst [V.str "paper",V.str "shares",V.str "borne",V.str "rounds",V.str "refused"]);refine⟨l1,l2,_,_,rfl,rfl,s2 _ _ zB,zB,szl,λwl h3=>?_⟩;obtain⟨H3,hH3,s3,e3⟩:∃H3,H3=upd (upd (upd H l1 (.lst [V.str "pact",V.str "loss",V.str "house",V.str "back",V.str "none",V.str "deeds",V.str "done",V.str "shut",V.str "change",V.str "coins"])) l2 (.lst [V.str "paper",V.str "shares",V.str "borne",V.str "rounds",V.str "refused"])) wl (.lst (nws.map V.str))/\zAi H H3/\H3 wl=some (.lst (nws.map V.str)):=⟨_,rfl,s1.trans (s2.trans (zC h3 _)),zB⟩;show zLw _ _ _ _ (upd (upd (upd H l1 _) l2 _) wl (.lst (nws.map V.str)));rw[← hH3];clear hH3 s1 s2 h3;refine⟨szl,λml hm=>?_⟩;have s4:=zC hm (.lst []);have hm0:H ml=none:=s3.free hm;have wml:wl≠ml:=zM e3 hm;refine⟨_,rfl,(n:Nat),rfl,by omega,by omega,zDc (n:=((n:Nat):Int).toNat) (λi σ' H'=>∃(x1 x2 x3 x4 x5 x6:Option V),σ'=[some (.int d),some (.int (n:Nat)),some (.str "abcdefghijklmnopqrstuvwxyz"),some (.ref wl),some (.ref ml),x1,x2,x3,x4,x5,x6]/\zAi H H'/\H' wl=some (.lst (nws.map V.str))/\H' ml=some (.lst (((List.range i).map λk=>tx (nmL d k)).map V.str)))
  ⟨none,none,none,none,none,none,rfl,s3.trans s4,s4 _ _ e3,zB⟩ ?_ ?_⟩
 ·rintro i σ' H' hi ⟨x1,x2,x3,x4,x5,x6,rfl,s',ew,em⟩;have aK:i < 15:=by omega
  have b1:=zBv (x:=d / 208) (m:=8) (n:=8) ⋯ ⋯;have b0:=zBv (x:=d / 1664) (m:=8) (n:=8) ⋯ ⋯;have b2:=zBv (x:=d / 13312) (m:=26) (n:=26) ⋯ ⋯;have b3:=zBv (x:=(0+(i:Int))*7+d / 8) (m:=26) (n:=26) ⋯ ⋯;refine⟨_,rfl,_,rfl,_,_,rfl,rfl,.inr ⟨by decide,by decide⟩,_,rfl,_,_,rfl,rfl,⟨by decide,by decide⟩,_,_,rfl,rfl,_,_,rfl,rfl,(by show (0:Int) < 26;decide),_,_,_,rfl,rfl,by nofun,zKB b3.1 ∅,?_⟩;refine⟨_,rfl,_,_,rfl,rfl,⟨by decide,by decide⟩,_,_,rfl,rfl,(by show (0:Int) < 8;decide),?_⟩;refine⟨_,rfl,_,_,rfl,rfl,⟨by decide,by decide⟩,_,_,rfl,rfl,(by show (0:Int) < 8;decide),_,rfl,_,_,rfl,?_⟩;have emin:(if d / 208%8 < d / 1664%8 then d / 208%8 else d / 1664%8)=min (d / 1664%8) (d / 208%8):=by
   by_cases z:d / 208%8 < d / 1664%8
   ·rw[wHF z];omega
   rw[wHD z];omega
  refine⟨_,rfl,_,rfl,_,_,rfl,rfl,⟨by decide,by decide⟩,_,_,rfl,rfl,(by show (0:Int) < 26;decide),_,_,_,rfl,rfl,by nofun,zKB b2.1 ∅,_,rfl,_,_,rfl,rfl,?_,?_,(show 1<=1000 by decide),?_⟩
  ·show 0<=d / 208%8;omega
  ·show d / 208%8<=1000;omega
  have er:=zJX (97+(d / 13312%26).toNat) (d / 208%8).toNat;show zKQ 9 (V.str (tx (List.replicate (d / 208%8).toNat (⟨#[97+(d / 13312%26).toNat]⟩:Str).cps.toList).flatten)) _ _ _;rw[er];obtain⟨st,aF⟩:∃st,st=List.replicate (d / 208%8).toNat (97+(d / 13312%26).toNat):=⟨_,rfl⟩;rw[← aF];have ls:st.length<=8:=by rw[aF,wIB];omega
  have sl:(tx st).length<=sizeLine:=by rw[zAI];exact small ∅
  have c0:0<=(if d / 208%8 < d / 1664%8 then d / 208%8 else d / 1664%8):=by rw[emin];omega
  refine⟨_,rfl,_,rfl,_,rfl,tx st,rfl,sl,.inl ⟨rfl,_,rfl,c0,?_⟩⟩;rw[zAN];refine⟨_,rfl,_,_,rfl,rfl,?_,?_⟩
  ·show (tx _).length+1<=_;rw[zAI,wHS];exact small ∅
  refine⟨_,rfl,_,rfl,_,rfl,tx st,rfl,sl,.inr ⟨_,rfl,rfl,c0,?_⟩⟩;rw[zAN];have e1:∀l:List Nat,∀c:Nat,tx l++(⟨#[c]⟩:Str)=tx (l++[c]):=λl c=>zAL _ [c];rw[e1];refine⟨_,_,rfl,rfl,?_,?_⟩
  ·rw[zAI,zAI,wHy,wHS,wIu];exact small (by show _+1+_<=_;omega)
  rw[zAL];show zQn _ _ _ _;rw[emin];refine⟨λσ' H2=>∃(x1 x2 x3 x4 x5:Option V) (nm:List Nat),σ'=[some (.int d),some (.int (n:Nat)),some (.str "abcdefghijklmnopqrstuvwxyz"),some (.ref wl),some (.ref ml),some (.int (0+(i:Int))),x1,x2,x3,x4,some (.str (tx nm))]/\H2=H'/\(d%8≠2->nm=nmL d i),?_,?_⟩
  ·refine⟨_,rfl,_,_,rfl,rfl,(by show (0:Int) < 8;decide),_,_,rfl,rfl,_,rfl,?_⟩;refine zBD (λc=>?_) (λc=>?_)
   ·have c':d%8 < 2:=wHP c;refine⟨_,rfl,_,_,rfl,rfl,(by show (0:Int) < 5;decide),_,_,rfl,rfl,_,_,rfl,rfl,?_,?_,(by nofun),?_⟩
    ·show 0<=1+(0+(i:Int))%5;omega
    ·show 1+(0+(i:Int))%5<=1000;omega
    refine⟨_,rfl,_,rfl,_,_,rfl,rfl,⟨by decide,by decide⟩,_,_,rfl,rfl,_,_,_,rfl,rfl,by nofun,zKB (by show 0<=17+(0+(i:Int)) / 5;omega) (by show 17+(0+(i:Int)) / 5 < 26;omega),?_⟩;have eq1:(List.replicate (1+(0+(i:Int))%5).toNat (Str.ofString "q").cps.toList).flatten=List.replicate (1+i%5) 113:=by rw[show (1+(0+(i:Int))%5).toNat=1+i%5 by omega];exact zJX 113 _
    refine⟨_,_,rfl,rfl,?_,?_⟩
    ·show (tx (List.replicate (1+(0+(i:Int))%5).toNat (Str.ofString "q").cps.toList).flatten).length+1<=_;rw[eq1,zAI,wIB];exact small ∅
    refine⟨some (.str (⟨#[97+(((0+(i:Int))*7+d / 8)%26).toNat]⟩:Str)),some (.int (d / 208%8)),some (.int (min (d / 1664%8) (d / 208%8))),some (.str (tx st)),none,List.replicate (1+i%5) 113++[97+(17+i / 5)],?_,rfl,λz=>?_⟩
    ·show [_,_,_,_,_,_,_,_,_,_,some (V.str (tx (List.replicate (1+(0+(i:Int))%5).toNat (Str.ofString "q").cps.toList).flatten++(⟨#[97+(17+(0+(i:Int)) / 5).toNat]⟩:Str)))]=_;rw[eq1,e1,show (17+(0+(i:Int)) / 5).toNat=17+i / 5 by omega]
    unfold nmL;rw[wHD z,wHF c']
   have c':¬d%8 < 2:=wH9 (wIO c);refine⟨_,_,_,_,none,_,rfl,rfl,λz=>?_⟩;unfold nmL;rw[wHD z,wHD c',aF,Int.zero_add]
  rintro σ' H2 ⟨y1,y2,y3,y4,y5,nm,rfl,rfl,en⟩;refine⟨λσ' H3=>∃(x1 x2 x3 x4 x5:Option V),σ'=[some (.int d),some (.int (n:Nat)),some (.str "abcdefghijklmnopqrstuvwxyz"),some (.ref wl),some (.ref ml),some (.int (0+(i:Int))),x1,x2,x3,x4,some (.str (tx (nmL d i)))]/\H3=H2,?_,?_⟩
  ·refine⟨_,rfl,_,_,rfl,rfl,(by show (0:Int) < 8;decide),rfl,_,rfl,?_⟩;refine zBD (λc=>?_) (λc=>?_)
   ·have c':d%8=2:=V.int.inj (wHP c);have cN:atI (nws.map V.str) (0+(i:Int))=some (.str (tx (nmL d i))):=by
     refine zBE ∅ ?_;rw[show (0+(i:Int)).toNat=i by omega,wHB,wHv (show i < nws.length from aK)];unfold nmL;rw[wHF c',zAj,wHw,wHv (show i < nws.length from aK)]
     rfl
    exact⟨_,rfl,_,rfl,wl,_,_,_,rfl,rfl,SqL.of ew,cN,_,_,_,_,none,rfl,rfl⟩
   have c':¬d%8=2:=λz=>c (wHU (congrArg V.int z));rw[← en c'];exact⟨_,_,_,_,none,rfl,rfl⟩
  rintro σ' H3' ⟨z1,z2,z3,z4,z5,rfl,rfl⟩;refine⟨_,rfl,.inl ⟨rfl,_,SqL.of em⟩,_,rfl,ml,_,_,rfl,rfl,em,by rw[wHt,wHt,wIH];exact zAa ∅,?_⟩;refine⟨_,_,_,_,_,_,rfl,zAk s' hm0 _,by rw[zJ wml];exact ew,?_⟩;rw[zB,List.range_succ,wHC,wHC];rfl
 rintro σ' H' ⟨x1,x2,x3,x4,x5,x6,rfl,s',ew,em⟩;rw[show ((n:Nat):Int).toNat=n by omega] at em;refine⟨_,rfl,q ml H' _ hm0 s' em (by rw[wHt,wIH]) (λx hx=>?_) ?_⟩
 ·obtain⟨k,hk,rfl⟩:=List.mem_map.mp hx;exact zQ0 d d0 k (by have:=List.mem_range.mp hk;omega)
 refine List.pairwise_map.mpr (List.Pairwise.imp_of_mem (λ{a b} ha hb ne e=>ne ?_) (List.nodup_range (n:=n)));exact zPy d (by have:=List.mem_range.mp ha;omega) (by have:=List.mem_range.mp hb;omega) (zJ0 e)
abbrev W5:=Int × Int × Int × Int × Int
def W5.vs (p:W5):List V:=[.int p.1,.int p.2.1,.int p.2.2.1,.int p.2.2.2.1,.int p.2.2.2.2]
def pOf (ns:List Str) (p:W5):Pct:=(ns.getD p.1.toNat Str.empty,ns.getD p.2.1.toNat Str.empty,p.2.2.1,p.2.2.2.1,p.2.2.2.2)
structure OkN (n:Nat) (p:W5):Prop where
 g:0<=p.1/\p.1 < n
 u:0<=p.2.1/\p.2.1 < n
 ne:p.1≠p.2.1
 pt:1<=p.2.2.1/\p.2.2.1<=1000
 sp:0<=p.2.2.2.1/\p.2.2.2.1<=p.2.2.2.2/\p.2.2.2.2<=5000
def on5 (d:Int) (p:W5):Bool:=decide (p.2.2.2.1<=d) && decide (d<=p.2.2.2.2)
def zCc {d:Int} {p:W5}:on5 d p=true↔p.2.2.2.1<=d/\d<=p.2.2.2.2:=by unfold on5;rw[wHR,decide_eq_true_eq,decide_eq_true_eq]
def w3 (p:W5):Nat × Nat × Int:=(p.1.toNat,p.2.1.toNat,p.2.2.1)
def wyL (ws:List W5) (d:Int):Wys:=(ws.filter (on5 d)).map w3
def zGT {ns:List Str} (nd:ns.Nodup) {k:Nat} (h:k < ns.length):ns.idxOf (ns.getD k Str.empty)=k:=by
 have e:ns.getD k Str.empty=ns[k]:=by rw[wHw,wHv h];rfl
 rw[e];have hm:ns[k]∈ns:=wHZ h;have h1:=List.getElem_idxOf (List.idxOf_lt_length_iff.mpr hm);exact (List.getElem_inj (h₀:=List.idxOf_lt_length_iff.mpr hm) (h₁:=h) nd).mp h1
def zB0 {ns:List Str} (nd:ns.Nodup) {ws:List W5} (ok:∀p∈ws,OkN ns.length p) (d:Int):zBq ns (ws.map (pOf ns)) d=wyL ws d:=by unfold zBq wyL;rw[List.filter_map,List.map_map];have e:zBG d∘pOf ns=on5 d:=rfl;rw[e];refine List.map_congr_left λp hp=>?_;have o:=ok p (List.mem_filter.mp hp).1;show (ns.idxOf (ns.getD p.1.toNat Str.empty),ns.idxOf (ns.getD p.2.1.toNat Str.empty),p.2.2.1)=(p.1.toNat,p.2.1.toNat,p.2.2.1);rw[zGT nd (by have:=o.g;omega),zGT nd (by have:=o.u;omega)]
def zDG (L:Wys) (j:Nat):Int:=(L.map λw=>if w.1=j then w.2.2 else 0).sum
def zBi (w:Nat × Nat × Int) (L:Wys) (j:Nat):zDG (w::L) j=(if w.1=j then w.2.2 else 0)+zDG L j:=by unfold zDG;rw[wH6,List.sum_cons]
theorem zIn (L M:Wys) (j:Nat):zDG (L++M) j=zDG L j+zDG M j:=by unfold zDG;rw[wHC,List.sum_append]
theorem zFl (L:Wys) (j:Nat):∀n,n<=L.length->zBr L n j=zDG (L.take n) j
 | 0,_=>rfl
 | n+1,h=>by
  have hn:L[n]?=some L[n]:=wHv ∅;have e:L.getD n (0,0,0)=L[n]:=by rw[wHw,hn];rfl
  rw[wId,hn,zIn,← zFl L j n ∅];show zBr L n j+(if wg L n=j then wp L n else 0)=zBr L n j+zDG [L[n]] j;unfold wg wp;rw[e];unfold zDG;simp
def zAR (L:Wys) (j:Nat):zBr L L.length j=zDG L j:=by rw[zFl L j _ (wHA _),wH0]
theorem zC3 (L:Wys) (j:Nat):keeps L j=1000-zDG L j:=by unfold keeps;rw[zAR]
inductive RL (L:Wys):Nat->Prop
 | base {j:Nat}:zDG L j < 1000->RL L j
 | step {w:Nat × Nat × Int}:w∈L->RL L w.2.1->RL L w.1
def zJv {L:Wys} {k:Nat} (h:k < L.length):L.getD k (0,0,0)∈L:=by rw[wHw,wHv h];exact wHZ h
def zNC {L:Wys} {j:Nat} (h:Rch L.length (wt L) (wg L) (λj=>decide (0 < keeps L j)) j):RL L j:=by
 induction h with
 | base z=>refine .base ?_;have:=wHP z;rw[zC3] at this;omega
 | step hk _ ih=>exact .step (zJv hk) ih
def zNB {L:Wys} {j:Nat} (h:RL L j):Rch L.length (wt L) (wg L) (λj=>decide (0 < keeps L j)) j:=by
 induction h with
 | base z=>refine .base (wHU ?_);rw[zC3];omega
 | @step w hw _ ih=>
  obtain⟨k,hk,e⟩:=List.getElem_of_mem hw;have e2:L.getD k (0,0,0)=w:=by rw[wHw,wHv hk,e];rfl
  have s:=Rch.step (m:=L.length) (a:=wt L) (b:=wg L) (mk:=λj=>decide (0 < keeps L j)) (k:=k) hk (by unfold wt at *;rw[e2];exact ih);unfold wg at s;rw[e2] at s;exact s
def zHG {L' L:Wys} (s:L'.Sublist L) (p:∀w∈L,1<=w.2.2) (j:Nat):zDG L' j<=zDG L j:=by
 induction s with
 | slnil=>exact wII _
 | cons a _ ih=>
  rw[zBi];have:=ih λw hw=>p w (by simp[hw]);have:=p a (by simp)
  split<;>omega
 | cons_cons a _ ih=>
  rw[zBi,zBi];have:=ih λw hw=>p w (by simp[hw]);omega
def zHF {L' L:Wys} (s:L'.Sublist L) (p:∀w∈L,1<=w.2.2) {w:Nat × Nat × Int} (hw:w∈L) (hn:w∉L'):zDG L' w.1+w.2.2<=zDG L w.1:=by
 induction s with
 | slnil=>cases hw
 | @cons M' M a s ih=>
  rw[zBi];have pM:∀w∈M,1<=w.2.2:=λw hw=>p w (by simp[hw]);by_cases e:w=a
  ·subst e;rw[wHF rfl];have:=zHG s pM w.1;omega
  have:=ih pM (by rcases wIQ hw with z | z;exact absurd z e;exact z) hn;have:=p a (by simp)
  split<;>omega
 | @cons_cons M' M a s ih=>
  rw[zBi,zBi];have e:w≠a:=λe=>hn (by rw[e];simp);have:=ih (λw hw=>p w (by simp[hw])) (by rcases wIQ hw with z | z;exact absurd z e;exact z) (λz=>hn (by simp[z]));omega
def zMJ {L' L:Wys} (s:L'.Sublist L) (p:∀w∈L,1<=w.2.2) (o:∀j,zDG L j<=1000) {j:Nat} (h:RL L j):RL L' j:=by
 induction h with
 | @base i z=>exact .base (Int.lt_of_le_of_lt (zHG s p i) z)
 | @step w hw _ ih=>
  by_cases c:w∈L'
  ·exact .step c ih
  refine .base ?_;have:=zHF s p hw c;have:=o w.1;have:=p w hw;omega
structure GoodB (n:Nat) (ws:List W5):Prop where
 ok:∀p∈ws,OkN n p
 out:∀d j,zDG (wyL ws d) j<=1000
 opn:∀d j,j < n->RL (wyL ws d) j
def GoodB.nil (n:Nat):GoodB n []:=⟨λp hp=>(by cases hp),λd j=>(by show (0:Int)<=1000;decide),λd j _=>.base (by show (0:Int) < 1000;decide)⟩
def zHm (ws:List W5) (w:W5) (d:Int):Prop:=d=w.2.2.2.1∨∃p∈ws,p.2.2.2.1=d/\w.2.2.2.1 < d/\d<=w.2.2.2.2
theorem zNf (w:W5) {d:Int} (h0:w.2.2.2.1<=d) (h1:d<=w.2.2.2.2):∀ws:List W5,∃s,zHm ws w s/\w.2.2.2.1<=s/\s<=d/\∀p∈ws,p.2.2.2.1<=d->p.2.2.2.1<=s
 | []=>⟨w.2.2.2.1,.inl rfl,wII _,h0,λp hp=>by cases hp⟩
 | q::ws=>by
  obtain⟨s,i,a,b,c⟩:=zNf w h0 h1 ws;by_cases e:q.2.2.2.1<=d/\s < q.2.2.2.1
  ·refine⟨q.2.2.2.1,.inr ⟨q,by simp,rfl,by omega,by omega⟩,by omega,e.1,λp hp hd=>?_⟩;rcases wIQ hp with z | z
   ·rw[z];exact wII _
   have:=c p z hd;omega
  refine⟨s,?_,a,b,λp hp hd=>?_⟩
  ·rcases i with z | ⟨p,hp,r⟩
   ·exact .inl z
   exact .inr ⟨p,by simp[hp],r⟩
  rcases wIQ hp with z | z
  ·rw[z] at hd ⊢;exact Int.not_lt.mp λy=>e ⟨hd,y⟩
  exact c p z hd
def zNj {ws:List W5} {d s:Int} (h:∀p∈ws,on5 d p=true->on5 s p=true):(wyL ws d).Sublist (wyL ws s):=by
 have e:ws.filter (on5 d)=(ws.filter (on5 s)).filter (on5 d):=by
  rw[List.filter_filter];refine List.filter_congr λp hp=>?_;cases c:on5 d p with
  | false=>rfl
  | true=>rw[h p hp c];rfl
 unfold wyL;rw[e];exact List.Sublist.map _ List.filter_sublist
def zF1 {ws:List W5} {d:Int} {w:Nat × Nat × Int} (h:w∈wyL ws d):∃p∈ws,on5 d p=true/\w=w3 p:=by obtain⟨p,hp,e⟩:=List.mem_map.mp h;exact⟨p,(List.mem_filter.mp hp).1,(List.mem_filter.mp hp).2,e.symm⟩
def zJw {n:Nat} {ws:List W5} (ok:∀p∈ws,OkN n p) (d:Int):∀w∈wyL ws d,1<=w.2.2:=λw hw=>by obtain⟨p,hp,_,rfl⟩:=zF1 hw;exact (ok p hp).pt.1
def zC0 (ws:List W5) (w:W5) (d:Int):wyL (ws++[w]) d=if on5 d w=true then wyL ws d++[w3 w] else wyL ws d:=by
 unfold wyL;rw[List.filter_append];by_cases c:on5 d w=true
 ·rw[wHF c,List.filter_cons_of_pos c,List.filter_nil,wHC];rfl
 rw[wHD c,List.filter_cons_of_neg c,List.filter_nil,wHQ]
theorem zB8 {n:Nat} {ws:List W5} {w:W5} (ok:∀p∈ws,OkN n p) (o:OkN n w):∀p∈ws++[w],OkN n p:=λp hp=>by
 rcases wIP hp with z | z
 ·exact ok p z
 rw[wIM z];exact o
def zHH {n:Nat} {ws:List W5} {w:W5} (g:GoodB n ws) (d:Int) {j:Nat} (h:w.1.toNat≠j):zDG (wyL (ws++[w]) d) j<=1000:=by
 rw[zC0]
 split
 ·rw[zIn,zBi,wHD (show ¬(w3 w).1=j from h)];have:=g.out d j;show _+(0+0)<=_;omega
 exact g.out d j
def zHX (n:Nat) (ws:List W5):Prop:=∀i,i<=ws.length->GoodB n (ws.take i)
def zHX.nil (n:Nat):zHX n []:=λi _=>by rw[List.take_nil];exact GoodB.nil n
def zHX.all {n:Nat} {ws:List W5} (g:zHX n ws):GoodB n ws:=by have:=g ws.length (wHA _);rwa [wH0] at this
def zHX.snoc {n:Nat} {ws:List W5} {w:W5} (g:zHX n ws) (b:GoodB n (ws++[w])):zHX n (ws++[w]):=λi hi=>by
 by_cases c:i<=ws.length
 ·rw[List.take_append_of_le_length c];exact g i c
 rw[wHy] at hi;have:i=(ws++[w]).length:=by rw[wHy];show i=_+1;have:[w].length=1:=rfl;omega
 rw[this,wH0];exact b
def zIq {ns:List Str} (nd:ns.Nodup) {ws:List W5} (ok:∀p∈ws,OkN ns.length p):PsOk ns (ws.map (pOf ns)):=by
 have mem:∀k:Int,0<=k->k < ns.length->ns.getD k.toNat Str.empty∈ns:=λk h0 h1=>by rw[wHw,wHv (show k.toNat < ns.length by omega)];exact wHZ _
 refine⟨λp hp=>?_,λp hp=>?_,λp hp=>?_,λp hp=>?_⟩<;>obtain⟨w,hw,rfl⟩:=List.mem_map.mp hp<;>have o:=ok w hw
 ·exact⟨mem _ o.g.1 o.g.2,mem _ o.u.1 o.u.2⟩
 ·intro e;have e1:=zGT nd (k:=w.1.toNat) (by have:=o.g;omega);have e2:=zGT nd (k:=w.2.1.toNat) (by have:=o.u;omega);have e3:ns.idxOf (ns.getD w.1.toNat Str.empty)=ns.idxOf (ns.getD w.2.1.toNat Str.empty):=congrArg (λz=>ns.idxOf z) e;rw[e1,e2] at e3;have:=o.g;have:=o.u;have:=o.ne;omega
 ·exact o.pt
 exact o.sp
def zBw (ns:List Str) (ws:List W5) (w:W5):ws.map (pOf ns)++[pOf ns w]=(ws++[w]).map (pOf ns):=by rw[wHC];rfl
def GoodB.wy {ns:List Str} (nd:ns.Nodup) {ws:List W5} (g:GoodB ns.length ws) (d:Int):WyOk ns.length (zBq ns (ws.map (pOf ns)) d)/\zRC ns.length (zBq ns (ws.map (pOf ns)) d):=by
 refine⟨(zIq nd g.ok).wy λx=>?_,λj hj=>?_⟩
 ·rw[zB0 nd g.ok,zAR];exact g.out d x
 rw[zB0 nd g.ok];exact zNB (g.opn d j hj)
def GoodB.new {ns:List Str} (nd:ns.Nodup) {ws:List W5} {w:W5} (g:GoodB ns.length (ws++[w])):NewOk ns (ws.map (pOf ns)) (pOf ns w)/\¬zJq ns (ws.map (pOf ns)) (pOf ns w):=by
 refine⟨⟨by rw[zBw];exact zIq nd g.ok,λd x _=>?_⟩,?_⟩
 ·rw[zBw,zB0 nd g.ok,zAR];exact g.out d x
 rintro⟨d,_,_,h⟩;rw[zBw,zB0 nd g.ok,zAR] at h;have:=g.out d (ns.idxOf (pOf ns w).1);omega
def tN {ns:List Str} (nd:ns.Nodup) {w:W5} (o:OkN ns.length w):zId ns (pOf ns w).1 (pOf ns w).2.1 w.2.2.1 w.2.2.2.1 w.2.2.2.2=none:=by
 have h:=zIq nd (ws:=[w]) λp hp=>by rw[wIM hp];exact o
 have m:pOf ns w∈[w].map (pOf ns):=by simp
 have o3:=o.sp;unfold zId;rw[wHF (h.inn _ m).1,wHF (h.inn _ m).2,wHD (h.ne _ m),wHD ∅,wHF o.pt,wHF ∅,wHF ∅]
def wv (w:Nat × Nat × Int):List V:=[.int (w.1:Nat),.int (w.2.1:Nat),.int w.2.2]
theorem zJu {K:W.Frag} {H:Hp} {l:Addr} {L:Wys} (h:zAf H l (L.map wv)):∃rs,WyAt K H l rs L:=by
 obtain⟨q,h1,h2,h3⟩:=h;rw[wHt] at h2;refine⟨q.map V.ref,SqL.of h1,by rw[wHt,h2],λk hk=>?_⟩;have e1:q[k]?=some (q[k]' ∅):=wHv _;have e2:L[k]?=some L[k]:=wHv hk;refine⟨_,by rw[wHB,e1];rfl,?_⟩;have e3:L.getD k (0,0,0)=L[k]:=by rw[wHw,e2];rfl
 have:=h3 k _ _ e1 (by rw[wHB,e2];rfl);unfold wg wt wp;rw[e3];exact this
def zQf {p:W5} (h:0<=p.1/\0<=p.2.1):wv (w3 p)=[.int p.1,.int p.2.1,.int p.2.2.1]:=by show [V.int (p.1.toNat:Int),V.int (p.2.1.toNat:Int),V.int p.2.2.1]=_;rw[Int.toNat_of_nonneg h.1,Int.toNat_of_nonneg h.2]
theorem zL0 {ws:List W5} {i:Nat} {p:W5} (h:ws[i]?=some p) (d:Int):wyL (ws.take (i+1)) d=if on5 d p=true then wyL (ws.take i) d++[w3 p] else wyL (ws.take i) d:=by rw[wId,h];exact zC0 _ _ _
def zNk (ws:List W5) (d:Int):(wyL ws d).length<=ws.length:=by unfold wyL;rw[wHt];exact wIE _ _
inductive sp_on (K:W.Frag) (vs:List V) (H:Hp) (Q:VK) (E:XK):Prop
 | mk (pl:Addr) (ws:List W5) (d:Int):vs=[.ref pl,.int d]->(zAf H pl (ws.map W5.vs)/\ws.length<=900/\(∀p∈ws,0<=p.1/\0<=p.2.1)/\
 ∀l H',H l=none->zAi H H'->zAf H' l ((wyL ws d).map wv)->Q (.ref l) H')->sp_on K vs H Q E
def zPr (T:Txt P w K mg t):FnOk P w K mg base CX0 40 t.wGy t.wGz ["_law_pacts","_law_day"] (sp_on K):=by
 refine T.wGD.ok zH0 ⟨⟩ ();obtain⟨pl,ws,d,rfl,⟨qs,hp,lq,hq⟩,hz,ok,q⟩:=h;refine⟨_,(zD (zAJ 2 zH0.nd (zAd zE))
  (zD (zAW PassesOwn.never rfl (zAh K (pv 0)) (zAE K (n:=5) rfl (zO (zN (i:=3) zH0.nd rfl (Or.inl rfl)) (zO (zN (i:=4) zH0.nd rfl (Or.inl rfl)) (zO (zN (i:=5) zH0.nd rfl (Or.inl rfl)) (zO (zN (i:=6) zH0.nd rfl (Or.inl rfl)) (zO (zN (i:=7) zH0.nd rfl (Or.inl rfl)) zAA)))))) (zH (zAm (PW.pt (zCV (zS zDt (pv 6) (pv 1) (zAc _)) (zCt (zS zDt (pv 1) (pv 7) (zAc _))))) (zH (zAe (zAQ K wHW wH5 wIa zAr (pv 2) (zG (zAT (zAq (pv 3) (pv 4) (pv 5) zE zA zA zA)) zE zAF)))) zR)))
  (zH (zX (pv 2))))),?_⟩
 rw[wHt] at lq;refine⟨szl,λl hl=>?_⟩;refine⟨_,rfl,pl,rfl,⟨_,SqL.of (zC hl _ _ _ hp)⟩,zAH (xs:=qs.map V.ref) (λi σ' H'=>∃(v3 v4 v5 v6 v7:Option V),σ'=[some (.ref pl),some (.int d),some (.ref l),v3,v4,v5,v6,v7]/\zAi H H'/\zAf H' l ((wyL (ws.take i) d).map wv)) ⟨none,none,none,none,none,rfl,zC hl _,zAf.nil zB⟩ (λi σ' H' _ ⟨_,_,_,_,_,_,s',_⟩=>SqL.of (s' _ _ hp)) ?_ ?_⟩
 ·rintro i x σ' H' hi ⟨v3,v4,v5,v6,v7,rfl,s',el⟩;rw[wHB] at hi;obtain⟨a,ha,rfl⟩:=wIN hi;have aK:i < ws.length:=by rw[← lq];exact (wIL ha).1
  have bM:ws[i]?=some ws[i]:=wHv aK;have ea:=s' _ _ (hq i a _ ha (by rw[wHB,bM];rfl));have o:=ok ws[i] (wHZ aK);refine⟨a,_,rfl,SqT.of ea,rfl,_,_,rfl,_,_,rfl,_,_,rfl,_,_,rfl,_,_,rfl,rfl,?_⟩;rw[zL0 bM];refine⟨_,rfl,_,rfl,_,_,rfl,rfl,_,rfl,?_⟩;by_cases c1:(ws[i]).2.2.2.1<=d
  ·refine zGj c1 ⟨_,rfl,_,rfl,_,_,rfl,rfl,_,rfl,?_⟩;by_cases c2:d<=(ws[i]).2.2.2.2
   ·refine zGj c2 ?_;obtain⟨q2,g1,g2,g3⟩:=el;refine⟨_,rfl,.inl ⟨rfl,_,SqL.of g1⟩,_,rfl,_,rfl,_,rfl,szl,λp cY=>?_⟩;have s2:=zC cY (.tup [.int (ws[i]).1,.int (ws[i]).2.1,.int (ws[i]).2.2.1]);have g1':=s2 _ _ g1;have lw:=zNk (ws.take i) d;rw[wHS] at lw;refine⟨l,_,_,rfl,rfl,g1',by rw[wHt,g2,wHt];exact zAa ∅,_,_,_,_,_,rfl,zAk (s'.trans s2) hl _,?_⟩;rw[wHF (zCc.mpr ⟨c1,c2⟩),wHC,wH6,zQf o];exact zAf.snoc g1' g2 (λi a ys e1 e2=>s2 _ _ (g3 i a ys e1 e2)) zB
   rw[wHD λz=>c2 (zCc.mp z).2];exact zFU c2 ⟨_,_,_,_,_,rfl,s',el⟩
  rw[wHD λz=>c1 (zCc.mp z).1];exact zFU c1 (zBC ⟨_,_,_,_,_,rfl,s',el⟩)
 rintro σ' H' ⟨v3,v4,v5,v6,v7,rfl,s',el⟩;rw[wHt,lq,wH0] at el;exact⟨_,rfl,q l H' hl s' el⟩
inductive sp_left (K:W.Frag) (vs:List V) (H:Hp) (Q:VK) (E:XK):Prop
 | mk (n:Nat) (r:Addr) (rs:List V) (ws:Wys):vs=[.int (n:Nat),.ref r]->(WyAt K H r rs ws/\(∀k,k < ws.length->wg ws k < n)/\n<=900/\
 ∀(d:Addr) (H':Hp),H d=none->zAi H H'->H' d=some (.lst (tab n λh=>V.int (keeps ws h)))->Q (.ref d) H')->sp_left K vs H Q E
def zKy (T:Txt P w K mg t):FnOk P w K mg base CX0 40 t.wE6 t.wE7 ["_law_count","_law_ways"] (sp_left K):=by
 refine T.wFp.ok zEi ⟨⟩ ();obtain⟨n,r,rs,ws,rfl,wa,wo,n9,q⟩:=h;refine⟨_,(zD (zAJ 2 zEi.nd (zP zMQ (zAd (zG zF zE zI)) (pv 0)))
  (zD (zAW PassesOwn.never rfl (zAh K (pv 1)) (zAE K (n:=3) rfl (zO (zN (i:=3) zEi.nd rfl (Or.inl rfl)) (zO (zN (i:=4) zEi.nd rfl (Or.inl rfl)) (zO (zN (i:=5) zEi.nd rfl (Or.inl rfl)) zAA)))) (zH (zKg (pv 2) (pv 3) zIz (pv 5) zMU zCQ)))
  (zH (zX (pv 2))))),?_⟩
 refine⟨szl,λl1 h1=>⟨_,rfl,l1,_,_,rfl,rfl,zB,by omega,by omega,?_,λd hd=>?_⟩⟩
 ·show 1*_<=sizeLine;exact small ∅
 have s0:=(zC h1 (.lst [V.int 1000])).trans (zC hd (.lst (List.replicate (n:Int).toNat [V.int 1000]).flatten));have cC:H d=none:=(zC h1 _).free hd;refine⟨_,rfl,r,rfl,⟨_,s0.seq wa.sq⟩,zAH (K:=K) (a:=r) (xs:=rs) (λi σ' H'=>∃u v w,σ'=[some (.int (n:Nat)),some (.ref r),some (.ref d),u,v,w]/\zAi H H'/\H' d=some (.lst (tab n λh=>V.int (1000-zBr ws i h))))
  ⟨_,_,_,rfl,s0,by rw[zB,zQv,wIs,zJ9];exact congrArg (λl=>some (HO.lst l)) (zEc λi _=>by show _=V.int (1000-0);rfl)⟩ (λi σ' H' _ ⟨_,_,_,_,sm,_⟩=>sm.seq wa.sq) ?_ ?_⟩
 ·rintro i x σ' H' hx ⟨u,v,w,rfl,sm,ed⟩;have hi:i < ws.length:=by rw[← wa.len];exact (wIL hx).1
  obtain⟨q',e1,e2⟩:=wa.at_ i hi;have ex:x=.ref q':=by rw[e1] at hx;exact (wHE hx).symm
  subst ex;refine⟨q',_,rfl,SqT.of (sm _ _ e2),rfl,_,_,rfl,_,_,rfl,_,_,rfl,rfl,?_⟩;refine⟨_,rfl,_,rfl,d,_,_,_,rfl,rfl,SqL.of ed,zD1 (wo i hi),_,rfl,_,_,rfl,rfl,d,_,_,_,rfl,rfl,ed,zDT (wo i hi),?_⟩;exact⟨_,_,_,rfl,zAk sm cC _,by rw[zB,zGM]⟩
 rintro σ' H' ⟨u,v,w,rfl,sm,ed⟩;rw[wa.len] at ed;exact⟨_,rfl,q d H' cC sm ed⟩
structure Mk (n:Nat) (ws:Wys) (f:Nat->Bool):Prop where
 base:∀j,0 < keeps ws j->f j=true
 snd:∀j,f j=true->Rch ws.length (wt ws) (wg ws) (λj=>decide (0 < keeps ws j)) j
def Mk.iff {n:Nat} {ws:Wys} {f:Nat->Bool} (h:Mk n ws f) (c:Clo ws.length (wt ws) (wg ws) f) (j:Nat):f j=true↔Rch ws.length (wt ws) (wg ws) (λj=>decide (0 < keeps ws j)) j:=by
 refine⟨h.snd j,λr=>?_⟩
 induction r with
 | base z=>exact h.base _ (wHP z)
 | step hk _ ih=>exact c _ hk ih
inductive sp_closed (K:W.Frag) (vs:List V) (H:Hp) (Q:VK) (E:XK):Prop
 | mk (n:Nat) (r:Addr) (rs:List V) (ws:Wys):vs=[.int (n:Nat),.ref r]->(WyAt K H r rs ws/\WyOk n ws/\n<=900/\
 ∀(d:Addr) (f:Nat->Bool) (H':Hp),H d=none->zAi H H'->H' d=some (.lst ((plc (λj=>!f j) n).map V.int))->(∀j,f j=true↔Rch ws.length (wt ws) (wg ws) (λj=>decide (0 < keeps ws j)) j)->Q (.ref d) H')->sp_closed K vs H Q E
def zK0 (T:Txt P w K mg t):FnOk P w K mg base CX0 41 t.wDO t.wDP ["_law_count","_law_ways"] (sp_closed K):=by
 refine T.wFq.ok zBh ⟨⟩ ();obtain⟨n,r,rs,ws,rfl,wa,wo,n9,q⟩:=h;refine⟨_,(zD (zFj (i:=2) zBh.nd rfl (Or.inr rfl) (zA4 ["_law_part"] [none] (by kernel_rfl) rfl (zAh K (cal (zKy T) hr T.wGj T.wFp T.wGi (zY (pv 0) (pv 1) zE zA zA))) (λ_ _ _ _ _=>(zN (i:=0) ndB rfl (Or.inl rfl))) (λ_ _ _ _ _=>zAO) (λ_ _ _ _ _=>(zDs zKu (pv 0) zF (zAc _)))))
  (zD (zAJ 3 zBh.nd zHD)
  (zD (zLS PassesOwn.never (zAM (pv 3)) (zD (zAJ 3 zBh.nd zHD)
  (zH (zAW PassesOwn.never rfl (zAh K (pv 1)) (zAE K (n:=3) rfl (zO (zN (i:=4) zBh.nd rfl (Or.inl rfl)) (zO (zN (i:=5) zBh.nd rfl (Or.inl rfl)) (zO (zN (i:=6) zBh.nd rfl (Or.inl rfl)) zAA)))) (zH (zAm (PW.pt (zCV (zAM (zA8 K (pv 2) (pv 5))) (zCt (zEs (zAM (zA8 K (pv 2) (pv 4))))))) (zD (zG5 zHD (zKj (pv 2) (pv 4) zCQ))
  (zH (zAJ 3 zBh.nd zHD))) zR))))))
  (zH (zX (zA4 ["_law_k","_law_safe"] [none,some 2] (by kernel_rfl) rfl (zBu rfl T.wAN (zG (pv 0) zE zA)) (λ_ _ _ _ _=>(zN (i:=0) ndB rfl (Or.inl rfl))) (λ_ _ _ _ _=>(zCJ (zEs (zAM (zA8 K (pv 1) (pv 0)))))) (λ_ _ _ _ _=>(pv 0)))))))),?_⟩
 refine⟨_,rfl,_,rfl,n,r,rs,ws,rfl,wa,wo.g,n9,λkp H0 hkp sk ek=>⟨kp,rfl,⟨_,SqL.of ek⟩,λd hd=>?_⟩⟩;refine zAz (K:=K) (ys:=tab n λh=>V.int (keeps ws h)) (λi σ' H'=>∃v,σ'=[v]/\H'=upd H0 d (.lst (tab i λj=>V.bl (decide (0 < keeps ws j))))) ⟨none,rfl,rfl⟩ (λj σ2 H2 _ ⟨_,_,e⟩=>by rw[e];exact SqL.of (zC hd _ _ _ ek)) ?_ ?_
 ·rintro i x σ' H' hx ⟨v,rfl,rfl⟩;obtain⟨hi,rfl⟩:=zIb hx;refine⟨_,rfl,_,_,rfl,rfl,_,zB,by rw[zBN];exact zBH ∅,_,rfl,?_⟩;rw[zBl,← zIc]
 rintro σ' H1 ⟨v,rfl,rfl⟩;rw[zBN];have s0:=sk.trans (zC hd (.lst (tab n λj=>V.bl (decide (0 < keeps ws j)))));have cC:H d=none:=sk.free hd;refine⟨λm σ' H'=>∃(b:Bool) (f:Nat->Bool) (u v w:Option V),σ'=[some (.int (n:Nat)),some (.ref r),some (.ref d),some (.bl b),u,v,w]/\zAi H H'/\H' d=some (.lst (tab n λj=>V.bl (f j)))/\Mk n ws f/\(b=false->Clo ws.length (wt ws) (wg ws) f)/\m=2*(n-cnt f n)+(if b=true then 1 else 0),
  ⟨_,true,λj=>decide (0 < keeps ws j),_,_,_,rfl,s0,zB,⟨λj h=>wHU h,λj h=>.base h⟩,(λz=>by cases z),rfl⟩,?_⟩
 rintro m σ' H1 ⟨b,f,u,v,w,rfl,s1,ed,mk,cl,rfl⟩;cases b with
 | true=>
  refine⟨_,rfl,_,rfl,zDh ?_⟩;have hc:=zI6 f n;refine⟨λσ' H'=>∃(b:Bool) (g:Nat->Bool) (u v w:Option V),σ'=[some (.int (n:Nat)),some (.ref r),some (.ref d),some (.bl b),u,v,w]/\zAi H H'/\H' d=some (.lst (tab n λj=>V.bl (g j)))/\Mk n ws g/\(b=true->cnt f n+1<=cnt g n)/\(b=false->g=f/\Clo ws.length (wt ws) (wg ws) f),?_,?_⟩
  ·rintro σ' H' ⟨b,g,u,v,w,rfl,sm,ed,mk,h1,h2⟩;have hc2:=zI6 g n;refine⟨_,?_,b,g,u,v,w,rfl,sm,ed,mk,λz=>by obtain⟨e,c⟩:=h2 z;rw[e];exact c,rfl⟩;cases b with
   | true=>have:=h1 rfl;simp only[if_true];omega
   | false=>obtain⟨e,_⟩:=h2 rfl;rw[e];simp
  refine⟨_,rfl,r,rfl,⟨_,s1.seq wa.sq⟩,zAH (K:=K) (a:=r) (xs:=rs) (λi σ' H'=>∃(b:Bool) (g:Nat->Bool) (u v w:Option V),σ'=[some (.int (n:Nat)),some (.ref r),some (.ref d),some (.bl b),u,v,w]/\zAi H H'/\H' d=some (.lst (tab n λj=>V.bl (g j)))/\Mk n ws g/\(∀j,f j=true->g j=true)/\(b=true->cnt f n+1<=cnt g n)/\(b=false->g=f/\∀k,k < i->f (wt ws k)=true->f (wg ws k)=true))
   ⟨false,f,_,_,_,rfl,s1,ed,mk,λ_ z=>z,(λz=>by cases z),λ_=>⟨rfl,λk hk=>absurd hk (wIy _)⟩⟩ (λj σ' H' _ ⟨_,_,_,_,_,_,sm,_⟩=>sm.seq wa.sq) ?_ ?_⟩
  ·rintro i x σ' H' hx ⟨b,g,u,v,w,rfl,sm,ed,mk,le,h1,h2⟩;have hj:i < ws.length:=by rw[← wa.len];exact (wIL hx).1
   obtain⟨q',e1,e2⟩:=wa.at_ i hj;have ex:x=.ref q':=by rw[e1] at hx;exact (wHE hx).symm
   subst ex;have ht:=wo.t i hj;have hg:=wo.g i hj;have stay:¬(g (wt ws i)=true/\¬g (wg ws i)=true)->(b=false->g=f/\∀k,k < i+1->f (wt ws k)=true->f (wg ws k)=true):=λno z=>by
    obtain⟨e,c⟩:=h2 z;refine⟨e,λk hk hf=>?_⟩;by_cases e3:k=i
    ·subst e3;rw[e] at no;exact wIt λy=>no ⟨hf,y⟩
    exact c k ∅ hf
   refine⟨q',_,rfl,SqT.of (sm _ _ e2),rfl,_,_,rfl,_,_,rfl,_,_,rfl,rfl,?_⟩;refine⟨_,rfl,_,rfl,d,_,_,_,rfl,rfl,SqL.of ed,zD1 ht,_,rfl,zBD (λc=>?_) (λc=>?_)⟩
   ·refine⟨_,rfl,_,rfl,d,_,_,_,rfl,rfl,SqL.of ed,zD1 hg,_,rfl,zBD (λc2=>?_) (λc2=>?_)⟩
    ·have c3:¬g (wg ws i)=true:=λz=>by have c4:(!g (wg ws i))=true:=c2;rw[z] at c4;cases c4
     have up:∀j,g j=true->(if j=wg ws i then true else g j)=true:=λj z=>by split;rfl;exact z
     refine⟨_,rfl,_,rfl,d,_,_,_,rfl,rfl,ed,zDT hg,true,λj=>if j=wg ws i then true else g j,_,_,_,rfl,zAk sm cC _,?_,⟨λj z=>up j (mk.base j z),λj z=>?_⟩,λj z=>up j (le j z),λ_=>?_,(λz=>by cases z)⟩
     ·rw[zB,zHq];refine congrArg (λl=>some (HO.lst l)) (zEc λj _=>?_);by_cases e:j=wg ws i
      ·simp[e]
      simp[e]
     ·by_cases e:j=wg ws i
      ·rw[e];exact .step hj (mk.snd _ c)
      simp only[wHD e] at z;exact mk.snd j z
     have:=zGe le n;have:=zGd (f:=g) (g:=λj=>if j=wg ws i then true else g j) up c3 (by simp) hg;omega
    have c3:g (wg ws i)=true:=wIt λz=>c2 (by show (!g (wg ws i))=true;rw[wIO z];rfl);exact⟨b,g,_,_,_,rfl,sm,ed,mk,le,h1,stay λz=>z.2 c3⟩
   exact zBC ⟨b,g,_,_,_,rfl,sm,ed,mk,le,h1,stay λz=>c z.1⟩
  rintro σ' H' ⟨b,g,u,v,w,rfl,sm,ed,mk,le,h1,h2⟩;exact⟨b,g,u,v,w,rfl,sm,ed,mk,h1,λz=>by obtain⟨e,c⟩:=h2 z;rw[wa.len] at c;exact⟨e,c⟩⟩
 | false=>
  refine⟨_,rfl,_,rfl,zBC ?_⟩;have hf:=mk.iff (cl rfl);refine⟨_,rfl,(n:Nat),rfl,by omega,by omega,λg hg=>?_⟩;refine zD0 (n:=((n:Nat):Int).toNat) (λi σ' H'=>∃v,σ'=[v,some (.ref d)]/\H'=upd H1 g (.lst ((plc (λj=>!f j) i).map V.int))) ⟨none,rfl,rfl⟩ ?_ ?_
  ·rintro i σ' H' hi ⟨v,rfl,rfl⟩;have pl:=zCI (λj=>!f j) i;refine⟨_,rfl,_,rfl,d,_,_,_,rfl,rfl,SqL.of (zC hg _ _ _ ed),zIA ∅ ∅,_,rfl,zBD (λc1=>?_) (λc1=>?_)⟩
   ·rw[show (0+(i:Int)).toNat=i by omega] at c1;refine⟨_,rfl,_,zB,by rw[wHt];exact zBH ∅,_,rfl,?_⟩;rw[zBl,show plc (λj=>!f j) (i+1)=plc (λj=>!f j) i++[(i:Int)] by show (if _ then _ else _)=_;rw[wHF c1],show (0+(i:Int))=i by omega,zBO]
   rw[show (0+(i:Int)).toNat=i by omega] at c1;exact⟨_,rfl,by rw[show plc (λj=>!f j) (i+1)=plc (λj=>!f j) i by show (if _ then _ else _)=_;rw[wHD c1]]⟩
  rintro σ' H' ⟨v,rfl,rfl⟩;rw[wIs];exact q g f _ (s1.free hg) (s1.trans (zC hg _)) zB hf
open Classical in
noncomputable def shB (L:Wys):Nat->Bool:=λj=>decide (¬RL L j)
open Classical in
theorem zDm {L:Wys} {j:Nat}:shB L j=true↔¬RL L j:=by unfold shB;exact decide_eq_true_iff
theorem zHB {f g:Nat->Bool}:∀{n:Nat},(∀j,j < n->f j=g j)->plc f n=plc g n
 | 0,_=>rfl
 | n+1,h=>by show (if _ then _ else _)=(if _ then _ else _);rw[h n ∅,zHB λj hj=>h j ∅]
theorem zMM {f:Nat->Bool} {n:Nat} {x:Int} (h:x∈plc f n):0<=x/\x < n/\f x.toNat=true:=by obtain⟨j,hj,hb,e⟩:=zCf.mp h;subst e;exact⟨by omega,by omega,by rw[wIs];exact hb⟩
def OvD (ws:List W5) (w:W5):Prop:=∃d,w.2.2.2.1<=d/\d<=w.2.2.2.2/\1000 < zDG (wyL (ws++[w]) d) w.1.toNat
noncomputable def zEg (n:Nat) (ws:List W5) (w:W5) (d:Int):List Int:=plc (shB (wyL (ws++[w]) d)) n
def ShD (n:Nat) (ws:List W5) (w:W5) (d:Int):Prop:=w.2.2.2.1<=d/\d<=w.2.2.2.2/\zEg n ws w d≠[]/\∀e,w.2.2.2.1<=e->e < d->zEg n ws w e=[]
theorem zIe {ns:List Str} (nd:ns.Nodup) {ws:List W5} {w:W5} (ok:∀p∈ws++[w],OkN ns.length p) (d:Int):zAZ ns (ws.map (pOf ns)++[pOf ns w]) d=zEg ns.length ws w d:=by unfold zAZ zEg;refine zHB λj _=>?_;rw[Bool.eq_iff_iff,zGv,zDm,zBw,zB0 nd ok];exact not_congr ⟨zNC,zNB⟩
def zN0 {n:Nat} {ws:List W5} {w:W5} (g:GoodB n ws) {d:Int} (h:¬(w.2.2.2.1<=d/\d<=w.2.2.2.2)):zEg n ws w d=[]:=by unfold zEg;rw[zC0,wHD λz=>h (zCc.mp z)];refine List.eq_nil_iff_forall_not_mem.mpr λz hz=>?_;obtain⟨j,hj,hb,_⟩:=zCf.mp hz;exact (zDm.mp hb) (g.opn d j hj)
def zPC {ns:List Str} (nd:ns.Nodup) {w:W5} (o:OkN ns.length w):ns.idxOf (pOf ns w).1=w.1.toNat:=zGT nd (by have:=o.g;omega)
def zMh {ns:List Str} (nd:ns.Nodup) {ws:List W5} {w:W5} (g:GoodB ns.length ws) (o:OkN ns.length w):NewOk ns (ws.map (pOf ns)) (pOf ns w):=by refine⟨by rw[zBw];exact zIq nd (zB8 g.ok o),λd x hx=>?_⟩;rw[zBw,zB0 nd (zB8 g.ok o),zAR];exact zHH g d λz=>hx (by rw[zPC nd o,z])
def zPp {ns:List Str} (nd:ns.Nodup) {ws:List W5} {w:W5} (g:GoodB ns.length ws) (o:OkN ns.length w):zJq ns (ws.map (pOf ns)) (pOf ns w)↔OvD ws w:=by
 have sp:=o.sp;unfold zJq OvD;rw[zPC nd o,zBw];constructor
 ·rintro⟨d,h0,h1,h⟩;rw[zB0 nd (zB8 g.ok o),zAR] at h;by_cases c:w.2.2.2.1<=d/\d<=w.2.2.2.2
  ·exact⟨d,c.1,c.2,h⟩
  rw[zC0,wHD λz=>c (zCc.mp z)] at h;have:=g.out d w.1.toNat;omega
 rintro⟨d,h0,h1,h⟩;refine⟨d,by omega,by omega,?_⟩;rw[zB0 nd (zB8 g.ok o),zAR];exact h
def zOp {ns:List Str} (nd:ns.Nodup) {ws:List W5} {w:W5} (g:GoodB ns.length ws) (o:OkN ns.length w) {d:Int} (f:zEK ns (ws.map (pOf ns)++[pOf ns w]) d):ShD ns.length ws w d:=by obtain⟨h0,h1,h2,h3⟩:=f;have sp:=o.sp;rw[zIe nd (zB8 g.ok o)] at h2;have c:w.2.2.2.1<=d/\d<=w.2.2.2.2:=wIt λz=>h2 (zN0 g z);refine⟨c.1,c.2,h2,λe e0 e1=>?_⟩;rw[← zIe nd (zB8 g.ok o)];exact h3 e ∅ e1
def zMg {ns:List Str} (nd:ns.Nodup) {ws:List W5} {w:W5} (g:GoodB ns.length ws) (o:OkN ns.length w) (f:zHl ns (ws.map (pOf ns)++[pOf ns w])) (d:Int) (h0:w.2.2.2.1<=d) (h1:d<=w.2.2.2.2):zEg ns.length ws w d=[]:=by have sp:=o.sp;rw[← zIe nd (zB8 g.ok o)];exact f d ∅ ∅
def zNz {n:Nat} {ws:List W5} {w:W5} {d e:Int} (h:ShD n ws w d) (k:ShD n ws w e):d=e:=by
 obtain⟨a0,a1,a2,a3⟩:=h;obtain⟨b0,b1,b2,b3⟩:=k;rcases Int.lt_trichotomy d e with z | z | z
 ·exact absurd (b3 d a0 z) a2
 ·exact z
 exact absurd (a3 e b0 z) b2
def zPE {n:Nat} {ws:List W5} {w:W5} (g:GoodB n ws) (o:OkN n w) (aW:¬OvD ws w) (bH:∀d,w.2.2.2.1<=d->d<=w.2.2.2.2->zEg n ws w d=[]):GoodB n (ws++[w]):=by
 refine⟨zB8 g.ok o,λd j=>?_,λd j hj=>?_⟩
 ·by_cases c:w.1.toNat=j
  ·rw[← c];by_cases e:w.2.2.2.1<=d/\d<=w.2.2.2.2
   ·exact Int.not_lt.mp λz=>aW ⟨d,e.1,e.2,z⟩
   rw[zC0,wHD λz=>e (zCc.mp z)];exact g.out d _
  exact zHH g d c
 by_cases e:w.2.2.2.1<=d/\d<=w.2.2.2.2
 ·refine wIt λz=>?_;have:((j:Nat):Int)∈zEg n ws w d:=zCf.mpr ⟨j,hj,zDm.mpr z,rfl⟩;rw[bH d e.1 e.2] at this;cases this
 rw[zC0,wHD λz=>e (zCc.mp z)];exact g.opn d j hj
theorem zKc {K:W.Frag} {H:Hp}:∀ns:List Int,RdA K H (ns.map V.int) (ns.map PyData.int)
 | []=>.nil
 | n::ns=>.cons (.int n) (zKc ns)
def zHv (ns:List Int):PySem.SeqAt.shaped (.list (ns.map PyData.int))=true:=by
 have c:∀ns:List Int,PyData.canLayAll0 (ns.map PyData.int)=true/\PyData.depthAll (ns.map PyData.int)=0:=by
  intro ns
  induction ns with
  | nil=>exact⟨rfl,rfl⟩
  | cons n ns ih=>
   obtain⟨h1,h2⟩:=ih;refine⟨?_,?_⟩
   ·show (true && PyData.canLayAll0 (ns.map PyData.int))=true;rw[h1];rfl
   show max 0 (PyData.depthAll (ns.map PyData.int))=0;rw[h2];rfl
 obtain⟨h1,h2⟩:=c ns;show (PyData.canLayAll0 (ns.map PyData.int) && decide (PyData.depthAll (ns.map PyData.int)+1<=64))=true;rw[h1,h2];rfl
def zO8 {n:Nat} {ws:List W5} (ok:∀p∈ws,OkN n p) (d:Int):∀k,k < (wyL ws d).length->wg (wyL ws d) k < n:=λk hk=>by obtain⟨p,hp,_,e⟩:=zF1 (zJv hk);unfold wg;rw[e];show p.1.toNat < n;have:=(ok p hp).g;omega
def zO6 {n:Nat} {ws:List W5} (ok:∀p∈ws,OkN n p) {d:Int} (o:∀j,zDG (wyL ws d) j<=1000):WyOk n (wyL ws d):=by
 refine⟨zO8 ok d,λk hk=>?_,λk hk=>?_,λk hk=>?_,λx=>by rw[zAR];exact o x⟩<;>obtain⟨p,hp,_,e⟩:=zF1 (zJv hk)<;>have h:=ok p hp
 ·unfold wt;rw[e];show p.2.1.toNat < n;have:=h.u;omega
 ·unfold wg wt;rw[e];show p.1.toNat≠p.2.1.toNat;have:=h.g;have:=h.u;have:=h.ne;omega
 unfold wp;rw[e];exact h.pt
def zHZ {H:Hp} {pl nw p:Addr} {qs:List Addr} {ws:List W5} {w:W5} (hp:H pl=some (.lst (qs.map V.ref))) (lq:qs.length=ws.length) (hq:∀(i:Nat) (a:Addr) (ys:List V),qs[i]?=some a->(ws.map W5.vs)[i]?=some ys->H a=some (.tup ys)) (hn:H nw=some (.tup w.vs)) (e:H p=some (.lst (qs.map V.ref++[V.ref nw]))):zAf H p ((ws++[w]).map W5.vs):=by
 refine⟨qs++[nw],by rw[e,wHC];rfl,by rw[wHy,wHt,wHy,lq];rfl,λi a ys e1 e2=>?_⟩;by_cases c:i < qs.length
 ·rw[wHJ c] at e1;rw[wHC,wHJ (by rw[wHt];omega)] at e2;exact hq i a ys e1 e2
 rw[wHK ∅] at e1;rw[wHC,wHK (by rw[wHt];omega),wHt,← lq] at e2;have z:i-qs.length=0:=by have:=(wIL e1).1;have l1:[nw].length=1:=rfl;omega
 rw[z] at e1 e2;cases e1;cases e2;exact hn
def zKo {n:Nat} {ws:List W5} {w:W5} {d:Int} (h0:w.2.2.2.1<=d) (h1:d<=w.2.2.2.2):∃s,zHm ws w s/\w.2.2.2.1<=s/\s<=d/\(wyL (ws++[w]) d).Sublist (wyL (ws++[w]) s):=by
 obtain⟨s,i,a,b,c⟩:=zNf w h0 h1 ws;refine⟨s,i,a,b,zNj λp hp e=>?_⟩;obtain⟨e0,e1⟩:=zCc.mp e;refine zCc.mpr ⟨?_,by omega⟩;rcases wIP hp with z | z
 ·exact c p z e0
 rw[wIM z];exact a
def zIw {ws:List W5} {w:W5} {d:Int} (o:w.2.2.2.1<=w.2.2.2.2) (h:zHm ws w d):w.2.2.2.1<=d/\d<=w.2.2.2.2:=by
 rcases h with rfl | ⟨p,_,_,h1,h2⟩
 ·exact⟨wII _,o⟩
 exact⟨by omega,h2⟩
def zME {n:Nat} {ws:List W5} {w:W5} {d:Int}:zEg n ws w d=[]↔∀j,j < n->RL (wyL (ws++[w]) d) j:=by
 constructor
 ·intro h j hj;refine wIt λz=>?_;have:((j:Nat):Int)∈zEg n ws w d:=zCf.mpr ⟨j,hj,zDm.mpr z,rfl⟩;rw[h] at this;cases this
 intro h;refine List.eq_nil_iff_forall_not_mem.mpr λz hz=>?_;obtain⟨j,hj,hb,_⟩:=zCf.mp hz;exact (zDm.mp hb) (h j hj)
def zQD {ms:List Int} (pw:ms.Pairwise (·<=·)) {i:Nat} {d s:Int} (hd:ms[i]?=some d) (hs:s∈ms) (lt:s < d):s∈ms.take i:=by
 obtain⟨j,hj,e⟩:=List.getElem_of_mem hs;obtain⟨hi,e2⟩:=wIL hd;by_cases c:j < i
 ·exact wIe (i:=j) (by rw[List.getElem?_take_of_lt c,wHv hj,e])
 exfalso
 by_cases z:i=j
 ·subst z;omega
 have:=List.pairwise_iff_getElem.mp pw i j hi hj ∅;omega
inductive Du (H:Hp) (du:Addr) (n:Nat) (ws:List W5) (w:W5):Prop
 | over (y z:V):OvD ws w->H du=some (.tup [.str "too much",y,z])->Du H du n ws w
 | shut (d:Int) (l:Addr):¬OvD ws w->ShD n ws w d->H du=some (.tup [.str "shut in",.int d,.ref l])->H l=some (.lst ((zEg n ws w d).map V.int))->Du H du n ws w
 | none (y z:V):¬OvD ws w->(∀d,w.2.2.2.1<=d->d<=w.2.2.2.2->zEg n ws w d=[])->H du=some (.tup [.str "",y,z])->Du H du n ws w
inductive sp_due (K:W.Frag) (vs:List V) (H:Hp) (Q:VK) (E:XK):Prop
 | mk (n:Nat) (pl nw:Addr) (ws:List W5) (w:W5):vs=[.int (n:Nat),.ref pl,.ref nw]->(zAf H pl (ws.map W5.vs)/\H nw=some (.tup w.vs)/\GoodB n ws/\OkN n w/\n<=15/\ws.length<=50/\
 ∀(q:Addr) (H':Hp),zAi H H'->Du H' q n ws w->Q (.ref q) H')->sp_due K vs H Q E
def zPt (T:Txt P w K mg t):FnOk P w K mg base CX0 42 t.wF0 t.wF1 ["_law_count","_law_pacts","_law_new"] (sp_due K):=by
 refine T.wGI.ok zEk ⟨⟩ ();obtain⟨n,pl,nw,ws,w,rfl,⟨qs,hp,lq,hq⟩,bN,gb,o,n15,hz,q⟩:=h;refine⟨_,(zD (zAJ 3 zEk.nd (zAd (zG (zDL K (pv 2) zF) zE zL)))
  (zD (zAW PassesOwn.never rfl (zAh K (pv 1)) (zN (i:=4) zEk.nd rfl (Or.inl rfl)) (zH (zAm (PW.pt (zCV (zS zDH (zDL K (pv 2) zF) (zDL K (pv 4) zF) (zAc _)) (zCt (zS zDt (zDL K (pv 4) zF) (zDL K (pv 2) zF) (zAc _))))) (zH (zAe (zAQ K wHW wH5 wIa zAr (pv 3) (zG (zDL K (pv 4) zF) zE zL)))) zR)))
  (zD (zAJ 3 zEk.nd (zU zEE rfl T.wD2 PyProof.Rows.boot_sorted (zG (pv 3) zE zA)))
  (zD (zAW PassesOwn.never rfl (zAh K (pv 3)) (zN (i:=5) zEk.nd rfl (Or.inl rfl)) (zH (zAm (zS zDH (zA8 K (cal (zKy T) hr T.wGj T.wFp T.wGi (zY (pv 0) (cal (zPr T) hr T.wG5 T.wGD T.wG4 (zY (zP zD7 (pv 1) (zAd (zG (pv 2) zE zA))) (pv 5) zE zV zA)) zE zA zZ)) (zDL K (pv 2) zF)) zF (zAc _)) (zH (zX (zAT (zG zT (zY zF (zAd zE) zE zI zBg) zI)))) zR)))
  (zD (zAW PassesOwn.never rfl (zAh K (pv 3)) (zN (i:=5) zEk.nd rfl (Or.inl rfl)) (zD (zAJ 6 zEk.nd (cal (zK0 T) hr T.wGF T.wFq T.wGE (zY (pv 0) (cal (zPr T) hr T.wG5 T.wGD T.wG4 (zY (zP zD7 (pv 1) (zAd (zG (pv 2) zE zA))) (pv 5) zE zV zA)) zE zA zZ)))
  (zH (zAm (zS (zMR hr.units) (pv 6) (zAd zE) (zAc _)) (zH (zX (zAT (zG zT (zY (pv 5) (pv 6) zE zA zA) zI)))) zR))))
  (zH (zX (zAT (zG zT (zY zF (zAd zE) zE zI zBg) zI))))))))),?_⟩
 rw[wHt] at lq;have Sn:=SqT.of (K:=K) bN;refine⟨_,rfl,nw,_,3,_,rfl,rfl,Sn,rfl,szl,λdl eA=>?_⟩;have s1:=zC eA (.lst [.int w.2.2.2.1]);refine⟨_,rfl,pl,rfl,⟨_,SqL.of (s1 _ _ hp)⟩,zAH (xs:=qs.map V.ref) (λi σ' H'=>∃(v4:Option V) (ds:List Int),σ'=[some (.int (n:Nat)),some (.ref pl),some (.ref nw),some (.ref dl),v4,none,none]/\zAi H H'/\H' dl=some (.lst (ds.map V.int))/\ds.length<=i+1/\∀d,d∈ds↔zHm (ws.take i) w d)
  ⟨none,[w.2.2.2.1],rfl,s1,zB,wHA _,λd=>⟨λz=>.inl (wIM z),λz=>by rcases z with y | ⟨p,hp,_⟩;rw[y];simp;cases hp⟩⟩ (λi σ' H' _ ⟨_,_,_,s',_⟩=>SqL.of (s' _ _ hp)) ?_ ?_⟩
 ·rintro i x σ' H' hi ⟨v4,ds,rfl,s',ed,ld,md⟩;rw[wHB] at hi;obtain⟨a,ha,rfl⟩:=wIN hi;have aK:i < ws.length:=by rw[← lq];exact (wIL ha).1
  have bM:ws[i]?=some ws[i]:=wHv aK;have Sa:=SqT.of (K:=K) (s' _ _ (hq i a _ ha (by rw[wHB,bM];rfl)));have Sn':=SqT.of (K:=K) (s' _ _ bN);have tk:ws.take (i+1)=ws.take i++[ws[i]]:=by rw[wId,bM];rfl
  have stay:¬(w.2.2.2.1 < (ws[i]).2.2.2.1/\(ws[i]).2.2.2.1<=w.2.2.2.2)->∀d,d∈ds↔zHm (ws.take (i+1)) w d:=λno d=>by
   rw[md d,tk];unfold zHm;constructor
   ·rintro (z | ⟨p,hp,r⟩)
    ·exact .inl z
    exact .inr ⟨p,List.mem_append_left _ hp,r⟩
   rintro (z | ⟨p,hp,r,r2⟩)
   ·exact .inl z
   rcases wIP hp with y | y
   ·exact .inr ⟨p,y,r,r2⟩
   rw[wIM y] at r;rw[← r] at r2;exact absurd r2 no
  refine⟨_,rfl,nw,_,3,_,rfl,rfl,Sn',rfl,_,rfl,a,_,3,_,rfl,rfl,Sa,rfl,_,_,rfl,rfl,_,rfl,?_⟩;by_cases c1:w.2.2.2.1 < (ws[i]).2.2.2.1
  ·refine zGj c1 ⟨_,rfl,a,_,3,_,rfl,rfl,Sa,rfl,_,rfl,nw,_,4,_,rfl,rfl,Sn',rfl,_,_,rfl,rfl,_,rfl,?_⟩;by_cases c2:(ws[i]).2.2.2.1<=w.2.2.2.2
   ·refine zGj c2 ?_;refine⟨_,rfl,.inl ⟨rfl,_,SqL.of ed⟩,_,rfl,a,_,3,_,rfl,rfl,Sa,rfl,dl,_,_,rfl,rfl,ed,by rw[wHt];exact zAa ∅,?_⟩;refine⟨_,ds++[(ws[i]).2.2.2.1],rfl,zAk s' eA _,by rw[zB,wHC];rfl,by rw[wHy];show _+1<=_;omega,λd=>?_⟩;rw[List.mem_append,md d,tk,List.mem_singleton];unfold zHm;constructor
    ·rintro ((z | ⟨p,hp,r⟩) | z)
     ·exact .inl z
     ·exact .inr ⟨p,List.mem_append_left _ hp,r⟩
     exact .inr ⟨ws[i],wIf _ (List.mem_singleton.mpr rfl),z.symm,by rw[z];exact⟨c1,c2⟩⟩
    rintro (z | ⟨p,hp,r,r2⟩)
    ·exact .inl (.inl z)
    rcases wIP hp with y | y
    ·exact .inl (.inr ⟨p,y,r,r2⟩)
    rw[wIM y] at r;exact .inr r.symm
   exact zFU c2 ⟨_,ds,rfl,s',ed,by omega,stay λz=>c2 z.2⟩
  exact zFU c1 (zBC ⟨_,ds,rfl,s',ed,by omega,stay λz=>c1 z.1⟩)
 rintro σ' H2 ⟨v4,ds,rfl,s2,ed,ld,md⟩;rw[wHt,lq,wH0] at md;rw[wHt] at ld;refine⟨_,rfl,dl,ds,rfl,SqL.of ed,by omega,λd2 ms hd2 pm pw=>?_⟩;have s3:=s2.trans (zC hd2 (.lst (ms.map V.int)));have em:upd H2 d2 (.lst (ms.map V.int)) d2=some (.lst (ms.map V.int)):=zB;have mm:∀d,d∈ms↔zHm ws w d:=λd=>by rw[pm.mem_iff];exact md d
 show zLw _ _ _ _ (upd H2 d2 (.lst (ms.map V.int)));generalize upd H2 d2 (.lst (ms.map V.int))=H3 at s3 em ⊢;have ok:=zB8 gb.ok o;have nn:∀p∈ws++[w],0<=p.1/\0<=p.2.1:=λp hp=>⟨(ok p hp).g.1,(ok p hp).u.1⟩;have lw:(ws++[w]).length<=900:=by rw[wHy];show _+1<=_;omega
 refine⟨_,rfl,d2,rfl,⟨_,SqL.of em⟩,zAH (xs:=ms.map V.int) (λi σ' H'=>∃(v5:Option V),σ'=[some (.int (n:Nat)),some (.ref pl),some (.ref nw),some (.ref d2),v4,v5,none]/\zAi H H'/\H' d2=some (.lst (ms.map V.int))/\∀d∈ms.take i,zDG (wyL (ws++[w]) d) w.1.toNat<=1000)
  ⟨none,rfl,s3,em,λd hd=>by rw[List.take_zero] at hd;cases hd⟩ (λi σ' H' _ ⟨_,_,_,e,_⟩=>SqL.of e) ?_ ?_⟩
 ·rintro i x σ' H' hi ⟨v5,rfl,s',em',ho⟩;rw[wHB] at hi;obtain⟨d,hd,rfl⟩:=wIN hi;refine⟨_,rfl,_,rfl,_,rfl,szl,λx1 cJ=>⟨pl,x1,_,_,rfl,rfl,zC cJ _ _ _ (s' _ _ hp),zB,by rw[wHt];exact small (by show _+1<=1000;omega),λp1 cX=>?_⟩⟩;have s4:=(s'.trans (zC cJ (.lst [.ref nw]))).trans (zC cX (.lst (qs.map V.ref++[.ref nw])));refine⟨_,rfl,p1,ws++[w],d,rfl,zHZ (s4 _ _ hp) lq (λi a ys e1 e2=>s4 _ _ (hq i a ys e1 e2)) (s4 _ _ bN) zB,lw,nn,λl H5 hl s5 t5=>?_⟩;obtain⟨rs,wa⟩:=zJu (K:=K) t5;have kH:=s4.trans s5;refine⟨n,l,rs,_,rfl,wa,zO8 ok d,by omega,λkp H6 hkp s6 ek=>?_⟩;have fK:=kH.trans s6;have gn:=o.g;have ix:atI (tab n λh=>V.int (keeps (wyL (ws++[w]) d) h)) w.1=some (.int (keeps (wyL (ws++[w]) d) w.1.toNat)):=zIA ∅ ∅;refine⟨_,rfl,nw,_,0,_,rfl,rfl,SqT.of (fK _ _ bN),rfl,kp,_,_,_,rfl,rfl,SqL.of ek,ix,_,_,rfl,rfl,_,rfl,?_⟩;have sm:zAi H' H6:=((zC cJ (.lst [.ref nw])).trans (zC cX (.lst (qs.map V.ref++[.ref nw])))).trans (s5.trans s6);by_cases c:keeps (wyL (ws++[w]) d) w.1.toNat < 0
  ·refine zGj c ⟨szl,λl0 bW=>⟨szl,λr hr=>?_⟩⟩;have s7:=fK.trans (zC bW (.lst []));rw[zC3] at c;have gD:=zIw o.sp.2.1 ((mm d).mp (wIe hd));exact q r _ (s7.trans (zC hr _)) (.over _ _ ⟨d,gD.1,gD.2,by omega⟩ zB)
  refine zFU c ⟨_,rfl,fK,sm _ _ em',λd' bQ=>?_⟩;rw[wId,hd] at bQ;rcases wIP bQ with z | z
  ·exact ho d' z
  rw[wIM (show d'∈[d] from z)];rw[zC3] at c;omega
 rintro σ' H4 ⟨v5,rfl,s4,em4,ho⟩;rw[wHt,wH0] at ho;have oa:∀d∈ms,∀j,zDG (wyL (ws++[w]) d) j<=1000:=λd hd j=>by
  by_cases c:w.1.toNat=j
  ·rw[← c];exact ho d hd
  exact zHH gb d c
 have aW:¬OvD ws w:=λ⟨d,h0,h1,h⟩=>by obtain⟨s,i,_,_,sb⟩:=zKo (n:=n) h0 h1;have:=zHG sb (zJw ok s) w.1.toNat;have:=oa s ((mm s).mpr i) w.1.toNat;omega
 refine⟨_,rfl,d2,rfl,⟨_,SqL.of em4⟩,zAH (xs:=ms.map V.int) (λi σ' H'=>∃(v5 v6:Option V),σ'=[some (.int (n:Nat)),some (.ref pl),some (.ref nw),some (.ref d2),v4,v5,v6]/\zAi H H'/\H' d2=some (.lst (ms.map V.int))/\∀d∈ms.take i,∀j,j < n->RL (wyL (ws++[w]) d) j)
  ⟨v5,none,rfl,s4,em4,λd hd=>by rw[List.take_zero] at hd;cases hd⟩ (λi σ' H' _ ⟨_,_,_,_,e,_⟩=>SqL.of e) ?_ ?_⟩
 ·rintro i x σ' H' hi ⟨v5,v6,rfl,s',em',bS⟩;rw[wHB] at hi;obtain⟨d,hd,rfl⟩:=wIN hi;refine⟨_,rfl,_,rfl,_,rfl,szl,λx1 cJ=>⟨pl,x1,_,_,rfl,rfl,zC cJ _ _ _ (s' _ _ hp),zB,by rw[wHt];exact small (by show _+1<=1000;omega),λp1 cX=>?_⟩⟩;have s4:=(s'.trans (zC cJ (.lst [.ref nw]))).trans (zC cX (.lst (qs.map V.ref++[.ref nw])));refine⟨_,rfl,p1,ws++[w],d,rfl,zHZ (s4 _ _ hp) lq (λi a ys e1 e2=>s4 _ _ (hq i a ys e1 e2)) (s4 _ _ bN) zB,lw,nn,λl H5 hl s5 t5=>?_⟩;obtain⟨rs,wa⟩:=zJu (K:=K) t5;have kH:=s4.trans s5;refine⟨n,l,rs,_,rfl,wa,zO6 ok (oa d (wIe hd)),by omega,λsh f H6 hsh s6 es hf=>?_⟩;have fK:=kH.trans s6;have sm:zAi H' H6:=((zC cJ (.lst [.ref nw])).trans (zC cX (.lst (qs.map V.ref++[.ref nw])))).trans (s5.trans s6);refine⟨_,rfl,szl,λl0 bW=>?_⟩;have s7:=fK.trans (zC bW (.lst []));refine⟨_,_,.lst (SqL.of (zC bW _ _ _ es)) (zKc _),.lst (SqL.of zB) .nil,zHv _,rfl,_,rfl,?_⟩;rw[zDz];by_cases c:plc (λj=>!f j) n=[]
  ·rw[c];refine zBC ⟨_,_,rfl,s7,(sm.trans (zC bW _)) _ _ em',λd' bQ=>?_⟩;rw[wId,hd] at bQ;rcases wIP bQ with z | z
   ·exact bS d' z
   rw[wIM (show d'∈[d] from z)];intro j hj;refine zNC ((hf j).mp (wIt λy=>?_));have:((j:Nat):Int)∈plc (λj=>!f j) n:=zCf.mpr ⟨j,hj,by cases e:f j with | true=>exact absurd e y | false=>rfl,rfl⟩;rw[c] at this;cases this
  have ne:((plc (λj=>!f j) n).map PyData.int).isEmpty=false:=by
   cases e:plc (λj=>!f j) n with
   | nil=>exact absurd e c
   | cons a b=>rfl
  rw[ne];refine zDh ⟨_,rfl,_,rfl,szl,λr hr=>?_⟩;have gD:=zIw o.sp.2.1 ((mm d).mp (wIe hd));have ef:plc (λj=>!f j) n=zEg n ws w d:=zHB λj _=>by
   rw[Bool.eq_iff_iff,zDm];cases e:f j with
   | true=>exact⟨λz=>(by cases z),λz=>absurd (zNC ((hf j).mp e)) z⟩
   | false=>exact⟨λ_ z=>(by rw[(hf j).mpr (zNB z)] at e;cases e),λ_=>rfl⟩
  refine q r _ (s7.trans (zC hr _)) (.shut d sh aW ⟨gD.1,gD.2,by rw[← ef];exact c,λe e0 e1=>?_⟩ zB ?_)
  ·obtain⟨s,i,_,b,sb⟩:=zKo (n:=n) e0 (show e<=w.2.2.2.2 by omega);have st:=bS s (zQD pw hd ((mm s).mpr i) ∅);exact zME.mpr λj hj=>zMJ sb (zJw ok s) (oa s ((mm s).mpr i)) (st j hj)
  rw[← ef];exact ((zC bW (.lst [])).trans (zC hr _)) _ _ es
 rintro σ' H5 ⟨v5,v6,rfl,s5,em5,ho5⟩;rw[wHt,wH0] at ho5;refine⟨szl,λl0 bW=>⟨szl,λr hr=>?_⟩⟩;have s7:=s5.trans (zC bW (.lst []));refine q r _ (s7.trans (zC hr _)) (.none _ _ aW (λd h0 h1=>?_) zB);obtain⟨s,i,_,b,sb⟩:=zKo (n:=n) h0 h1;exact zME.mpr λj hj=>zMJ sb (zJw ok s) (oa s ((mm s).mpr i)) (ho5 s ((mm s).mpr i) j hj)
section
open PySem.Spec PyProof.Rows
def zFu {vs:List Value} {ns:List Int} (hi:IntsAre vs ns) (aH:0 < ns.length):∃xs:Array (Int × Tok),vs.toArray=intItems xs/\ns=xs.toList.map (·.1)/\0 < xs.size:=by
 obtain⟨xs,e⟩:=hi.allInts.items;have bO:ns=xs.toList.map (·.1):=by rw[← hi.numsOf,← nums_intItems,← e]
 refine⟨xs,e,bO,?_⟩;have h3:=aH;rw[bO,wHt,wH2] at h3;exact h3
def zLj {X:Cx} (hc:X.calm=true):zBp X (.builtin "min") (λxs H Q=>∃(p:Addr) (ns:List Int),xs=[.ref p]/\SqL X.K H p (ns.map V.int)/\0 < ns.length/\∀M,M∈ns->(∀a,a∈ns->M<=a)->Q (.int M) H):=by
 intro pins s σ H xs us Q I r h;obtain⟨p,ns,rfl,hS,aH,q⟩:=h;obtain⟨u,rfl,ru⟩:=r.one;cases ru;obtain⟨its,rv,pl,hz⟩:=I.list hS;obtain⟨ys,e,bO,cT⟩:=zFu (zBI rv) aH;have hl:=pl.isList;rw[e] at hl;refine min_intList (I.ok.hd hc) hl cT λv h' tk hv hk=>?_;obtain⟨t,rfl⟩:=intItems_at hv;obtain⟨h1,h2⟩:=argBest_lt (numAt ys) (ys.size-1);refine⟨.int _,H,I.kept hk,⟨t,rfl⟩,q _ ?_ λa ha=>?_⟩
 ·rw[bO,numAt_eq];exact Pf.zDb (by rw[wHt,wH2];omega)
 rw[bO] at ha;obtain⟨j,hj,rfl⟩:=mem_getD ha;rw[wHt,wH2] at hj;rw[← numAt_eq];exact h2 j ∅
def zLl {X:Cx} (hc:X.calm=true):zBp X (.builtin "max") (λxs H Q=>∃(p:Addr) (ns:List Int),xs=[.ref p]/\SqL X.K H p (ns.map V.int)/\0 < ns.length/\∀M,M∈ns->(∀a,a∈ns->a<=M)->Q (.int M) H):=by
 intro pins s σ H xs us Q I r h;obtain⟨p,ns,rfl,hS,aH,q⟩:=h;obtain⟨u,rfl,ru⟩:=r.one;cases ru;obtain⟨its,rv,pl,hz⟩:=I.list hS;obtain⟨ys,e,bO,cT⟩:=zFu (zBI rv) aH;have hl:=pl.isList;rw[e] at hl;refine max_intList (I.ok.hd hc) hl cT λv h' tk hv hk=>?_;obtain⟨t,rfl⟩:=intItems_at hv;obtain⟨h1,h2⟩:=argBest_gt (numAt ys) (ys.size-1);refine⟨.int _,H,I.kept hk,⟨t,rfl⟩,q _ ?_ λa ha=>?_⟩
 ·rw[bO,numAt_eq];exact Pf.zDb (by rw[wHt,wH2];omega)
 rw[bO] at ha;obtain⟨j,hj,rfl⟩:=mem_getD ha;rw[wHt,wH2] at hj;rw[← numAt_eq];exact h2 j ∅
end
def zNx {ms:List Int} {a b:Int} (hp:ms.Perm [a,b]):∃x y,ms=[x,y]/\(x=a∨x=b)/\(y=a∨y=b):=by
 match ms,hp.length_eq with
 | [x,y],_=>
  have h1:x∈[a,b]:=hp.mem_iff.mp (by simp);have h2:y∈[a,b]:=hp.mem_iff.mp (by simp);exact⟨x,y,rfl,by simpa using h1,by simpa using h2⟩
def zL4 {n g r:Int} (h0:0<=g) (h1:g < n) (h2:0<=r) (h3:r+1 < n):(0<=(g+1+r)%n/\(g+1+r)%n < n)/\g≠(g+1+r)%n:=by
 refine⟨⟨Int.emod_nonneg _ ∅,Int.emod_lt_of_pos _ ∅⟩,?_⟩;by_cases c:g+1+r < n
 ·rw[Int.emod_eq_of_lt ∅ c];omega
 have e:g+1+r=(g+1+r-n)+n:=by omega
 rw[e,Int.add_emod_right,Int.emod_eq_of_lt ∅ ∅];omega
def zQ1 {k:Nat} (h:k < 4):0<=([0,1,8,4999]:List Int).getD k 0/\([0,1,8,4999]:List Int).getD k 0<=5000:=by
 have:∀k:_root_.Fin 4,0<=([0,1,8,4999]:List Int).getD k.1 0/\([0,1,8,4999]:List Int).getD k.1 0<=5000:=by decide
 exact this ⟨k,h⟩
def zQ2 {k:Nat} (h:k < 2):0<=([4999,5000]:List Int).getD k 0/\([4999,5000]:List Int).getD k 0<=5000:=by
 have:∀k:_root_.Fin 2,0<=([4999,5000]:List Int).getD k.1 0/\([4999,5000]:List Int).getD k.1 0<=5000:=by decide
 exact this ⟨k,h⟩
inductive sp_pact (K:W.Frag) (vs:List V) (H:Hp) (Q:VK) (E:XK):Prop
 | mk (fl pl:Addr) (fv:List Int) (n:Nat) (ws:List W5):vs=[.ref fl,.int (n:Nat),.ref pl]->(SqL K H fl (fv.map V.int)/\fv.length=5/\zAf H pl (ws.map W5.vs)/\1<=n/\(∀p∈ws,1<=p.2.2.1)/\
 ∀(q:Addr) (H':Hp) (w:W5),H q=none->zAi H H'->H' q=some (.tup w.vs)->(2<=n->OkN n w)->Q (.ref q) H')->sp_pact K vs H Q E
def zNR (T:Txt P w K mg t):FnOk P w K mg base CX0 40 t.wE4 t.wE5 ["_law_five","_law_count","_law_pacts"] (sp_pact K):=by
 refine T.wGh.ok zBa ⟨⟩ ();obtain⟨fl,pl,fv,n,ws,rfl,hS,l5,⟨qs,hp,lq,hq⟩,n2,hw,q⟩:=h;refine⟨_,(zD (zAJ 3 zBa.nd (zP zAl (zA8 K (pv 0) zF) (pv 1)))
  (zD (zAJ 4 zBa.nd (zP zAl (zP zBj (zP zBj (pv 3) zF) (zP zAl (zA8 K (pv 0) zF) (zU (zLm rfl) rfl T.wGK PyProof.Rows.boot_max (zY zF (zP zIo (pv 1) zF) zE zI zV)))) (pv 1)))
  (zD (zAJ 5 zBa.nd (zU zEE rfl T.wD2 PyProof.Rows.boot_sorted (zG (zAd (zY (zP zAl (zP zAK (zA8 K (pv 0) zF) zF) zF) (zP zAl (zP zAK (zA8 K (pv 0) zF) zF) zF) zE zV zV)) zE zBg)))
  (zD (zG4 (zAm (zS zCb (zP zAl (zA8 K (pv 0) zF) zF) zF (zAc _)) (zH (zAJ 5 zBa.nd (zAd (zY (zP zAl (zP zAK (zA8 K (pv 0) zF) zF) zF) (zP zBj zF (zP zAl (zP zAK (zA8 K (pv 0) zF) zF) zF)) zE zV zV)))) zR))
  (zD (zG4 (zAm (zS zCb (zP zAl (zA8 K (pv 0) zF) zF) zF (zAc _)) (zH (zAJ 5 zBa.nd (zAd (zY (zA8 K (zAd (zG zF (zAq zF zF zF zE zI zI zI) zI)) (zP zAl (zP zAK (zA8 K (pv 0) zF) zF) zF)) (zA8 K (zAd (zY zF zF zE zI zI)) (zP zAl (zP zAK (zA8 K (pv 0) zF) zF) zF)) zE zL zL)))) zR))
  (zD (zAJ 6 zBa.nd zF)
  (zD (zAW PassesOwn.never rfl (zAh K (pv 2)) (zN (i:=7) zBa.nd rfl (Or.inl rfl)) (zH (zAm (PW.pt (zCV (zS zCb (zDL K (pv 7) zF) (pv 3) (zAc _)) (zCV (zS zDt (zDL K (pv 7) zF) (zA8 K (pv 5) zF) (zAc _)) (zCt (zS zDt (zA8 K (pv 5) zF) (zDL K (pv 7) zF) (zAc _)))))) (zH (zPe (i:=6) zBa.nd rfl (Or.inl rfl) (zDL K (pv 7) zF) zP9)) zR)))
  (zD (zAJ 8 zBa.nd (zP zBj zF (zP zAl (zP zAK (zA8 K (pv 0) zF) zF) zF)))
  (zD (zAJ 9 zBa.nd (zP zIo zF (pv 6)))
  (zD (zAJ 10 zBa.nd (zA8 K (zAd (zY (pv 8) (pv 9) (zAq zF zF zF (zAq (zP zIo (pv 9) zF) (pv 9) (pv 8) zE zV zA zA) zI zI zI) zA zA)) (zP zAl (zA8 K (pv 0) zF) zF)))
  (zD (zG4 (zAm (zS zDH (pv 10) zF (zAc _)) (zH (zAJ 10 zBa.nd (pv 8))) zR))
  (zH (zX (zAT (zY (pv 3) (pv 4) (zAq (pv 10) (zU (zLj rfl) rfl T.wGL PyProof.Rows.boot_min (zG (pv 5) zE zA)) (zU (zLl rfl) rfl T.wGK PyProof.Rows.boot_max (zG (pv 5) zE zA)) zE zA zZ zZ) zA zA))))))))))))))),?_⟩
 rw[wHt] at lq;have ai:∀j:Int,0<=j->j < 5->atI (fv.map V.int) j=some (.int (fv.getD j.toNat 0)):=λj h0 h1=>zEG h0 ∅;have gb:0<=fv.getD 0 0%(n:Int)/\fv.getD 0 0%(n:Int) < n:=⟨Int.emod_nonneg _ ∅,Int.emod_lt_of_pos _ ∅⟩;refine⟨_,rfl,fl,_,0,_,rfl,rfl,hS,ai 0 ⋯ ⋯,_,rfl,_,_,rfl,rfl,(by show (0:Int) < (n:Int);omega),?_⟩;have mb:1<=(if (n:Int)-1 > 1 then (n:Int)-1 else 1)/\(2<=n->(if (n:Int)-1 > 1 then (n:Int)-1 else 1)<=n-1):=by split<;>omega
 refine⟨_,rfl,_,_,rfl,rfl,_,rfl,fl,_,1,_,rfl,rfl,hS,ai 1 ⋯ ⋯,_,rfl,_,_,rfl,rfl,1,_,rfl,_,_,rfl,rfl,(by show (0:Int) < (if (n:Int)-1 > 1 then (n:Int)-1 else 1);omega),_,_,rfl,rfl,_,rfl,_,_,rfl,rfl,(by show (0:Int) < (n:Int);omega),?_⟩;have rb:0<=fv.getD 1 0%(if (n:Int)-1 > 1 then (n:Int)-1 else 1)/\fv.getD 1 0%(if (n:Int)-1 > 1 then (n:Int)-1 else 1) < (if (n:Int)-1 > 1 then (n:Int)-1 else 1):=⟨Int.emod_nonneg _ ∅,Int.emod_lt_of_pos _ ∅⟩;have tb:=λh2:2<=n=>zL4 gb.1 gb.2 rb.1 (by have:=mb.2 h2;omega);show zLw _ _ _ [some (.ref fl),some (.int (n:Nat)),some (.ref pl),some (.int (fv.getD 0 0%(n:Int))),some (.int ((fv.getD 0 0%(n:Int)+1+fv.getD 1 0%(if (n:Int)-1 > 1 then (n:Int)-1 else 1))%(n:Int))),none,none,none,none,none,none] _;generalize (fv.getD 0 0%(n:Int)+1+fv.getD 1 0%(if (n:Int)-1 > 1 then (n:Int)-1 else 1))%(n:Int)=u at tb ⊢;generalize fv.getD 0 0%(n:Int)=g at gb tb ⊢;clear rb mb;have b:=λ(z m:Int) (n:Nat) (h1:0 < m) (h2:m<=n)=>zBv (x:=z) (m:=m) (n:=n) h1 h2;refine⟨_,rfl,fl,_,3,_,rfl,rfl,hS,ai 3 ⋯ ⋯,_,_,rfl,rfl,⟨by decide,by decide⟩,_,_,rfl,rfl,(by show (0:Int) < 5001;decide),_,rfl,fl,_,4,_,rfl,rfl,hS,ai 4 ⋯ ⋯,_,_,rfl,rfl,⟨by decide,by decide⟩,_,_,rfl,rfl,(by show (0:Int) < 5001;decide),szl,λl1 h1=>⟨l1,[fv.getD 3 0 / 3%5001,fv.getD 4 0 / 3%5001],rfl,SqL.of zB,(by show 2 < 64;decide),λl2 ms h2 pm _=>?_⟩⟩;obtain⟨x,y,rfl,e1,e2⟩:=zNx pm;have b1:=b (fv.getD 3 0 / 3) 5001 5001 ⋯ ⋯;have b2:=b (fv.getD 4 0 / 3) 5001 5001 ⋯ ⋯;have s1:zAi H (upd (upd H l1 (.lst [.int (fv.getD 3 0 / 3%5001),.int (fv.getD 4 0 / 3%5001)])) l2 (.lst [.int x,.int y])):=(zC h1 (.lst [.int (fv.getD 3 0 / 3%5001),.int (fv.getD 4 0 / 3%5001)])).trans (zC h2 (.lst [.int x,.int y]));have ee:upd (upd H l1 (.lst [.int (fv.getD 3 0 / 3%5001),.int (fv.getD 4 0 / 3%5001)])) l2 (.lst [.int x,.int y]) l2=some (.lst [.int x,.int y]):=zB;have xb:0<=x/\x<=5000:=by omega
 have yb:0<=y/\y<=5000:=by omega
 show zLw _ _ _ _ (upd (upd H l1 (.lst [.int (fv.getD 3 0 / 3%5001),.int (fv.getD 4 0 / 3%5001)])) l2 (.lst [.int x,.int y]));generalize upd (upd H l1 (.lst [.int (fv.getD 3 0 / 3%5001),.int (fv.getD 4 0 / 3%5001)])) l2 (.lst [.int x,.int y])=H1 at s1 ee ⊢;have c1:∃(I:St->Hp->Prop),I=λσ' H'=>∃(e:Addr) (x y:Int),σ'=[some (.ref fl),some (.int (n:Nat)),some (.ref pl),some (.int g),some (.int u),some (.ref e),none,none,none,none,none]/\zAi H H'/\H' e=some (.lst [.int x,.int y])/\(0<=x/\x<=5000)/\(0<=y/\y<=5000):=⟨_,rfl⟩;obtain⟨I,hI⟩:=c1;have I1:I [some (.ref fl),some (.int (n:Nat)),some (.ref pl),some (.int g),some (.int u),some (.ref l2),none,none,none,none,none] H1:=by rw[hI];exact⟨l2,x,y,rfl,s1,ee,xb,yb⟩
 refine⟨I,?_,?_⟩
 ·refine⟨_,rfl,fl,_,3,_,rfl,rfl,s1.seq hS,ai 3 ⋯ ⋯,_,_,rfl,rfl,(by show (0:Int) < 3;decide),rfl,_,rfl,zBD (λ_=>?_) (λ_=>I1)⟩;refine⟨_,rfl,fl,_,3,_,rfl,rfl,s1.seq hS,ai 3 ⋯ ⋯,_,_,rfl,rfl,⟨by decide,by decide⟩,_,_,rfl,rfl,(by show (0:Int) < 9;decide),_,rfl,fl,_,4,_,rfl,rfl,s1.seq hS,ai 4 ⋯ ⋯,_,_,rfl,rfl,⟨by decide,by decide⟩,_,_,rfl,rfl,(by show (0:Int) < 9;decide),_,_,rfl,rfl,szl,λl3 h3=>?_⟩;have b3:=b (fv.getD 3 0 / 3) 9 9 ⋯ ⋯;have b4:=b (fv.getD 4 0 / 3) 9 9 ⋯ ⋯;rw[hI];exact⟨l3,fv.getD 3 0 / 3%9,7+fv.getD 4 0 / 3%9,rfl,s1.trans (zC h3 _),zB,by omega,by omega⟩
 intro σ2 H2 i2;refine⟨I,?_,?_⟩
 ·have i2':=i2;rw[hI] at i2;obtain⟨e,x2,y2,rfl,s2,ee2,xb2,yb2⟩:=i2;refine⟨_,rfl,fl,_,3,_,rfl,rfl,s2.seq hS,ai 3 ⋯ ⋯,_,_,rfl,rfl,(by show (0:Int) < 3;decide),rfl,_,rfl,zBD (λ_=>?_) (λ_=>i2')⟩;have b3:=b (fv.getD 3 0 / 3) 4 4 ⋯ ⋯;have b4:=b (fv.getD 4 0 / 3) 2 2 ⋯ ⋯;refine⟨szl,λm1 hm1=>?_⟩;have sm1:=zC hm1 (.lst (([0,1,8,4999]:List Int).map V.int));refine⟨_,rfl,fl,_,3,_,rfl,rfl,(s2.trans sm1).seq hS,ai 3 ⋯ ⋯,_,_,rfl,rfl,⟨by decide,by decide⟩,_,_,rfl,rfl,(by show (0:Int) < 4;decide),m1,([0,1,8,4999]:List Int).map V.int,_,_,rfl,rfl,SqL.of zB,zEG b3.1 (by have:=b3.2;show _ < (4:Int);omega),szl,λm2 hm2=>?_⟩;have hV:=zC hm2 (.lst (([4999,5000]:List Int).map V.int));have fG:=s2.trans (sm1.trans hV);refine⟨_,rfl,fl,_,4,_,rfl,rfl,fG.seq hS,ai 4 ⋯ ⋯,_,_,rfl,rfl,⟨by decide,by decide⟩,_,_,rfl,rfl,(by show (0:Int) < 2;decide),m2,([4999,5000]:List Int).map V.int,_,_,rfl,rfl,SqL.of zB,zEG b4.1 (by have:=b4.2;show _ < (2:Int);omega),szl,λl3 h3=>?_⟩;rw[hI];exact⟨l3,_,_,rfl,fG.trans (zC h3 _),zB,zQ1 ∅,zQ2 ∅⟩
 intro σ3 H3 i3;rw[hI] at i3;obtain⟨e,a,c,rfl,s3,ee3,xa,xc⟩:=i3;clear I1 hI i2 ee xb yb s1 e1 e2 b1 b2 pm;refine⟨_,rfl,pl,rfl,⟨_,SqL.of (s3 _ _ hp)⟩,zAH (xs:=qs.map V.ref) (λi σ' H'=>∃(gv:Int) (v7:Option V),σ'=[some (.ref fl),some (.int (n:Nat)),some (.ref pl),some (.int g),some (.int u),some (.ref e),some (.int gv),v7,none,none,none]/\H'=H3/\0<=gv) ⟨0,none,rfl,rfl,wII _⟩ (λi σ' H' _ ⟨_,_,_,e,_⟩=>by rw[e];exact SqL.of (s3 _ _ hp)) ?_ ?_⟩
 ·rintro i x' σ' H' hi ⟨gv,v7,rfl,rfl,g0⟩;rw[wHB] at hi;obtain⟨aa,ha,rfl⟩:=wIN hi;have aK:i < ws.length:=by rw[← lq];exact (wIL ha).1
  have bM:ws[i]?=some ws[i]:=wHv aK;have Sa:=SqT.of (K:=K) (s3 _ _ (hq i aa _ ha (by rw[wHB,bM];rfl)));have Se:=SqL.of (K:=K) ee3;have p1:=hw ws[i] (wHZ aK);refine⟨_,rfl,aa,_,0,_,rfl,rfl,Sa,rfl,_,rfl,rfl,_,rfl,zBD (λ_=>?_) (λ_=>zBC ⟨_,_,rfl,rfl,g0⟩)⟩;refine⟨_,rfl,aa,_,3,_,rfl,rfl,Sa,rfl,_,rfl,e,_,0,_,rfl,rfl,Se,rfl,_,_,rfl,rfl,_,rfl,zBD (λ_=>?_) (λ_=>zBC ⟨_,_,rfl,rfl,g0⟩)⟩;refine⟨_,rfl,e,_,0,_,rfl,rfl,Se,rfl,_,rfl,aa,_,4,_,rfl,rfl,Sa,rfl,_,_,rfl,rfl,_,rfl,zBD (λ_=>?_) (λ_=>⟨_,_,rfl,rfl,g0⟩)⟩;exact⟨_,rfl,_,rfl,aa,_,2,_,rfl,rfl,Sa,rfl,_,_,rfl,rfl,gv+(ws[i]).2.2.1,_,rfl,rfl,by omega⟩
 rintro σ' H' ⟨gv,v7,rfl,rfl,g0⟩;have b8:=b (fv.getD 2 0 / 8) 1000 1000 ⋯ ⋯;have b9:=b (fv.getD 2 0) 8 8 ⋯ ⋯;refine⟨_,rfl,fl,_,2,_,rfl,rfl,s3.seq hS,ai 2 ⋯ ⋯,_,_,rfl,rfl,⟨by decide,by decide⟩,_,_,rfl,rfl,(by show (0:Int) < 1000;decide),_,_,rfl,rfl,?_⟩;refine⟨_,rfl,_,_,rfl,rfl,?_⟩;obtain⟨wd,l6⟩:∃wd,wd=1+fv.getD 2 0 / 8%1000:=⟨_,rfl⟩;have wb:1<=wd/\wd<=1000:=by omega
 refine⟨_,rfl,_,rfl,_,rfl,_,_,rfl,rfl,_,rfl,_,rfl,szl,λml hml=>?_⟩;have sm:=s3.trans (zC hml (.lst (([1+fv.getD 2 0 / 8%1000,1000-gv,500,1000,1,1000-gv-1,1000-gv,1+fv.getD 2 0 / 8%1000]:List Int).map V.int)));have ee4:=zC hml (.lst (([1+fv.getD 2 0 / 8%1000,1000-gv,500,1000,1,1000-gv-1,1000-gv,1+fv.getD 2 0 / 8%1000]:List Int).map V.int)) _ _ ee3;refine⟨_,rfl,fl,_,2,_,rfl,rfl,sm.seq hS,ai 2 ⋯ ⋯,_,_,rfl,rfl,(by show (0:Int) < 8;decide),ml,([1+fv.getD 2 0 / 8%1000,1000-gv,500,1000,1,1000-gv-1,1000-gv,1+fv.getD 2 0 / 8%1000]:List Int).map V.int,_,_,rfl,rfl,SqL.of zB,zEG b9.1 (by have:=b9.2;show _ < (8:Int);omega),?_⟩;have pb:([1+fv.getD 2 0 / 8%1000,1000-gv,500,1000,1,1000-gv-1,1000-gv,1+fv.getD 2 0 / 8%1000]:List Int).getD (fv.getD 2 0%8).toNat 0<=1000:=by have hm:=zDb (ds:=([1+fv.getD 2 0 / 8%1000,1000-gv,500,1000,1,1000-gv-1,1000-gv,1+fv.getD 2 0 / 8%1000]:List Int)) (i:=(fv.getD 2 0%8).toNat) (by show _ < 8;omega);simp only[wIb,wH1,or_false] at hm;omega
 show zQn _ _ [some (.ref fl),some (.int (n:Nat)),some (.ref pl),some (.int g),some (.int u),some (.ref e),some (.int gv),v7,some (.int (1+fv.getD 2 0 / 8%1000)),some (.int (1000-gv)),some (.int (([1+fv.getD 2 0 / 8%1000,1000-gv,500,1000,1,1000-gv-1,1000-gv,1+fv.getD 2 0 / 8%1000]:List Int).getD (fv.getD 2 0%8).toNat 0))] (upd _ ml (.lst (([1+fv.getD 2 0 / 8%1000,1000-gv,500,1000,1,1000-gv-1,1000-gv,1+fv.getD 2 0 / 8%1000]:List Int).map V.int)));generalize ([1+fv.getD 2 0 / 8%1000,1000-gv,500,1000,1,1000-gv-1,1000-gv,1+fv.getD 2 0 / 8%1000]:List Int).getD (fv.getD 2 0%8).toNat 0=pt at pb ⊢;generalize upd H' ml (.lst (([1+fv.getD 2 0 / 8%1000,1000-gv,500,1000,1,1000-gv-1,1000-gv,1+fv.getD 2 0 / 8%1000]:List Int).map V.int))=H4 at sm ee4 ⊢;refine⟨λσ' H'=>∃pt,σ'=[some (.ref fl),some (.int (n:Nat)),some (.ref pl),some (.int g),some (.int u),some (.ref e),some (.int gv),v7,some (.int (1+fv.getD 2 0 / 8%1000)),some (.int (1000-gv)),some (.int pt)]/\H'=H4/\1<=pt/\pt<=1000,?_,?_⟩
 ·exact⟨_,rfl,_,_,rfl,rfl,_,rfl,zBD (λ_=>⟨_,rfl,1+fv.getD 2 0 / 8%1000,rfl,rfl,by omega,by omega⟩) (λc=>⟨pt,rfl,rfl,by have:=wH9 (wIO c);omega,pb⟩)⟩
 rintro σ' H'' ⟨pt',rfl,rfl,p1,p2⟩;have Se:=SqL.of (K:=K) ee4;refine⟨_,rfl,_,rfl,_,rfl,_,rfl,e,[a,c],rfl,Se,(by show 0 < 2;decide),λmn hmn lmn=>⟨_,rfl,e,[a,c],rfl,Se,(by show 0 < 2;decide),λmx hmx lmx=>⟨szl,λr hr=>?_⟩⟩⟩;have h1:=lmn a (by simp);have h2:=lmn c (by simp);have h3:=lmx a (by simp);have h4:=lmx c (by simp);simp only[wIb,wH1,or_false] at hmn hmx;exact q r _ (g,u,pt',mn,mx) (sm.free hr) (sm.trans (zC hr _)) zB λh2=>⟨gb,(tb h2).1,(tb h2).2,⟨p1,p2⟩,by show 0<=mn;omega,by show mn<=mx;omega,by show mx<=5000;omega⟩
structure ExR (K:W.Frag) (t:Adr) (C:Addr) (w:Nat):Prop where
 xk:ExcX K C
 fc:W.exmOne K (.ref C) (.ref t.wAm)=some true
 f0:W.kitOne K (.ref C) (.ref t.wAi)=some (decide (w=0))
 f1:W.kitOne K (.ref C) (.ref t.wAe)=some (decide (w=1))
 f2:W.kitOne K (.ref C) (.ref t.wAa)=some (decide (w=2))
 f3:W.kitOne K (.ref C) (.ref t.wAg)=some (decide (w=3))
 f4:W.kitOne K (.ref C) (.ref t.wAd)=some (decide (w=4))
 f5:W.kitOne K (.ref C) (.ref t.wAb)=some (decide (w=5))
 f6:W.kitOne K (.ref C) (.ref t.wAh)=some (decide (w=6))
 f7:W.kitOne K (.ref C) (.ref t.wAf)=some (decide (w=7))
 f8:W.kitOne K (.ref C) (.ref t.wAk)=some (decide (w=8))
 f9:W.kitOne K (.ref C) (.ref t.wAc)=some (decide (w=9))
noncomputable def wds:List Str:=[Str.ofString "bad name",Str.ofString "known house",Str.ofString "unknown house",Str.ofString "to itself",Str.ofString "days turned",Str.ofString "out of range",Str.ofString "too much",Str.ofString "shut in",Str.ofString "full",Str.ofString "nothing done"]
noncomputable def zCi (w:Nat):Str:=wds.getD w Str.empty
def b32:Str.ofString " "=tx [32]:=by nofun
def dnT (d:Int) (L:List Str):Str:=Str.join (Str.ofString " ") (wOf (.int d)::L)
def zDC (K:W.Frag):Addr->Sp:=λ_ vs H Q _=>∃(d:Int) (m:Addr) (L:List Str),vs=[.int d,.ref m]/\H m=some (.lst (L.map V.str))/\d.natAbs < 10 ^ 60/\L.length<=15/\(∀x∈L,x.length<=1000)/\∀H',zAi H H'->Q (.str (dnT d L)) H'
def zDI (T:Txt P w K mg t):FnOkH P w K mg base 40 t.wAD t.wAE ["day","names"] (zDC K):=by
 refine T.wBO.okH zDE (λe vs H Q E h=>?_) (λcdv he A outer s H vs Q E hr h=>?_)
 ·obtain⟨d,m,L,rfl,_⟩:=h
  rfl
 obtain⟨d,m,L,rfl,hm,hd,dR,hL,q⟩:=h;refine⟨_,(zH (zX (zFJ F.plainAttrs_str F.slot_str_join F.type_str_join (zC2 K) zT (zG (zP zD7 (zAd (zG (zAt zAu rfl T.wAx PyProof.Rows.boot_str (zG (pv 0) zE zA)) zE zZ)) (pv 1)) zE zV)))),?_⟩;have l1:=zA5 hd;refine⟨rfl,_,rfl,d,rfl,zFr hd,szl,λl hl=>?_⟩;have s1:=zC hl (.lst [V.str (wOf (.int d))]);refine⟨_,rfl,l,m,_,_,rfl,rfl,zB,s1 _ _ hm,(by rw[wHt];exact sz _ (by show 1+_<=_;omega)),λl2 cZ=>?_⟩;have s2:=s1.trans (zC cZ (.lst ([V.str (wOf (.int d))]++L.map V.str)));refine⟨_,l2,wOf (.int d)::L,rfl,rfl,SqL.of zB,?_,q _ s2⟩;have h2:=zDO L hL;have h4:(Str.ofString " ").length=1:=by nofun
 rw[h4];rw[wH6,List.sum_cons,wH3];have:(wOf (.int d)).length<=1000:=l1;omega
def zHu (d:Int) (L:List Str):Str:=Str.ofString "shut in "++dnT d L
inductive RefC (K:W.Frag) (t:Adr) (H:Hp) (Q:Str->Hp->Prop) (C:Addr) (dd:Option Addr):Prop
 | word (w:Nat):ExR K t C w->w < 10->w≠7->dd=none->(∀H',zAi H H'->Q (zCi w) H')->RefC K t H Q C dd
 | shut (dx m:Addr) (d:Int) (L:List Str):ExR K t C 7->C=t.wAf->dd=some dx->H dx=some (.xd [("names",.ref m),("day",.int d)])->H m=some (.lst (L.map V.str))->d.natAbs < 10 ^ 60->L.length<=15->(∀x∈L,x.length<=1000)->(∀H',zAi H H'->Q (zHu d L) H')->RefC K t H Q C dd
def RefC.ex {K:W.Frag} {t:Adr} {H:Hp} {Q:Str->Hp->Prop} {C:Addr} {dd:Option Addr} (h:RefC K t H Q C dd):∃w,ExR K t C w/\w < 10/\zCz H dd:=by
 cases h with
 | word w x l n e _=>rw[e];exact⟨w,x,l,zCz.no⟩
 | shut dx m d L x c e hd=>rw[e];exact⟨7,x,by decide,λfz z=>⟨_,by cases z;exact hd⟩⟩
def zNd {d:Int} {L:List Str} (hd:d.natAbs < 10 ^ 60) (dR:L.length<=15) (hL:∀x∈L,x.length<=1000):(dnT d L).length<=100000:=by
 have l1:(wOf (.int d)).length<=1000:=zA5 hd;have e:(wOf (.int d)::L)=((wOf (.int d)::L).map λx=>x.cps.toList).map tx:=by rw[List.map_map];exact (List.map_id'' (λx=>zAj x) _).symm
 have h:=zIt [32] 1000 ((wOf (.int d)::L).map λx=>x.cps.toList) λl hl=>by
  obtain⟨x,hx,rfl⟩:=List.mem_map.mp hl;rw[← zAI,zAj];rcases wIQ hx with z | z
  ·rw[z];exact l1
  exact hL x z
 unfold dnT;rw[e,b32,zBB,zAI];rw[wHt,wH3] at h;have:(L.length+1)*(1000+[32].length)<=16*1001:=Nat.mul_le_mul ∅ (wHA _);omega
def zEe (K:W.Frag) (t:Adr):Addr->Sp:=λe vs H Q _=>∃(C:Addr) (dd:Option Addr),vs=[.ref e]/\H e=some (zJp e (.ref C) dd)/\RefC K t H (λz H'=>Q (.str z) H') C dd
def zEz (T:Txt P w K mg t):FnOkH P w K mg base 41 t.wAL t.wAM ["refusal"] (zEe K t):=by
 refine T.wCe.okH zEh (λe vs H Q E h=>?_) (λcdv he A outer s H vs Q E hr h=>?_)
 ·obtain⟨C,dd,rfl,_⟩:=h
  rfl
 obtain⟨C,dd,rfl,hx,R⟩:=h;refine⟨_,(zD (zAm (zAM (zU zBf rfl T.wAn wH7 (zY (pv 0) (zAn (v:=.ref t.wAi) rfl T.wEH rfl) zE zA zA))) (zH (zX zT)) zR)
  (zD (zAm (zAM (zU zBf rfl T.wAn wH7 (zY (pv 0) (zAn (v:=.ref t.wAe) rfl T.wDk rfl) zE zA zA))) (zH (zX zT)) zR)
  (zD (zAm (zAM (zU zBf rfl T.wAn wH7 (zY (pv 0) (zAn (v:=.ref t.wAa) rfl T.wCf rfl) zE zA zA))) (zH (zX zT)) zR)
  (zD (zAm (zAM (zU zBf rfl T.wAn wH7 (zY (pv 0) (zAn (v:=.ref t.wAg) rfl T.wD9 rfl) zE zA zA))) (zH (zX zT)) zR)
  (zD (zAm (zAM (zU zBf rfl T.wAn wH7 (zY (pv 0) (zAn (v:=.ref t.wAd) rfl T.wDl rfl) zE zA zA))) (zH (zX zT)) zR)
  (zD (zAm (zAM (zU zBf rfl T.wAn wH7 (zY (pv 0) (zAn (v:=.ref t.wAb) rfl T.wDm rfl) zE zA zA))) (zH (zX zT)) zR)
  (zD (zAm (zAM (zU zBf rfl T.wAn wH7 (zY (pv 0) (zAn (v:=.ref t.wAh) rfl T.wEI rfl) zE zA zA))) (zH (zX zT)) zR)
  (zD (zAm (zAM (zU zBf rfl T.wAn wH7 (zY (pv 0) (zAn (v:=.ref t.wAf) rfl T.wFr rfl) zE zA zA))) (zH (zX (zP zW zT (zIl ((zDI T).mono ⋯) hr rfl T.wD8 T.wBO.kp T.wD7 (zY (zKl (pv 0) rfl) (zKl (pv 0) rfl) zE zBc zBc))))) zR)
  (zD (zAm (zAM (zU zBf rfl T.wAn wH7 (zY (pv 0) (zAn (v:=.ref t.wAk) rfl T.wEa rfl) zE zA zA))) (zH (zX zT)) zR)
  (zD (zAm (zAM (zU zBf rfl T.wAn wH7 (zY (pv 0) (zAn (v:=.ref t.wAc) rfl T.wCR rfl) zE zA zA))) (zH (zX zT)) zR)
  (zH (zX zT)))))))))))),?_⟩
 have nn:∀c:Addr,vcl (.ref c)≠Value.none:=λc z=>nomatch z
 cases R with
 | word w W hw h7 e q=>
  subst e;have hD:zCz H none:=zCz.no;have T0:∀k:Nat,decide (w=k)=true->Q (.str (zCi k)) H:=λk c=>by rw[← wHP c];exact q H (zAi.refl _)
  refine⟨_,rfl,he,C,none,_,_,rfl,hx,hD,W.xk,nn _,W.f0,_,rfl,zBD (T0 0) λc0=>?_⟩;refine⟨_,rfl,he,C,none,_,_,rfl,hx,hD,W.xk,nn _,W.f1,_,rfl,zBD (T0 1) λc1=>?_⟩;refine⟨_,rfl,he,C,none,_,_,rfl,hx,hD,W.xk,nn _,W.f2,_,rfl,zBD (T0 2) λc2=>?_⟩;refine⟨_,rfl,he,C,none,_,_,rfl,hx,hD,W.xk,nn _,W.f3,_,rfl,zBD (T0 3) λc3=>?_⟩;refine⟨_,rfl,he,C,none,_,_,rfl,hx,hD,W.xk,nn _,W.f4,_,rfl,zBD (T0 4) λc4=>?_⟩;refine⟨_,rfl,he,C,none,_,_,rfl,hx,hD,W.xk,nn _,W.f5,_,rfl,zBD (T0 5) λc5=>?_⟩;refine⟨_,rfl,he,C,none,_,_,rfl,hx,hD,W.xk,nn _,W.f6,_,rfl,zBD (T0 6) λc6=>?_⟩;refine⟨_,rfl,he,C,none,_,_,rfl,hx,hD,W.xk,nn _,W.f7,_,rfl,zBD (λc=>absurd (wHP c) h7) λ_=>?_⟩;refine⟨_,rfl,he,C,none,_,_,rfl,hx,hD,W.xk,nn _,W.f8,_,rfl,zBD (T0 8) λc8=>?_⟩;refine⟨_,rfl,he,C,none,_,_,rfl,hx,hD,W.xk,nn _,W.f9,_,rfl,zBD (T0 9) λc9=>?_⟩;simp only[decide_eq_true_eq] at c0 c1 c2 c3 c4 c5 c6 c8 c9;omega
 | shut dx m d L W hC e hd hm eR dR hL q=>
  subst e;have hD:zCz H (some dx):=λfz z=>⟨_,by cases z;exact hd⟩;refine⟨_,rfl,he,C,_,_,_,rfl,hx,hD,W.xk,nn _,W.f0,_,rfl,zBC ?_⟩;refine⟨_,rfl,he,C,_,_,_,rfl,hx,hD,W.xk,nn _,W.f1,_,rfl,zBC ?_⟩;refine⟨_,rfl,he,C,_,_,_,rfl,hx,hD,W.xk,nn _,W.f2,_,rfl,zBC ?_⟩;refine⟨_,rfl,he,C,_,_,_,rfl,hx,hD,W.xk,nn _,W.f3,_,rfl,zBC ?_⟩;refine⟨_,rfl,he,C,_,_,_,rfl,hx,hD,W.xk,nn _,W.f4,_,rfl,zBC ?_⟩;refine⟨_,rfl,he,C,_,_,_,rfl,hx,hD,W.xk,nn _,W.f5,_,rfl,zBC ?_⟩;refine⟨_,rfl,he,C,_,_,_,rfl,hx,hD,W.xk,nn _,W.f6,_,rfl,zBC ?_⟩;refine⟨_,rfl,he,C,_,_,_,rfl,hx,hD,W.xk,nn _,W.f7,_,rfl,zDh ?_⟩;subst hC;refine⟨_,rfl,he,t.wAf,dx,_,.int d,rfl,hx,hd,T.wDZ,T.wAG.hd,T.wAG.no,rfl,?_⟩;refine⟨_,rfl,he,t.wAf,dx,_,.ref m,rfl,hx,hd,T.wDZ,T.wAG.hd,T.wCg.no,rfl,?_⟩;refine⟨d,m,L,rfl,hm,eR,dR,hL,λH' s'=>?_⟩;have hl:=zNd eR dR hL;have e8:(Str.ofString "shut in ").length=8:=by nofun
  exact⟨_,_,rfl,rfl,by rw[e8];exact sz _ ∅,q H' s'⟩
def zNc (K:W.Frag) (t:Adr) (b:Addr):Deed->Hp->VK->XK->Prop
 | .house n,H,Q,E=>sp_Book_house K t [.ref b,.str n] H Q E
 | .pact g u p f l,H,Q,E=>sp_Book_pact K t [.ref b,.str g,.str u,.int p,.int f,.int l] H Q E
 | .loss h y a,H,Q,E=>sp_Book_loss K t [.ref b,.str h,.int y,.int a] H Q E
def zHQ (n:Nat):Str:=Str.empty++Str.ofString "done "++Str.ofString (toString ((n:Nat):Int))
inductive sp_do_deed (K:W.Frag) (t:Adr) (vs:List V) (H:Hp) (Q:VK) (E:XK):Prop
 | mk (b tl a:Addr) (ds:List Deed) (d:Deed):vs=[.ref b,.ref a]->(zAs H t.wAj b tl ds/\ds.length<=800/\H a=some (.lst d.vs)/\(∀x∈ds++[d],x.Ok)/\
 zNc K t b d H (λ_ H'=>zBk tl H H'/\zAs H' t.wAj b tl (ds++[d])/\∀H2,zAi H' H2->Q (.str (zHQ (ds.length+1))) H2) E)->sp_do_deed K t vs H Q E
def zJa (T:Txt P w K mg t):FnOk P w K mg base (CXx P w) 46 t.wDb t.wDc ["book","asked"] (sp_do_deed K t):=by
 refine T.wEG.okX zFi ⟨⟩ ();obtain⟨b,tl,a,ds,d,rfl,hB,hz,ha,ok,hc⟩:=h;refine⟨_,(zD (zAm (zS zCb (zA8 K (pv 1) zF) zT (zAc _)) (zH (zAe (zEw (pv 0) T.wAl T.wFm ((zFP T).mono ⋯) hr T.wFl .nil zB7 (zG (zA8 K (pv 1) zF) zE zL)))) (zH (zAm (zS zCb (zA8 K (pv 1) zF) zT (zAc _)) (zH (zAe (zEw (pv 0) T.wAl T.wFI ((zGE T).mono ⋯) hr T.wFH .nil zB7 (zY (zA8 K (pv 1) zF) (zA8 K (pv 1) zF) (zAq (zA8 K (pv 1) zF) (zA8 K (pv 1) zF) (zA8 K (pv 1) zF) zE zL zL zL) zL zL)))) (zH (zAe (zEw (pv 0) T.wAl T.wFL ((zGF T).mono ⋯) hr T.wFK .nil zB7 (zAq (zA8 K (pv 1) zF) (zA8 K (pv 1) zF) (zA8 K (pv 1) zF) zE zL zL zL)))))))
  (zD (zAJ 2 zFi.nd (zU (zAo K) rfl T.wAp wH8 (zG (zBd (pv 0) T.wAl T.wDi ((zCY T).mono ⋯) hr T.wDh .nil zCW) zE zZ)))
  (zH (zX (zAy (zAX (zCv (pv 2) zB1))))))),?_⟩
 obtain⟨dx,qs,hb,ht,hq,hd⟩:=id hB;have Sa:=SqL.of (K:=K) ha;have lD:(ds++[d]).length=ds.length+1:=by rw[wHy];rfl
 generalize ds++[d]=D at ok hc lD;cases d with
 | house n=>
  refine⟨_,rfl,a,_,0,_,rfl,rfl,Sa,rfl,rfl,_,rfl,zGj rfl ?_⟩;refine⟨_,rfl,b,dx,_,rfl,hb,rfl,_,rfl,a,_,1,_,rfl,rfl,Sa,rfl,?_⟩;obtain⟨b',eC,ds',n',e,gM,fh,sn,q,qe⟩:=hc;refine⟨b',eC,ds',n',e,gM,fh,sn,λH' e1 e2 e3=>?_,qe⟩;obtain⟨k,B,q⟩:=q H' e1 e2 e3;obtain⟨dI,qs2,cD,_⟩:=id B;refine⟨_,rfl,b,dI,_,rfl,cD,rfl,b,tl,D,rfl,B,by omega,ok,λl H2 hl s2 el=>?_⟩;refine⟨l,_,rfl,.inl (SqL.of el),?_⟩;rw[wHt,wHt,lD];have dB:(((ds.length+1:Nat):Int)).natAbs < 10 ^ 60:=wIi (show _<=801 by omega) ⋯;have l1:=zA5 dB;refine⟨by bv_omega,_,rfl,_,⟨zFr dB,rfl⟩,by bv_omega,by bv_omega,?_⟩;exact q H2 s2
 | pact g u p f l=>
  refine⟨_,rfl,a,_,0,_,rfl,rfl,Sa,rfl,rfl,_,rfl,zFU (show ¬V.str "pact"=V.str "house" by nofun) ?_⟩;refine⟨_,rfl,a,_,0,_,rfl,rfl,Sa,rfl,rfl,_,rfl,zGj rfl ?_⟩;refine⟨_,rfl,b,dx,_,rfl,hb,rfl,_,rfl,a,_,1,_,rfl,rfl,Sa,rfl,_,rfl,a,_,2,_,rfl,rfl,Sa,rfl,_,rfl,a,_,3,_,rfl,rfl,Sa,rfl,_,rfl,a,_,4,_,rfl,rfl,Sa,rfl,_,rfl,a,_,5,_,rfl,rfl,Sa,rfl,?_⟩;obtain⟨b',eC,ds',g',u',p',f',l',e,gM,fh,n15,hX,sg,su,new,qe,qS,qF,q⟩:=hc;refine⟨b',eC,ds',g',u',p',f',l',e,gM,fh,n15,hX,sg,su,new,qe,qS,qF,λH' e1 e2 e3 e4 e5=>?_⟩;obtain⟨k,B,q⟩:=q H' e1 e2 e3 e4 e5;obtain⟨dI,qs2,cD,_⟩:=id B;refine⟨_,rfl,b,dI,_,rfl,cD,rfl,b,tl,D,rfl,B,by omega,ok,λl H2 hl s2 el=>?_⟩;refine⟨l,_,rfl,.inl (SqL.of el),?_⟩;rw[wHt,wHt,lD];have dB:(((ds.length+1:Nat):Int)).natAbs < 10 ^ 60:=wIi (show _<=801 by omega) ⋯;have l1:=zA5 dB;refine⟨by bv_omega,_,rfl,_,⟨zFr dB,rfl⟩,by bv_omega,by bv_omega,?_⟩;exact q H2 s2
 | loss h' y m=>
  refine⟨_,rfl,a,_,0,_,rfl,rfl,Sa,rfl,rfl,_,rfl,zFU (show ¬V.str "loss"=V.str "house" by nofun) ?_⟩;refine⟨_,rfl,a,_,0,_,rfl,rfl,Sa,rfl,rfl,_,rfl,zFU (show ¬V.str "loss"=V.str "pact" by nofun) ?_⟩;refine⟨_,rfl,b,dx,_,rfl,hb,rfl,_,rfl,a,_,1,_,rfl,rfl,Sa,rfl,_,rfl,a,_,2,_,rfl,rfl,Sa,rfl,_,rfl,a,_,3,_,rfl,rfl,Sa,rfl,?_⟩;obtain⟨b',eC,ds',n',y',m',e,gM,fh,sn,q,qe⟩:=hc;refine⟨b',eC,ds',n',y',m',e,gM,fh,sn,λH' e1 e2 e3=>?_,qe⟩;obtain⟨k,B,q⟩:=q H' e1 e2 e3;obtain⟨dI,qs2,cD,_⟩:=id B;refine⟨_,rfl,b,dI,_,rfl,cD,rfl,b,tl,D,rfl,B,by omega,ok,λl H2 hl s2 el=>?_⟩;refine⟨l,_,rfl,.inl (SqL.of el),?_⟩;rw[wHt,wHt,lD];have dB:(((ds.length+1:Nat):Int)).natAbs < 10 ^ 60:=wIi (show _<=801 by omega) ⋯;have l1:=zA5 dB;refine⟨by bv_omega,_,rfl,_,⟨zFr dB,rfl⟩,by bv_omega,by bv_omega,?_⟩;exact q H2 s2
def zEC (ds:List Deed):Str:=if ds=[] then Str.ofString "none" else Str.join (Str.ofString "; ") (ds.map Deed.row)
inductive sp_tell_deeds (K:W.Frag) (t:Adr) (vs:List V) (H:Hp) (Q:VK) (E:XK):Prop
 | mk (b tl:Addr) (ds:List Deed):vs=[.ref b]->(zAs H t.wAj b tl ds/\ds.length<=800/\(∀x∈ds,x.Ok)/\∀H',zAi H H'->Q (.str (zEC ds)) H')->sp_tell_deeds K t vs H Q E
def zH6 {d:Deed} (h:d.Ok):d.row.length<=6006:=by
 have e:d.words=(d.words.map λx=>x.cps.toList).map tx:=by rw[List.map_map];exact (List.map_id'' (λx=>zAj x) _).symm
 have h1:=zIt [32] 1000 (d.words.map λx=>x.cps.toList) λl hl=>by obtain⟨x,hx,rfl⟩:=List.mem_map.mp hl;rw[← zAI,zAj];obtain⟨y,hy,rfl⟩:=List.mem_map.mp hx;exact (h.words y hy).len
 unfold Deed.row;rw[e,b32,zBB,zAI];have h3:d.words.length<=6:=by unfold Deed.words;rw[wHt];exact zM9 d
 rw[wHt] at h1;have:d.words.length*(1000+[32].length)<=6*1001:=Nat.mul_le_mul h3 (wHA _);omega
def zIg {ds:List Deed} (ok:∀x∈ds,x.Ok) (hz:ds.length<=800):((ds.map Deed.row).map (·.length)).sum+(ds.map Deed.row).length*(Str.ofString "; ").length<=16777216:=by
 have h2:((ds.map Deed.row).map (·.length)).sum<=(ds.map Deed.row).length*6006:=by
  have all:∀ls:List Str,(∀x∈ls,x.length<=6006)->(ls.map (·.length)).sum<=ls.length*6006:=λls=>by
   induction ls with
   | nil=>exact λ_=>wHA _
   | cons x r ih=>
    intro h;have h1:=h x wIg;have h2:=ih λy hy=>h y (wHV _ hy);rw[wH6,List.sum_cons,wH3];omega
  exact all _ λx hx=>by obtain⟨d,hd,rfl⟩:=List.mem_map.mp hx;exact zH6 (ok d hd)
 have h4:(Str.ofString "; ").length=2:=by nofun
 rw[wHt] at h2;rw[h4,wHt];omega
def zFN (T:Txt P w K mg t):FnOk P w K mg base CX0 42 t.wBt t.wBu ["book"] (sp_tell_deeds K t):=by
 refine T.wDj.ok zCR ⟨⟩ ();obtain⟨b,tl,ds,rfl,hB,hz,ok,q⟩:=h;refine⟨_,(zD (zAJ 1 zCR.nd (zBd (pv 0) T.wAl T.wDi ((zCY T).mono ⋯) hr T.wDh .nil zCW))
  (zH (zX (zIk (zIi (pv 1) (λ_=>rfl)) (zFJ F.plainAttrs_str F.slot_str_join F.type_str_join (zC2 K) zT (zG (pv 1) zE zA)) zT)))),?_⟩
 obtain⟨dx,qs,hb,ht,hq,hd⟩:=id hB;refine⟨_,rfl,b,dx,_,rfl,hb,rfl,b,tl,ds,rfl,hB,by omega,ok,λl H1 hl s1 el=>?_⟩;refine⟨_,rfl,_,.inl ⟨_,SqL.of el,rfl⟩,?_⟩;by_cases c:ds=[]
 ·subst c;exact zBC (q H1 s1)
 have e2:(!((ds.map Deed.row).map V.str).isEmpty)=true:=by
  cases ds with
  | nil=>exact absurd rfl c
  | cons d r=>rfl
 rw[e2];refine zDh ⟨rfl,_,rfl,_,l,ds.map Deed.row,rfl,rfl,SqL.of el,?_,?_⟩
 ·exact zIg ok hz
 have e3:zEC ds=Str.join (Str.ofString "; ") (ds.map Deed.row):=wHD c;rw[← e3];exact q H1 s1
inductive AskC (K:W.Frag) (t:Adr) (b a:Addr) (H:Hp) (Q:VK) (E:XK):Prop
 | deed (d:Deed):H a=some (.lst d.vs)->(∀H1,zAi H H1->sp_do_deed K t [.ref b,.ref a] H1 Q E)->AskC K t b a H Q E
 | back:H a=some (.lst [.str "back"])->(∀H1,zAi H H1->sp_Book_take_back K t [.ref b] H1 (λv H'=>∃z,v=.str z/\z.length<=100000/\Q (.str (Str.ofString "back "++z)) H') E)->AskC K t b a H Q E
 | deeds:H a=some (.lst [.str "deeds"])->(∀H1,zAi H H1->sp_tell_deeds K t [.ref b] H1 Q E0)->AskC K t b a H Q E
inductive sp_ask (K:W.Frag) (t:Adr) (vs:List V) (H:Hp) (Q:VK) (E:XK):Prop
 | mk (b a tl:Addr) (ds:List Deed):vs=[.ref b,.ref a]->(zAs H t.wAj b tl ds/\AskC K t b a H Q E)->sp_ask K t vs H Q E
def zPv (T:Txt P w K mg t):FnOk P w K mg base (CXx P w) 48 t.wFY t.wFZ ["book","asked"] (sp_ask K t):=by
 refine T.wGH.okX zMG ⟨⟩ ();obtain⟨b,a,tl,ds,rfl,hB,hc⟩:=h;refine⟨_,(zD (zAJ 2 zMG.nd (zA8 K (pv 1) zF))
  (zD (zAm (zS (zGA K) (pv 2) (zAT (zHE zE)) (by with_unfolding_all rfl)) (zH (zX (zAB ((zJa T).mono ⋯) hr rfl T.wGg T.wEG.kp T.wGf .nil zB7 (zY (pv 0) (pv 1) zE zA zA)))) zR)
  (zD (zAm (zS zCb (pv 2) zT (zAc _)) (zH (zX (zP zW zT (zBd (pv 0) T.wAl T.wDS ((zDu T).mono ⋯) hr T.wDR .nil zB7)))) zR)
  (zD (zAm (zS zCb (pv 2) zT (zAc _)) (zH (zX (cal (zFN T) hr T.wFo T.wDj T.wFn (zG (pv 0) zE zA)))) zR)
  zKe)))),?_⟩
 obtain⟨dx,qs,hb,ht,hq,hd⟩:=id hB;cases hc with
 | deed d ha sp=>
  have Sa:=SqL.of (K:=K) ha;refine⟨_,rfl,a,_,0,.str d.tag,rfl,rfl,Sa,zBE ⋯ rfl,?_⟩;refine⟨_,rfl,szl,λp hp=>?_⟩;have s1:=zC hp (.tup [V.str "house",V.str "pact",V.str "loss"]);refine⟨p,_,rfl,.inr (SqT.of zB),rfl,rfl,_,rfl,?_⟩;have e:inV (.str d.tag) [V.str "house",V.str "pact",V.str "loss"]=true:=by
   cases d with
   | house n=>show inV (.str "house") _=true;nofun
   | pact g u p f l=>show inV (.str "pact") _=true;nofun
   | loss h y m=>show inV (.str "loss") _=true;nofun
  rw[wHD (by decide:¬(false=true)),e];exact zDh ⟨_,rfl,_,rfl,sp _ s1⟩
 | back ha sp=>
  have Sa:=SqL.of (K:=K) ha;refine⟨_,rfl,a,_,0,_,rfl,rfl,Sa,rfl,?_⟩;refine⟨_,rfl,szl,λp hp=>?_⟩;have s1:=zC hp (.tup [V.str "house",V.str "pact",V.str "loss"]);refine⟨p,_,rfl,.inr (SqT.of zB),rfl,rfl,_,rfl,?_⟩;have e:inV (.str "back") [V.str "house",V.str "pact",V.str "loss"]=false:=by nofun
  rw[wHD (by decide:¬(false=true)),e];refine zBC ⟨_,rfl,rfl,_,rfl,zGj rfl ?_⟩;have cE:=s1 _ _ hb;have h5:(Str.ofString "back ").length=5:=by nofun
  obtain⟨b',eC,e',c⟩:=sp _ s1;refine⟨_,rfl,b,dx,_,rfl,cE,rfl,b',eC,e',?_⟩;rcases c with ⟨B,q⟩ | ⟨ds',d',B,hz,ok,q⟩
  ·exact .inl ⟨B,q⟩
  refine .inr ⟨ds',d',B,hz,ok,λH' k B'=>?_⟩;obtain⟨z,e,lz,q⟩:=q H' k B';cases e;exact⟨_,_,rfl,rfl,by rw[h5];exact sz _ ∅,q⟩
 | deeds ha sp=>
  have Sa:=SqL.of (K:=K) ha;refine⟨_,rfl,a,_,0,_,rfl,rfl,Sa,rfl,?_⟩;refine⟨_,rfl,szl,λp hp=>?_⟩;have s1:=zC hp (.tup [V.str "house",V.str "pact",V.str "loss"]);refine⟨p,_,rfl,.inr (SqT.of zB),rfl,rfl,_,rfl,?_⟩;have e:inV (.str "deeds") [V.str "house",V.str "pact",V.str "loss"]=false:=by nofun
  rw[wHD (by decide:¬(false=true)),e];refine zBC ⟨_,rfl,rfl,_,rfl,zFU (by nofun) ?_⟩;refine⟨_,rfl,rfl,_,rfl,zGj rfl ?_⟩;exact⟨_,rfl,sp _ s1⟩
def RefC.to {K:W.Frag} {t:Adr} {H H2:Hp} {Q Q':Str->Hp->Prop} {C:Addr} {dd:Option Addr} (R:RefC K t H Q C dd) (s:zAi H H2) (hq:∀z H',z.length<=150000->zAi H2 H'->Q z H'->Q' z H'):RefC K t H2 Q' C dd:=by
 cases R with
 | word w W hw h7 e q=>
  have all:∀i:_root_.Fin 10,(zCi i.1).length<=1000:=by nofun
  exact .word w W hw h7 e λH' s'=>hq _ H' (wHI (all ⟨w,hw⟩) ⋯) s' (q H' (s.trans s'))
 | shut dx m d L W hC e hd hm eR dR hL q=>
  refine .shut dx m d L W hC e (s _ _ hd) (s _ _ hm) eR dR hL λH' s'=>hq _ H' ?_ s' (q H' (s.trans s'));have h8:(Str.ofString "shut in ").length=8:=by nofun
  have:=zNd eR dR hL;unfold zHu;rw[Str.length_append,h8];omega
def zAY (H:Hp) (t:Adr) (x b tl:Addr) (ds:List Deed):Prop:=∃dx,H x=some (.ins t.wAq dx [("book",.ref b)])/\zAs H t.wAj b tl ds
def zAY.same {H H':Hp} {t:Adr} {x b tl:Addr} {ds:List Deed} (h:zAY H t x b tl ds) (s:zAi H H'):zAY H' t x b tl ds:=let ⟨dx,a,c⟩:=h;⟨dx,s _ _ a,c.same s⟩
inductive sp_Desk_UinitU (t:Adr) (vs:List V) (H:Hp) (Q:VK) (E:XK):Prop
 | mk (x dx:Addr):vs=[.ref x]->(H x=some (.ins t.wAq dx [])/\∀(b tl:Addr) (H1:Hp),zAi H H1->H b=none->H tl=none->zAs H1 t.wAj b tl []->Q .non (upd H1 x (.ins t.wAq dx [("book",.ref b)])))->sp_Desk_UinitU t vs H Q E
def zEW (T:Txt P w K mg t):FnOk P w K mg base CX0 42 t.wAt t.wA4 ["self"] (sp_Desk_UinitU t):=by refine T.wET.ok zEP ⟨⟩ ();obtain⟨x,dx,rfl,hx,q⟩:=h;refine⟨_,(zH (zML (pv 0) (zIj T.wHe ((zEY T).mono ⋯) hr rfl T.wHc T.wEM .nil zCW) rfl)),?_⟩;intro b fz nb iB kS;refine⟨b,fz,rfl,zB,λtl dS=>⟨rfl,?_⟩⟩;obtain⟨B2,s2,hZ⟩:=zMj nb iB kS dS;generalize upd (upd (upd (upd H fz (.own b)) b (.ins t.wAj fz [])) tl (.lst [])) b (.ins t.wAj fz [("told",.ref tl)])=H2 at B2 s2 ⊢;exact⟨_,rfl,x,_,dx,_,rfl,s2 _ _ hx,T.wFs,T.wDL,by decide,q b tl H2 s2 nb hZ B2⟩
def zH8 (z:Str):Str:=Str.ofString "refused: "++z
inductive sp_Desk_answer (K:W.Frag) (t:Adr) (vs:List V) (H:Hp) (Q:VK) (E:XK):Prop
 | mk (x b tl:Addr) (ds:List Deed) (l:List Nat) (us:List V):vs=[.ref x,vx l]->(zAY H t x b tl ds/\zBL (tx l)/\zFH l=some us/\
 ∀(a:Addr) (H1:Hp) (E':XK),H a=none->zAi H H1->H1 a=some (.lst us)->(∀C dd H',RefC K t H' (λz H2=>Q (.str (zH8 z)) H2) C dd->E' (.ref C) dd H')->AskC K t b a H1 Q E')->sp_Desk_answer K t vs H Q E
def zEV (T:Txt P w K mg t):FnOk P w K mg base CX0 49 t.wA5 t.wA6 ["self","row"] (sp_Desk_answer K t):=by
 refine T.wEV.ok zC8 ⟨⟩ ();obtain⟨x,b,tl,ds,l,us,rfl,D,sn,rd,q⟩:=h;refine⟨_,(zH (zPd (i:=2) zC8.nd rfl rfl rfl T.wDK (zLR (zNF (zKk ((zPv T).mono ⋯) hr rfl T.wHi T.wGH.kp T.wHh .nil (zIm (zPk (zC9 (pv 0) rfl)) (zIm (zLU ((zLX T).mono ⋯) hr rfl T.wGQ T.wFS.kp T.wGP .nil (zG (pv 1) zE zA)) zNM zZ) zBc)))) (λhe=>(zH (zX (zP zW zT (zIl ((zEz T).mono ⋯) (RoomH.of hr) rfl T.wEt T.wCe.kp T.wEs (zG (pv 2) zE zA)))))))),?_⟩;obtain⟨dx,hx,hB⟩:=id D;refine⟨_,rfl,x,_,dx,_,_,rfl,hx,T.wFs,T.wDL,rfl,?_⟩;refine⟨_,rfl,l,us,rfl,sn,rd,λa H1 ha s1 e1=>?_⟩;refine⟨b,a,tl,ds,rfl,hB.same s1,q a H1 _ ha s1 e1 λC dd H' R=>?_⟩;obtain⟨w,W,hw,hD⟩:=R.ex;refine⟨W.fc,λe he=>?_⟩;have s2:=zC he (zJp e (.ref C) dd);have h9:(Str.ofString "refused: ").length=9:=by nofun
 refine⟨_,rfl,C,dd,rfl,zB,R.to s2 λz H3 lz s3 q=>?_⟩;exact⟨_,_,rfl,rfl,by rw[h9];exact sz _ ∅,q⟩
def Wd (l:List Nat):Prop:=l≠[]/\l.length<=9/\∀c∈l,32 < c/\c < 127
def zO2 (c:Nat) (l:List Nat) (v:V):Prop:=(c=110/\Wd l/\v=vx l)∨(c≠110/\∃n:Nat,n < 10 ^ 13/\l=dg n/\v=.int (n:Nat))
inductive Fit:List Nat->List (List Nat)->List V->Prop
 | nil:Fit [] [] []
 | cons {c:Nat} {cs:List Nat} {l:List Nat} {ls:List (List Nat)} {v:V} {vs:List V}:zO2 c l v->Fit cs ls vs->Fit (c::cs) (l::ls) (v::vs)
theorem Fit.snoc {c:Nat} {l:List Nat} {v:V} (k:zO2 c l v):∀{cs:List Nat} {ls:List (List Nat)} {vs:List V},Fit cs ls vs->Fit (cs++[c]) (ls++[l]) (vs++[v])
 | _,_,_,.nil=>.cons k .nil
 | _,_,_,.cons a b=>.cons a (Fit.snoc k b)
def Fit.len:∀{cs:List Nat} {ls:List (List Nat)} {vs:List V},Fit cs ls vs->ls.length=cs.length/\vs.length=cs.length
 | _,_,_,.nil=>⟨rfl,rfl⟩
 | _,_,_,.cons _ b=>by have:=b.len;simp only[wH3];omega
def zOu (m:Nat):0 < m->(dg m).head?≠some 48:=by
 induction m using Nat.strongRecOn with
 | ind m ih=>
  intro h;by_cases c:m < 10
  ·rw[zB3 c];intro z;have:48+m=48:=wHE z;omega
  rw[zGa ∅];have:=ih (m / 10) ∅ ∅;cases e:dg (m / 10) with
  | nil=>exact absurd e (zPO _)
  | cons a r=>rw[e] at this;exact this
def zPx {n:Nat} (h:n < 10 ^ 13):zJo (dg n):=by
 refine⟨zHR 12 n h,zGX 12 n h,λk z=>?_⟩;by_cases c:n=0
 ·subst c;rw[zB3 ⋯] at k;exact absurd k ⋯
 exact zOu n ∅ z
def zPZ (k:Str):Bool:=decide (k∈zBJ)
def zO2.word {k:Str} {c:Nat} {l:List Nat} {v:V} (e:zPZ k=decide (c≠110)) (h:zO2 c l v):zF2 k l=some v:=by
 unfold zF2;rcases h with ⟨h1,h2,rfl⟩ | ⟨h1,n,h2,rfl,rfl⟩
 ·rw[h1] at e;rw[wHD (wH9 e)]
 rw[wHU h1] at e;rw[wHF (wHP e),wHF (zPx h2),zOq]
theorem Fit.words:∀{ks:List Str} {cs:List Nat} {ls:List (List Nat)} {vs:List V},ks.map zPZ=cs.map (λc=>decide (c≠110))->Fit cs ls vs->zD4 ks ls=some vs
 | [],_,_,_,_,.nil=>rfl
 | k::ks,_,_,_,e,.cons a b=>by
  obtain⟨e1,e2⟩:=List.cons.inj e;unfold zD4;rw[a.word e1,Fit.words e2 b]
  rfl
def zO2.ok {c:Nat} {l:List Nat} {v:V} (h:zO2 c l v):l≠[]/\l.length<=20/\(∀x∈l,32 < x/\x < 127)/\WOk v/\wOf v=tx l/\((∃z,v=.str z)∨∃i,v=.int i):=by
 rcases h with ⟨h1,h2,rfl⟩ | ⟨h1,n,h2,rfl,rfl⟩
 ·exact⟨h2.1,by have:=h2.2.1;omega,h2.2.2,.inr ⟨_,rfl,by rw[zAI];have:=h2.2.1;omega⟩,rfl,.inl ⟨_,rfl⟩⟩
 refine⟨zPO n,wHI (zGX 12 n h2) ⋯,λx hx=>?_,.inl ⟨_,rfl,?_⟩,zCL n,.inr ⟨_,rfl⟩⟩
 ·have:=zHR 12 n h2 x hx;omega
 have:(10:Nat) ^ 13 < 10 ^ 60:=by decide
 omega
def Fit.all:∀{cs:List Nat} {ls:List (List Nat)} {vs:List V},Fit cs ls vs->(∀l∈ls,l≠[]/\l.length<=20/\∀x∈l,32 < x/\x < 127)/\(∀v∈vs,WOk v/\((∃z,v=.str z)∨∃i,v=.int i))/\vs.map wOf=ls.map tx
 | _,_,_,.nil=>⟨(λl hl=>nomatch hl),(λl hl=>nomatch hl),rfl⟩
 | _,_,_,.cons a b=>by
  obtain⟨h1,h2,h3⟩:=b.all;have k:=a.ok;refine⟨λl hl=>?_,λv hv=>?_,?_⟩
  ·rcases wIQ hl with z | z
   ·rw[z];exact⟨k.1,k.2.1,k.2.2.1⟩
   exact h1 l z
  ·rcases wIQ hv with z | z
   ·rw[z];exact⟨k.2.2.2.1,k.2.2.2.2.2⟩
   exact h2 v z
  rw[wH6,wH6,h3,k.2.2.2.2.1]
theorem zKW {w:Str} {q:Str × List Str} {cs:List Nat} {ls:List (List Nat)} {vs:List V} (hq:zBz.find? (λq=>decide (q.1=w))=some q) (e:q.2.map zPZ=cs.map (λc=>decide (c≠110))) (hw:∀c∈w.cps.toList,32 < c/\c < 127) (hn:w.cps.toList≠[]) (f:Fit cs ls vs):zFH (jn [32] (w.cps.toList::ls))=some (.str w::vs):=by
 obtain⟨h1,h2,h3⟩:=f.all;unfold zFH;rw[zLb 32 (by intro z;cases z)]
 ·unfold zFG;rw[wHD]
  ·show (match zBz.find? (λp=>decide (p.1=tx w.cps.toList)) with | none=>none | some p=>_)=_;rw[zAj,hq];have l1:ls.length+1=q.2.length+1:=by have:=congrArg List.length e;rw[wHt,wHt] at this;rw[f.len.1,this]
   show (if ls.length+1=q.2.length+1 then (zD4 q.2 ls).map (vx w.cps.toList::·) else none)=_;rw[wHF l1,f.words e];show some (V.str (tx w.cps.toList)::vs)=_;rw[zAj]
  intro z;rcases wIQ z with z | z
  ·exact hn z.symm
  exact (h1 _ z).1 rfl
 intro x hx z;rcases wIQ hx with y | y
 ·rw[y] at z;have:=hw _ z;omega
 have:=(h1 _ y).2.2 _ z;omega
theorem zIu {sep:List Nat} {c:Nat}:∀{ws:List (List Nat)},c∈jn sep ws->c∈sep∨∃w∈ws,c∈w
 | [],h=>by cases h
 | [w],h=>.inr ⟨w,by simp,h⟩
 | w::v::ws,h=>by
  have h':c∈w++sep++jn sep (v::ws):=h;rcases wIP h' with z | z
  ·rcases wIP z with z | z
   ·exact .inr ⟨w,by simp,z⟩
   exact .inl z
  rcases zIu z with z | ⟨u,hu,z⟩
  ·exact .inl z
  exact .inr ⟨u,wHV _ hu,z⟩
def zI3 {w:Str} {cs:List Nat} {ls:List (List Nat)} {vs:List V} (hw:∀c∈w.cps.toList,32 < c/\c < 127) (hl:w.length<=20) (f:Fit cs ls vs) (hc:cs.length<=7):zBL (tx (jn [32] (w.cps.toList::ls)))/\(∀l∈w.cps.toList::ls,l.length<=20)/\(w.cps.toList::ls).length<=8:=by
 obtain⟨h1,h2,h3⟩:=f.all;have b:∀l∈w.cps.toList::ls,l.length<=20:=λl hm=>by
  rcases wIQ hm with y | y
  ·rw[y,← zAC];exact hl
  exact (h1 _ y).2.1
 have n8:(w.cps.toList::ls).length<=8:=by rw[wH3,f.len.1];omega
 refine⟨zJN (λc hc=>?_) ?_,b,n8⟩
 ·rcases zIu hc with z | ⟨u,hu,z⟩
  ·rw[wIM z];decide
  rcases wIQ hu with y | y
  ·rw[y] at z;have:=hw _ z;omega
  have:=(h1 _ y).2.2 _ z;omega
 have:=zIt [32] 20 _ b;exact wHI this (wHI (Nat.mul_le_mul n8 (wHA _)) ⋯)
def zHK {n:Str} (h:zGl n):Wd n.cps.toList:=by obtain⟨h1,h2,h3⟩:=h;have e:=zAC n;refine⟨λz=>?_,by omega,λc hc=>by have:=h1 c hc;omega⟩;rw[z] at e;have:n.length=0:=e;omega
def DWd:Deed->Prop
 | .house n=>Wd n.cps.toList
 | .pact g u p f l=>Wd g.cps.toList/\Wd u.cps.toList/\(0<=p/\p < 10 ^ 13)/\(0<=f/\f < 10 ^ 13)/\0<=l/\l < 10 ^ 13
 | .loss h y a=>Wd h.cps.toList/\(0<=y/\y < 10 ^ 13)/\0<=a/\a < 10 ^ 13
def zOZ {d:Deed} {ls:List (List Nat)} (e:d.words=ls.map tx):d.row=tx (jn [32] ls):=by unfold Deed.row;rw[e,b32,zBB]
theorem zH9 {d:Deed} (h:DWd d):zFH d.row.cps.toList=some d.vs/\zBL d.row:=by
 have key:∀(w:Str) (q:Str × List Str) (cs:List Nat) (ls:List (List Nat)) (vs:List V),zBz.find? (λq=>decide (q.1=w))=some q->q.2.map zPZ=cs.map (λc=>decide (c≠110))->w.cps.toList.all (λc=>decide (32 < c/\c < 127))=true->w.cps.toList≠[]->w.length<=20->cs.length<=7->Fit cs ls vs->d.vs=.str w::vs->d.words=(w.cps.toList::ls).map tx->zFH d.row.cps.toList=some d.vs/\zBL d.row:=λw q cs ls vs hq e ha hn hl h7 f ev ew=>by have hw:∀c∈w.cps.toList,32 < c/\c < 127:=λc hc=>wHP (List.all_eq_true.mp ha c hc);rw[zOZ ew,zAN,ev];exact⟨zKW hq e hw hn f,(zI3 hw hl f h7).1⟩
 have nat:∀{p:Int},0<=p/\p < 10 ^ 13->∃m:Nat,m < 10 ^ 13/\p=(m:Nat):=λ{p} h=>⟨p.toNat,by omega,by omega⟩;cases d with
 | house n=>
  refine key (Str.ofString "house") (Str.ofString "house",[Str.ofString "NAME"]) [110] [n.cps.toList] [.str n] (by nofun) (by nofun) (by nofun) (by nofun) (by nofun) ⋯ ?_ rfl ?_
  ·exact .cons (.inl ⟨rfl,h,by unfold vx;rw[zAj]⟩) .nil
  show [Str.ofString "house",n]=[tx (Str.ofString "house").cps.toList,tx n.cps.toList];rw[zAj,zAj]
 | pact g u p f l=>
  obtain⟨h1,h2,h3,h4,h5⟩:=h;obtain⟨a,a1,rfl⟩:=nat h3;obtain⟨b,b1,rfl⟩:=nat h4;obtain⟨c,c1,rfl⟩:=nat h5;refine key (Str.ofString "pact") (Str.ofString "pact",[Str.ofString "GIVER",Str.ofString "TAKER",Str.ofString "PART",Str.ofString "FIRST",Str.ofString "LAST"]) [110,110,48,48,48] [g.cps.toList,u.cps.toList,dg a,dg b,dg c] [.str g,.str u,.int (a:Nat),.int (b:Nat),.int (c:Nat)] (by nofun) (by nofun) (by nofun) (by nofun) (by nofun) ⋯ ?_ rfl ?_
  ·exact .cons (.inl ⟨rfl,h1,by unfold vx;rw[zAj]⟩) (.cons (.inl ⟨rfl,h2,by unfold vx;rw[zAj]⟩) (.cons (.inr ⟨by decide,a,a1,rfl,rfl⟩) (.cons (.inr ⟨by decide,b,b1,rfl,rfl⟩) (.cons (.inr ⟨by decide,c,c1,rfl,rfl⟩) .nil))))
  show [Str.ofString "pact",g,u,Str.ofString (toString ((a:Nat):Int)),Str.ofString (toString ((b:Nat):Int)),Str.ofString (toString ((c:Nat):Int))]=[tx (Str.ofString "pact").cps.toList,tx g.cps.toList,tx u.cps.toList,tx (dg a),tx (dg b),tx (dg c)];rw[zAj,zAj,zAj,zCL,zCL,zCL]
 | loss x y m=>
  obtain⟨h1,h3,h4⟩:=h;obtain⟨a,a1,rfl⟩:=nat h3;obtain⟨b,b1,rfl⟩:=nat h4;refine key (Str.ofString "loss") (Str.ofString "loss",[Str.ofString "HOUSE",Str.ofString "DAY",Str.ofString "AMOUNT"]) [110,48,48] [x.cps.toList,dg a,dg b] [.str x,.int (a:Nat),.int (b:Nat)] (by nofun) (by nofun) (by nofun) (by nofun) (by nofun) ⋯ ?_ rfl ?_
  ·exact .cons (.inl ⟨rfl,h1,by unfold vx;rw[zAj]⟩) (.cons (.inr ⟨by decide,a,a1,rfl,rfl⟩) (.cons (.inr ⟨by decide,b,b1,rfl,rfl⟩) .nil))
  show [Str.ofString "loss",x,Str.ofString (toString ((a:Nat):Int)),Str.ofString (toString ((b:Nat):Int))]=[tx (Str.ofString "loss").cps.toList,tx x.cps.toList,tx (dg a),tx (dg b)];rw[zAj,zAj,zCL,zCL]
theorem zKb {w:Str} (hq:w=Str.ofString "back"∨w=Str.ofString "deeds"):zFH w.cps.toList=some [.str w]/\zBL w:=by
 have h:∀w:Str,zBz.find? (λq=>decide (q.1=w))=some (w,[])->w.cps.toList.all (λc=>decide (32 < c/\c < 127))=true->w.cps.toList≠[]->w.length<=20->zFH w.cps.toList=some [.str w]/\zBL w:=λw hq ha hn hl=>by have hw:∀c∈w.cps.toList,32 < c/\c < 127:=λc hc=>wHP (List.all_eq_true.mp ha c hc);have a:=zKW (cs:=[]) (ls:=[]) (vs:=[]) hq rfl hw hn .nil;have b:=(zI3 (cs:=[]) (ls:=[]) (vs:=[]) hw hl .nil ⋯).1;have e:tx (jn [32] [w.cps.toList])=w:=zAj w;rw[e] at b;exact⟨a,b⟩
 rcases hq with rfl | rfl
 ·exact h _ (by nofun) (by nofun) (by nofun) (by nofun)
 exact h _ (by nofun) (by nofun) (by nofun) (by nofun)
def zO7 {n:Nat} {ws:List W5} (ok:∀p∈ws,OkN n p) (d:Int):zDG (wyL ws d) n=0:=by
 have:∀w∈wyL ws d,w.1≠n:=λw hw=>by obtain⟨p,hp,_,rfl⟩:=zF1 hw;show p.1.toNat≠n;have:=(ok p hp).g;omega
 generalize wyL ws d=L at this
 induction L with
 | nil=>rfl
 | cons w L ih=>
  rw[zBi,wHD (this w wIg),ih λv hv=>this v (wHV _ hv)]
  rfl
def OkN.up {n:Nat} {p:W5} (h:OkN n p):OkN (n+1) p:=⟨⟨h.g.1,by have:=h.g.2;omega⟩,⟨h.u.1,by have:=h.u.2;omega⟩,h.ne,h.pt,h.sp⟩
def GoodB.up {n:Nat} {ws:List W5} (g:GoodB n ws):GoodB (n+1) ws:=by
 refine⟨λp hp=>(g.ok p hp).up,g.out,λd j hj=>?_⟩;by_cases c:j < n
 ·exact g.opn d j c
 have e:j=n:=by omega
 subst e;exact .base (by rw[zO7 g.ok d];decide)
def zPn {ns:List Str} {p:W5} (n:Str) (h:OkN ns.length p):pOf (ns++[n]) p=pOf ns p:=by
 unfold pOf;have e:∀k:Nat,k < ns.length->(ns++[n]).getD k Str.empty=ns.getD k Str.empty:=λk hk=>by rw[wHw,wHw,wHJ hk]
 rw[e _ (by have:=h.g;omega),e _ (by have:=h.u;omega)]
def IsD (d:Int):Prop:=0<=d/\d<=5000
def pD (p:Pct):Deed:=.pact p.1 p.2.1 p.2.2.1 p.2.2.2.1 p.2.2.2.2
inductive Hst:List Deed->List Str->List W5->Prop
 | nil:Hst [] [] []
 | house {ds:List Deed} {ns:List Str} {ws:List W5} {n:Str}:Hst ds ns ws->zGl n->n∉ns->ns.length < 15->Hst (ds++[.house n]) (ns++[n]) ws
 | pact {ds:List Deed} {ns:List Str} {ws:List W5} {w:W5}:Hst ds ns ws->OkN ns.length w->GoodB ns.length (ws++[w])->Hst (ds++[pD (pOf ns w)]) ns (ws++[w])
 | loss {ds:List Deed} {ns:List Str} {ws:List W5} {h:Str} {y a:Int}:Hst ds ns ws->h∈ns->IsD y->1<=a/\a<=10 ^ 12->Hst (ds++[.loss h y a]) ns ws
structure HstOk (ds:List Deed) (ns:List Str) (ws:List W5):Prop where
 n:zQ ds=ns
 p:zAb ds=ws.map (pOf ns)
 nd:ns.Nodup
 nok:∀n∈ns,zGl n
 n15:ns.length<=15
 g:GoodB ns.length ws
 ok:∀d∈ds,d.Ok/\DWd d
 lw:ws.length<=ds.length
 ll:(zA6 ds).length<=ds.length
def zMP {ns:List Str} {w:W5} (o:OkN ns.length w):(pOf ns w).1∈ns/\(pOf ns w).2.1∈ns:=by
 have mem:∀k:Int,0<=k->k < ns.length->ns.getD k.toNat Str.empty∈ns:=λk h0 h1=>by rw[wHw,wHv (show k.toNat < ns.length by omega)];exact wHZ _
 exact⟨mem _ o.g.1 o.g.2,mem _ o.u.1 o.u.2⟩
def zIp {ns:List Str} (nok:∀n∈ns,zGl n) {w:W5} (o:OkN ns.length w):(pD (pOf ns w)).Ok/\DWd (pD (pOf ns w)):=by obtain⟨h1,h2⟩:=zMP o;have b:∀{x:Int},0<=x->x<=5000->x.natAbs < 10 ^ 60/\0<=x/\x < 10 ^ 13:=λ{x} h0 h1=>⟨wIi (show x.natAbs<=5000 by omega) ⋯,h0,by omega⟩;have p:=o.pt;have s:=o.sp;have b1:=b (x:=w.2.2.1) ∅ ∅;have b2:=b (x:=w.2.2.2.1) ∅ ∅;have b3:=b (x:=w.2.2.2.2) ∅ ∅;exact⟨⟨(nok _ h1).sane,(nok _ h2).sane,b1.1,b2.1,b3.1⟩,zHK (nok _ h1),zHK (nok _ h2),b1.2,b2.2,b3.2⟩
def zFM {ns:List Str} (nok:∀n∈ns,zGl n) {h:Str} {y a:Int} (hh:h∈ns) (hy:IsD y) (ha:1<=a/\a<=10 ^ 12):(Deed.loss h y a).Ok/\DWd (.loss h y a):=by have b1:y.natAbs < 10 ^ 60:=wIi (show y.natAbs<=5000 by have:=hy.1;have:=hy.2;omega) ⋯;have b2:a.natAbs < 10 ^ 60:=wIi (show a.natAbs<=10 ^ 12 by omega) ⋯;exact⟨⟨(nok _ hh).sane,b1,b2⟩,zHK (nok _ hh),⟨hy.1,by have:=hy.2;omega⟩,by omega,by omega⟩
def Hst.all {ds:List Deed} {ns:List Str} {ws:List W5} (h:Hst ds ns ws):HstOk ds ns ws:=by
 have snoc:∀{ds:List Deed} {d:Deed},(∀x∈ds,x.Ok/\DWd x)->d.Ok/\DWd d->∀x∈ds++[d],x.Ok/\DWd x:=λ{ds d} h1 h2 x hx=>by
  rcases wIP hx with z | z
  ·exact h1 x z
  rw[wIM z];exact h2
 have ln:∀{ds:List Deed} {d:Deed},(ds++[d]).length=ds.length+1:=λ{ds d}=>by rw[wHy];rfl
 induction h with
 | nil=>exact⟨rfl,rfl,List.nodup_nil,λn hn=>(by cases hn),by decide,GoodB.nil 0,λd hd=>(by cases hd),wHA _,wHA _⟩
 | @house ds ns ws n _ nk nn n15 ih=>
  refine⟨by rw[zCe,ih.n];rfl,?_,?_,λm hm=>?_,by rw[wHy];show _+1<=_;omega,by rw[wHy];exact ih.g.up,snoc ih.ok ⟨nk.sane,zHK nk⟩,by rw[ln];have:=ih.lw;omega,by rw[zB2,ln];show (_++[]).length<=_;rw[wHQ];have:=ih.ll;omega⟩
  ·rw[zCa,ih.p];show ws.map (pOf ns)++[]=_;rw[wHQ];exact List.map_congr_left λp hp=>(zPn n (ih.g.ok p hp)).symm
  ·exact List.nodup_append.mpr ⟨ih.nd,by simp,λa ha b hb e=>by rw[wIM hb] at e;exact nn (e ▸ ha)⟩
  rcases wIP hm with z | z
  ·exact ih.nok m z
  rw[wIM z];exact nk
 | @pact ds ns ws w _ o g ih=>
  refine⟨by rw[zCe,ih.n];exact wHQ _,by rw[zCa,ih.p,wHC];rfl,ih.nd,ih.nok,ih.n15,g,snoc ih.ok (zIp ih.nok o),by rw[ln,wHy];have:=ih.lw;show _+1<=_;omega,by rw[zB2,ln];show (_++[]).length<=_;rw[wHQ];have:=ih.ll;omega⟩
 | @loss ds ns ws x y a _ hh hy ha ih=>
  refine⟨by rw[zCe,ih.n];exact wHQ _,by rw[zCa,ih.p];exact wHQ _,ih.nd,ih.nok,ih.n15,ih.g,snoc ih.ok (zFM ih.nok hh hy ha),by rw[ln];have:=ih.lw;omega,by rw[zB2,ln,wHy];have:=ih.ll;show _+1<=_;omega⟩
def Hst.last {D:List Deed} {ns:List Str} {ws:List W5} (h:Hst D ns ws):(D=[]/\ns=[]/\ws=[])∨∃(ds:List Deed) (d:Deed) (aP:List Str) (ws':List W5),D=ds++[d]/\Hst ds aP ws'/\
  ((∃n,d=.house n/\ns=aP++[n]/\ws=ws')∨(∃w,d=pD (pOf aP w)/\ns=aP/\ws=ws'++[w])∨∃x y a,d=.loss x y a/\ns=aP/\ws=ws'):=by
 cases h with
 | nil=>exact .inl ⟨rfl,rfl,rfl⟩
 | house h _ _ _=>exact .inr ⟨_,_,_,_,rfl,h,.inl ⟨_,rfl,rfl,rfl⟩⟩
 | pact h _ _=>exact .inr ⟨_,_,_,_,rfl,h,.inr (.inl ⟨_,rfl,rfl,rfl⟩)⟩
 | loss h _ _ _=>exact .inr ⟨_,_,_,_,rfl,h,.inr (.inr ⟨_,_,_,rfl,rfl,rfl⟩)⟩
def zHj (K:W.Frag) (t:Adr) (ds:List Deed) (z due:Str) (ds':List Deed):Prop:=∀(H:Hp) (Q:VK) (E:XK) (x b tl:Addr),zAY H t x b tl ds->(∀H',zBk tl H H'->zAY H' t x b tl ds'->Q (.str due) H')->sp_Desk_answer K t [.ref x,.str z] H Q E
def zAY.ne {H:Hp} {t:Adr} {x b tl:Addr} {ds:List Deed} (D:zAY H t x b tl ds):x≠tl:=λz=>by obtain⟨dx,hx,_,_,_,ht,_⟩:=D;rw[z,ht] at hx;cases hx
def zAY.next {H H':Hp} {t:Adr} {x b tl:Addr} {ds ds':List Deed} (D:zAY H t x b tl ds) (k:zBk tl H H') (B:zAs H' t.wAj b tl ds'):zAY H' t x b tl ds':=by have n:=D.ne;obtain⟨dx,hx,_⟩:=D;exact⟨dx,k _ _ n hx,B⟩
def zGi {H:Hp} {Q:VK} {E:XK} {x b tl:Addr} {ds:List Deed} {z:Str} {us:List V} (D:zAY H t x b tl ds) (rd:zFH z.cps.toList=some us/\zBL z)
  (hc:∀(a:Addr) (H1:Hp) (E':XK),zAi H H1->H1 a=some (.lst us)->(∀C dd H',RefC K t H' (λz H2=>Q (.str (zH8 z)) H2) C dd->E' (.ref C) dd H')->AskC K t b a H1 Q E'):sp_Desk_answer K t [.ref x,.str z] H Q E:=
 ⟨x,b,tl,ds,z.cps.toList,us,by unfold vx;rw[zAj],D,by rw[zAj];exact rd.2,rd.1,λa H1 E' _ s1 e1 hE=>hc a H1 E' s1 e1 hE⟩
def zDX {H:Hp} {Q:VK} {E:XK} {x b tl:Addr} {ds:List Deed} {d:Deed} (D:zAY H t x b tl ds) (w:DWd d) (ok:∀y∈ds++[d],y.Ok) (hz:ds.length<=700)
  (hc:∀(H1:Hp) (E':XK),zAi H H1->zAs H1 t.wAj b tl ds->(∀C dd H',RefC K t H' (λz H2=>Q (.str (zH8 z)) H2) C dd->E' (.ref C) dd H')->zNc K t b d H1 (λ_ H'=>zBk tl H1 H'/\zAs H' t.wAj b tl (ds++[d])/\∀H2,zAi H' H2->Q (.str (zHQ (ds.length+1))) H2) E'):sp_Desk_answer K t [.ref x,.str d.row] H Q E:=by
 obtain⟨dx,hx,hB⟩:=id D;exact zGi D (zH9 w) λa H1 E' s1 e1 hE=>.deed d e1 λH2 s2=>⟨b,tl,a,ds,d,rfl,hB.same (s1.trans s2),by omega,s2 _ _ e1,ok,hc H2 E' (s1.trans s2) (hB.same (s1.trans s2)) hE⟩
def zDV {ds:List Deed} {d:Deed} {ns:List Str} {ws:List W5} (h:HstOk ds ns ws) (ok:d.Ok):∀y∈ds++[d],y.Ok:=λy hy=>by
 rcases wIP hy with z | z
 ·exact (h.ok y z).1
 rw[wIM z];exact ok
def exR (T:Txt P w K mg t):ExR K t t.wAi 0/\ExR K t t.wAe 1/\ExR K t t.wAa 2/\ExR K t t.wAg 3/\ExR K t t.wAd 4/\ExR K t t.wAb 5/\ExR K t t.wAh 6/\ExR K t t.wAf 7/\ExR K t t.wAk 8/\ExR K t t.wAc 9:=
 ⟨⟨T.wGo,T.wCU,T.wDv,T.wCz,T.wB3,T.wDn,T.wCA,T.wCB,T.wDw,T.wDW,T.wEu,T.wCh⟩,⟨T.wFv,T.wB4,T.wCC,T.wBC,T.wBd,T.wCi,T.wBD,T.wBE,T.wCD,T.wCV,T.wDx,T.wBv⟩,⟨T.wEy,T.wBw,T.wB5,T.wBe,T.wAR,T.wBF,T.wBf,T.wBg,T.wB6,T.wCj,T.wCX,T.wA9⟩,⟨T.wF5,T.wCG,T.wDp,T.wCl,T.wBJ,T.wCZ,T.wCm,T.wCn,T.wDq,T.wDC,T.wEc,T.wB8⟩,⟨T.wFA,T.wB9,T.wCH,T.wBK,T.wBi,T.wCo,T.wBL,T.wBM,T.wCI,T.wC0,T.wDD,T.wBy⟩,⟨T.wFy,T.wB7,T.wCE,T.wBG,T.wBh,T.wCk,T.wBH,T.wBI,T.wCF,T.wCY,T.wDB,T.wBx⟩,⟨T.wGq,T.wC1,T.wDE,T.wCJ,T.wCa,T.wDr,T.wCK,T.wCL,T.wDF,T.wDY,T.wEz,T.wCp⟩,⟨T.wDZ,T.wDt,T.wD0,T.wC2,T.wCs,T.wDG,T.wC3,T.wC4,T.wD1,T.wEd,T.wE1,T.wCN⟩,⟨T.wHg,T.wDX,T.wEv,T.wDy,T.wCW,T.wEb,T.wDz,T.wDA,T.wEw,T.wEY,T.wFP,T.wDo⟩,⟨T.wE0,T.wBN,T.wCq,T.wBz,T.wBa,T.wCb,T.wBA,T.wBB,T.wCr,T.wCM,T.wDs,T.wBj⟩⟩
def zOz {H:Hp} {Q:Str->Hp->Prop} {C:Addr} {k:Nat} (W:ExR K t C k) (hk:k < 10) (h7:k≠7) (q:∀H',zAi H H'->Q (zCi k) H'):RefC K t H Q C none:=.word k W hk h7 rfl q
def zBM (T:Txt P w K mg t) {ds ds':List Deed} {ns:List Str} {ws:List W5} (h:HstOk ds ns ws) (hz:ds.length<=700) {n due:Str} (w:Wd n.cps.toList) (sn:zBL n)
  (e1:zGV ds n=none->due=zHQ (ds.length+1)/\ds'=ds++[.house n]) (e2:∀k,zGV ds n=some k->due=zH8 (zCi k)/\ds'=ds):zHj K t ds (Deed.house n).row due ds':=by
 intro H Q E x b tl D q;refine zDX D w (zDV h sn) hz λH1 E' s1 B1 hE=>⟨b,tl,ds,n,rfl,B1,by omega,sn,λH' e k B=>⟨k,B,λH2 s2=>?_⟩,λH' k e s=>hE _ _ _ ?_⟩
 ·obtain⟨rfl,rfl⟩:=e1 e;have kk:=(zBk.of s1).trans (k.trans (zBk.of s2));exact q H2 kk (D.next kk (B.same s2))
 obtain⟨rfl,rfl⟩:=e2 k e;obtain⟨x0,x1,_,_,_,_,_,_,x8,_⟩:=exR T;have fin:∀H2,zAi H' H2->Q (.str (zH8 (zCi k))) H2:=λH2 s2=>q H2 (zBk.of (s1.trans (s.trans s2))) (D.same (s1.trans (s.trans s2)));unfold zGV at e
 split at e
 ·split at e
  ·cases e;exact zOz x1 ⋯ ⋯ fin
  split at e
  ·cases e;exact zOz x8 ⋯ ⋯ fin
  cases e
 cases e;exact zOz x0 ⋯ ⋯ fin
def zIJ (T:Txt P w K mg t) {ds:List Deed} {ns:List Str} {ws:List W5} (h:HstOk ds ns ws) (hz:ds.length<=100) {x:Str} {y a:Int} (hx:x∈ns) (hy:IsD y) (ha:1<=a/\a<=10 ^ 12):zHj K t ds (Deed.loss x y a).row (zHQ (ds.length+1)) (ds++[.loss x y a]):=by
 intro H Q E p b tl D q;obtain⟨o1,o2⟩:=zFM h.nok hx hy ha;have e:zMr ds x y a=none:=by unfold zMr;rw[wHF (by rw[h.n];exact hx),wHF (show 0<=y/\y<=5000 from hy),wHF ha,wHD (by have:=h.ll;omega)]
 refine zDX D o2 (zDV h o1) ∅ λH1 E' s1 B1 hE=>⟨b,tl,ds,x,y,a,rfl,B1,by omega,(h.nok _ hx).sane,λH' _ k B=>⟨k,B,λH2 s2=>?_⟩,λH' k e' _=>by rw[e] at e';cases e'⟩;have kk:=(zBk.of s1).trans (k.trans (zBk.of s2));exact q H2 kk (D.next kk (B.same s2))
def nmS (ns:List Str) (L:List Int):List Str:=L.map λj=>ns.getD j.toNat Str.empty
def zJ7 (T:Txt P w K mg t) {ds:List Deed} {ns:List Str} {ws:List W5} (h:HstOk ds ns ws) (hz:ds.length<=24) {g u:Str} {p f l:Int} (w:DWd (.pact g u p f l)) (ok:(Deed.pact g u p f l).Ok) (hg:g∉ns):zHj K t ds (Deed.pact g u p f l).row (zH8 (zCi 2)) ds:=by
 intro H Q E x b tl D q;have tw:zId ns g u p f l=some 2:=by unfold zId;rw[wHD hg]
 refine zDX D w (zDV h ok) ∅ λH1 E' s1 B1 hE=>⟨b,tl,ds,g,u,p,f,l,rfl,B1,by omega,by rw[h.n];exact h.n15,by rw[h.p,wHt];have:=h.lw;omega,ok.1,ok.2.1,?_⟩;rw[h.n,h.p];have sw:=zMH (ps:=ws.map (pOf ns)) tw;refine⟨λz=>(by rw[tw] at z;cases z),λH' k e s=>?_,λ_ _ _ e _ _ _=>(by rw[sw] at e;cases e),λ_ e _ _ _=>(by rw[sw] at e;cases e),λ_ e _ _ _ _=>(by rw[sw] at e;cases e)⟩;rw[sw] at e;cases e;obtain⟨_,_,x2,_⟩:=exR T;exact hE _ _ _ (zOz x2 ⋯ ⋯ λH2 s2=>q H2 (zBk.of (s1.trans (s.trans s2))) (D.same (s1.trans (s.trans s2))))
def zDk (T:Txt P w K mg t) {ds ds':List Deed} {ns:List Str} {ws:List W5} (h:HstOk ds ns ws) (hz:ds.length<=24) {w:W5} (o:OkN ns.length w) {due:Str}
  (e1:OvD ws w->due=zH8 (zCi 6)/\ds'=ds) (e2:∀d,¬OvD ws w->ShD ns.length ws w d->due=zH8 (zHu d (nmS ns (zEg ns.length ws w d)))/\ds'=ds)
  (e3:¬OvD ws w->(∀d,w.2.2.2.1<=d->d<=w.2.2.2.2->zEg ns.length ws w d=[])->due=zHQ (ds.length+1)/\ds'=ds++[pD (pOf ns w)]):zHj K t ds (pD (pOf ns w)).row due ds':=by
 intro H Q E x b tl D q;obtain⟨o1,o2⟩:=zIp h.nok o;have tw:=tN h.nd o;have ov:=zPp h.nd h.g o;refine zDX D o2 (zDV h o1) ∅ λH1 E' s1 B1 hE=>⟨b,tl,ds,_,_,_,_,_,rfl,B1,by omega,by rw[h.n];exact h.n15,by rw[h.p,wHt];have:=h.lw;omega,o1.1,o1.2.1,?_⟩;rw[h.n,h.p];have sw:∀{k},zJU ns (ws.map (pOf ns)) (pOf ns w).1 (pOf ns w).2.1 w.2.2.1 w.2.2.2.1 w.2.2.2.2=k->(k=some 6/\OvD ws w)∨(k=none/\¬OvD ws w):=λ{k} e=>by
  by_cases c:zJq ns (ws.map (pOf ns)) (pOf ns w)
  ·have e':=zMI tw c;exact .inl ⟨e.symm.trans e',ov.mp c⟩
  have e':=zIf tw c;exact .inr ⟨e.symm.trans e',λz=>c (ov.mpr z)⟩
 refine⟨λ_=>zMh h.nd h.g o,λH' k e s=>?_,λd0 H' dx e fs s hD=>?_,λH' e bH c8 s=>?_,λH' e bH c8 k B=>⟨k,B,λH2 s2=>?_⟩⟩
 ·rcases sw e with ⟨z,c⟩ | ⟨z,_⟩
  ·cases z;obtain⟨rfl,rfl⟩:=e1 c;obtain⟨_,_,_,_,_,_,x6,_⟩:=exR T;exact hE _ _ _ (zOz x6 ⋯ ⋯ λH2 s2=>q H2 (zBk.of (s1.trans (s.trans s2))) (D.same (s1.trans (s.trans s2))))
  cases z
 ·have c:=((sw e).resolve_left λz=>by cases z.1).2;have sd:=zOp h.nd h.g o fs;obtain⟨rfl,rfl⟩:=e2 d0 c sd;obtain⟨_,_,_,_,_,_,_,x7,_⟩:=exR T;obtain⟨m,m0,m1,m2⟩:=hD;have dR:(zEg ns.length ws w d0).length<=ns.length:=zCI _ _;have d00:=sd.1;have d01:=sd.2.1;have sp:=o.sp;have n15:=h.n15;refine hE _ _ _ (.shut dx m d0 (nmS ns (zEg ns.length ws w d0)) x7 rfl rfl m1 ?_ (wIi (show _<=5000 by omega) ⋯) (by unfold nmS;rw[wHt];omega) (λz hz=>?_) λH2 s2=>q H2 (zBk.of (s1.trans (s.trans s2))) (D.same (s1.trans (s.trans s2))))
  ·rw[m2];unfold zJH nmS;have e':=zIe h.nd (zB8 h.g.ok o) d0;rw[List.map_map];show some (HO.lst ((zAZ ns (ws.map (pOf ns)++[pOf ns w]) d0).map _))=_;rw[e']
   rfl
  obtain⟨j,_,rfl⟩:=List.mem_map.mp hz;rw[wHw];cases e5:ns[j.toNat]? with
  | none=>exact (by decide:(0:Nat)<=1000)
  | some n=>exact wHI (h.nok n (wIe e5)).2.2 ⋯
 ·rw[wHt] at c8;have:=h.lw;omega
 have c:=((sw e).resolve_left λz=>by cases z.1).2;obtain⟨rfl,rfl⟩:=e3 c (zMg h.nd h.g o bH);have kk:=(zBk.of s1).trans (k.trans (zBk.of s2));exact q H2 kk (D.next kk (B.same s2))
def zII (T:Txt P w K mg t):zHj K t [] (Str.ofString "back") (zH8 (zCi 9)) []:=by intro H Q E x b tl D q;obtain⟨dx,hx,hB⟩:=id D;obtain⟨_,_,_,_,_,_,_,_,_,x9⟩:=exR T;exact zGi D (zKb (.inl rfl)) λa H1 E' s1 e1 hE=>.back e1 λH2 s2=>⟨b,tl,rfl,.inl ⟨hB.same (s1.trans s2),hE _ _ _ (zOz x9 ⋯ ⋯ λH3 s3=>q H3 (zBk.of (s1.trans (s2.trans s3))) (D.same (s1.trans (s2.trans s3))))⟩⟩
def zIK {ds:List Deed} {d:Deed} (ok:d.Ok) (hz:ds.length<=700):zHj K t (ds++[d]) (Str.ofString "back") (Str.ofString "back "++d.row) ds:=by intro H Q E x b tl D q;obtain⟨dx,hx,hB⟩:=id D;refine zGi D (zKb (.inl rfl)) λa H1 E' s1 e1 hE=>.back e1 λH2 s2=>⟨b,tl,rfl,.inr ⟨ds,d,hB.same (s1.trans s2),by rw[wHy];show _+1<=900;omega,ok,λH' k B=>⟨_,rfl,wHI (zH6 ok) ⋯,?_⟩⟩⟩;have kk:=(zBk.of (s1.trans s2)).trans k;exact q H' kk (D.next kk B)
def zHp {ds:List Deed} {ns:List Str} {ws:List W5} (h:HstOk ds ns ws) (hz:ds.length<=700):zHj K t ds (Str.ofString "deeds") (zEC ds) ds:=by intro H Q E x b tl D q;obtain⟨dx,hx,hB⟩:=id D;exact zGi D (zKb (.inr rfl)) λa H1 E' s1 e1 hE=>.deeds e1 λH2 s2=>⟨b,tl,ds,rfl,hB.same (s1.trans s2),by omega,λd hd=>(h.ok d hd).1,λH3 s3=>q H3 (zBk.of (s1.trans (s2.trans s3))) (D.same (s1.trans (s2.trans s3)))⟩
def zCK (ds:List Deed):List Str:=(ds.filter Deed.isL).map Deed.row
structure StA (H:Hp) (sl nl pl ll rl:Addr) (ds:List Deed) (ns:List Str) (ws:List W5):Prop where
 s:H sl=some (.lst [.ref nl,.ref pl,.ref ll,.ref rl])
 n:H nl=some (.lst (ns.map V.str))
 p:zAf H pl (ws.map W5.vs)
 l:H ll=some (.lst ((zCK ds).map V.str))
 r:H rl=some (.lst ((ds.map Deed.row).map V.str))
def KL (nl pl ll rl:Addr) (H H':Hp):Prop:=∀a o,a≠nl->a≠pl->a≠ll->a≠rl->H a=some o->H' a=some o
def KL.of {nl pl ll rl:Addr} {H H':Hp} (s:zAi H H'):KL nl pl ll rl H H':=λa o _ _ _ _ e=>s a o e
def KL.trans {nl pl ll rl:Addr} {H H1 H2:Hp} (h:KL nl pl ll rl H H1) (k:KL nl pl ll rl H1 H2):KL nl pl ll rl H H2:=λa o n1 n2 n3 n4 e=>k a o n1 n2 n3 n4 (h a o n1 n2 n3 n4 e)
def StA.same {H H':Hp} {sl nl pl ll rl:Addr} {ds:List Deed} {ns:List Str} {ws:List W5} (h:StA H sl nl pl ll rl ds ns ws) (s:zAi H H'):StA H' sl nl pl ll rl ds ns ws:=⟨s _ _ h.s,s _ _ h.n,h.p.same s,s _ _ h.l,s _ _ h.r⟩
structure Df (sl nl pl ll rl:Addr):Prop where
 a:nl≠pl
 b:nl≠ll
 c:nl≠rl
 d:pl≠ll
 e:pl≠rl
 f:ll≠rl
 g:sl≠nl/\sl≠pl/\sl≠ll/\sl≠rl
def zNA {a b:Str}:Str.join (Str.ofString " ") [a,b]=a++Str.ofString " "++b:=by
 obtain⟨x,rfl⟩:∃l,a=tx l:=⟨_,(zAj a).symm⟩;obtain⟨y,rfl⟩:∃l,b=tx l:=⟨_,(zAj b).symm⟩;rw[b32,show ([tx x,tx y]:List Str)=[x,y].map tx from rfl,zBB,zAL,zAL]
 rfl
def zCs (n:Str):(Deed.house n).row=Str.ofString "house "++n:=by show Str.join (Str.ofString " ") [Str.ofString "house",n]=_;rw[zNA,show Str.ofString "house"++Str.ofString " "=Str.ofString "house " by nofun]
theorem zFZ (n:Nat):zHQ n=Str.ofString "done "++Str.ofString (toString ((n:Nat):Int)):=by unfold zHQ;rw[show Str.empty++Str.ofString "done "=Str.ofString "done " by nofun]
theorem StA.free {H H2:Hp} {sl nl pl ll rl a:Addr} {ds:List Deed} {ns:List Str} {ws:List W5} (S:StA H2 sl nl pl ll rl ds ns ws) (k:KL nl pl ll rl H H2) (h:H2 a=none):H a=none:=by
 cases e:H a with
 | none=>rfl
 | some o=>
  by_cases c1:a=nl
  ·rw[c1,S.n] at h;cases h
  by_cases c2:a=pl
  ·obtain⟨q,hq,_⟩:=S.p;rw[c2,hq] at h;cases h
  by_cases c3:a=ll
  ·rw[c3,S.l] at h;cases h
  by_cases c4:a=rl
  ·rw[c4,S.r] at h;cases h
  rw[k a o c1 c2 c3 c4 e] at h;cases h
def zDa (ds:List Deed) (d:Deed):zCK (ds++[d])=zCK ds++if d.isL then [d.row] else []:=by
 unfold zCK;rw[List.filter_append,wHC]
 congr 1
 cases d<;>rfl
def StA.house {H:Hp} {sl nl pl ll rl:Addr} {ds:List Deed} {ns:List Str} {ws:List W5} (S:StA H sl nl pl ll rl ds ns ws) (D:Df sl nl pl ll rl) (n:Str):StA (upd (upd H nl (.lst (ns.map V.str++[V.str n]))) rl (.lst ((ds.map Deed.row).map V.str++[V.str (Str.ofString "house "++n)]))) sl nl pl ll rl (ds++[.house n]) (ns++[n]) ws/\KL nl pl ll rl H (upd (upd H nl (.lst (ns.map V.str++[V.str n]))) rl (.lst ((ds.map Deed.row).map V.str++[V.str (Str.ofString "house "++n)]))):=by
 refine⟨⟨?_,?_,?_,?_,?_⟩,λa o n1 n2 n3 n4 e=>by rw[zJ n4,zJ n1];exact e⟩
 ·rw[zJ D.g.2.2.2,zJ D.g.1];exact S.s
 ·rw[zJ D.c,zB,wHC];rfl
 ·exact (S.p.keep zBk.upd D.a.symm ⟨_,S.n⟩).keep zBk.upd D.e ⟨_,by rw[zJ D.c.symm];exact S.r⟩
 ·rw[zJ D.f,zJ D.b.symm,zDa];show _=some (HO.lst ((zCK ds++[]).map V.str));rw[wHQ];exact S.l
 rw[zB,wHC,wHC,← zCs];rfl
def zQa:List Str:=[Str.ofString "A",Str.ofString "abcdefghi",Str.ofString "a1",Str.ofString "b-"]
instance (n:Str):Decidable (zGl n):=inferInstanceAs (Decidable (_/\_/\_))
instance (n:Str):Decidable (zBL n):=inferInstanceAs (Decidable (_/\_))
instance (l:List Nat):Decidable (Wd l):=inferInstanceAs (Decidable (_/\_/\_))
def zPP {n:Str} (h:n∈zQa):¬zGl n/\Wd n.cps.toList/\zBL n:=by
 have all:zQa.all (λn=>decide (¬zGl n) && (decide (Wd n.cps.toList) && decide (zBL n)))=true:=by nofun
 have:=List.all_eq_true.mp all n h;rw[wHR,wHR,decide_eq_true_eq,decide_eq_true_eq,decide_eq_true_eq] at this;exact this
def zPQ (z:Int):∃n,atI [V.str "A",V.str "abcdefghi",V.str "a1",V.str "b-"] (z%4)=some (.str n)/\n∈zQa:=by
 have h:=zBv (x:=z) (m:=4) (n:=4) ⋯ ⋯;have c:z%4=0∨z%4=1∨z%4=2∨z%4=3:=by omega
 unfold zQa;rcases c with c | c | c | c<;>rw[c]
 ·exact⟨_,rfl,by simp⟩
 ·exact⟨_,rfl,by simp⟩
 ·exact⟨_,rfl,by simp⟩
 exact⟨_,rfl,by simp⟩
def zC1 (K:W.Frag) (t:Adr) (sl:Addr) (H:Hp) (Q:VK):Prop:=∃(nl pl ll rl:Addr) (ds:List Deed) (ns:List Str) (ws:List W5),StA H sl nl pl ll rl ds ns ws/\Df sl nl pl ll rl/\Hst ds ns ws/\ds.length<=24/\
 ∀(q:Addr) (H':Hp) (z due:Str) (ds':List Deed) (aP:List Str) (ws':List W5),H q=none->KL nl pl ll rl H H'->StA H' sl nl pl ll rl ds' aP ws'->Hst ds' aP ws'->ds'.length<=ds.length+1->zHj K t ds z due ds'->H' q=some (.lst [.str z,.str due])->Q (.ref q) H'
inductive sp_house (K:W.Frag) (t:Adr) (vs:List V) (H:Hp) (Q:VK) (E:XK):Prop
 | mk (pick:Int) (sl:Addr):vs=[.int pick,.ref sl]->(0<=pick/\pick < 10 ^ 13/\zC1 K t sl H Q)->sp_house K t vs H Q E
def zMa (T:Txt P w K mg t):FnOk P w K mg base CX0 41 t.wEm t.wEn ["_law_pick","_law_state"] (sp_house K t):=by
 refine T.wFV.ok zCS ⟨⟩ ();obtain⟨pick,sl,rfl,p0,p1,nl,pl,ll,rl,ds,ns,ws,S,D,aF,hz,q⟩:=h;refine⟨_,(zD (zAJ 2 zCS.nd (cal (zLY T) hr T.wGU T.wFU T.wGT (zY (zP zAl (zP zAK (pv 0) zF) zF) zF zE zV zI)))
  (zD (zAJ 3 zCS.nd (zA8 K (pv 2) (zP zAl (zP zAK (pv 0) zF) zF)))
  (zD (zAm (zS zCb (zP zAl (zP zAK (pv 0) zF) zF) zF (zAc _)) (zD (zAJ 3 zCS.nd (zA8 K (zAd (by with_reducible exact (zG zT (zHE zE) zI))) (zP zAl (zP zAK (pv 0) zF) zF)))
  (zH (zX (zAd (zG (zP zW zT (pv 3)) (zG zT zE zI) zV))))) zR)
  (zD (zAJ 4 zCS.nd (zDs (zGA K) (pv 3) (zA8 K (pv 1) zF) (by with_unfolding_all rfl)))
  (zD (zAm (PW.pt (zLQ (zAM (pv 4)) (zIh (zS zCb (zU (zAo K) rfl T.wAp wH8 (zG (zA8 K (pv 1) zF) zE zL)) zF (zAc _))))) (zH (zX (zAd (zY (zP zW zT (pv 3)) (zA8 K (zAd (zFL zE)) (zAt zHb rfl T.wF6 PyProof.Rows.boot_int (zG (pv 4) zE zA))) zE zV zL)))) zR)
  (zD (zAe (zAQ K wHW wH5 wIa zAr (zA8 K (pv 1) zF) (zG (pv 3) zE zA)))
  (zD (zAe (zAQ K wHW wH5 wIa zAr (zA8 K (pv 1) zF) (zG (zP zW zT (pv 3)) zE zV)))
  (zH (zX (zAd (zY (zP zW zT (pv 3)) (zP zW zT (zAt zAu rfl T.wAx PyProof.Rows.boot_str (zG (zU (zAo K) rfl T.wAp wH8 (zG (zA8 K (pv 1) zF) zE zL)) zE zZ))) zE zV zV))))))))))),?_⟩
 have ho:=aF.all;have b:=λ(z m:Int) (n:Nat) (h1:0 < m) (h2:m<=n)=>zBv (x:=z) (m:=m) (n:=n) h1 h2;refine⟨_,rfl,_,_,rfl,rfl,⟨by decide,by decide⟩,_,_,rfl,rfl,by decide,pick / 16%64,15,rfl,(b (pick / 16) 64 64 ⋯ ⋯).1,wHA _,λnm H1 eI hnm s1 e1 ln nok nnd=>?_⟩;have Sn:=SqL.of (K:=K) e1;have i1:=b (pick / 1024) 15 15 ⋯ ⋯;have cN:atI (eI.map V.str) (pick / 1024%15)=some (.str (eI.getD (pick / 1024%15).toNat Str.empty)):=zBE i1.1 (by rw[wHB,wHw,wHv (show (pick / 1024%15).toNat < eI.length by omega)];rfl);have mem:eI.getD (pick / 1024%15).toNat Str.empty∈eI:=by rw[wHw,wHv (show (pick / 1024%15).toNat < eI.length by omega)];exact wHZ _
 have nk:=nok _ mem;refine⟨_,rfl,_,rfl,_,_,rfl,rfl,⟨by decide,by decide⟩,_,_,rfl,rfl,by decide,nm,_,_,_,rfl,rfl,Sn,cN,?_⟩;generalize eI.getD (pick / 1024%15).toNat Str.empty=n at nk;clear cN mem;refine⟨_,rfl,_,_,rfl,rfl,⟨by decide,by decide⟩,_,_,rfl,rfl,by decide,rfl,_,rfl,?_⟩;refine zBD (λc=>?_) (λc=>?_)
 ·refine⟨szl,λl0 h0=>?_⟩;obtain⟨n',e',m'⟩:=zPQ (pick / 1024);obtain⟨k1,k2,k3⟩:=zPP m';refine⟨_,rfl,_,_,rfl,rfl,⟨by decide,by decide⟩,_,_,rfl,rfl,by decide,l0,_,_,.str n',rfl,rfl,SqL.of zB,e',?_⟩;have s2:=s1.trans (zC h0 (.lst [V.str "A",V.str "abcdefghi",V.str "a1",V.str "b-"]));have ew:zGV ds n'=some 0:=by unfold zGV;rw[wHD k1]
  have h6:(Str.ofString "house ").length=6:=by nofun
  have k4:=k3.2;refine⟨_,rfl,_,_,rfl,rfl,by rw[h6];exact sz _ ∅,zAp,λr hr=>?_⟩;have s3:=s2.trans (zC hr (.lst [V.str (Str.ofString "house "++n'),V.str "refused: bad name"]));refine q r _ _ _ ds ns ws (s2.free hr) (KL.of s3) (S.same s3) aF ∅ ?_ zB;rw[← zCs];exact zBM T ho ∅ k2 k3 (λz=>by rw[ew] at z;cases z) λk z=>by rw[ew] at z;cases z;exact⟨by nofun,rfl⟩
 refine⟨_,rfl,_,rfl,sl,_,0,_,rfl,rfl,SqL.of (s1 _ _ S.s),rfl,nl,_,rfl,.inl (SqL.of (s1 _ _ S.n)),rfl,zBy _,_,rfl,?_⟩;have h6:(Str.ofString "house ").length=6:=by nofun
 have n8:=nk.2.2;rw[wHD (by decide:¬(false=true)),zDU];by_cases c1:n∈ns
 ·rw[wHU c1];have ew:zGV ds n=some 1:=by unfold zGV;rw[wHF nk,ho.n,wHF c1]
  refine⟨_,rfl,zDh (zDh ?_)⟩;refine⟨_,rfl,_,_,rfl,rfl,by rw[h6];exact sz _ ∅,zAp,λl0 h0=>?_⟩;have s2:=s1.trans (zC h0 (.lst [V.str "refused: full",V.str "refused: known house"]));refine⟨_,rfl,.inr ⟨_,rfl,l0,_,1,_,rfl,rfl,SqL.of zB,rfl,zAp,λr hr=>?_⟩⟩;have s3:=s2.trans (zC hr (.lst [V.str (Str.ofString "house "++n),V.str "refused: known house"]));refine q r _ _ _ ds ns ws (s2.free hr) (KL.of s3) (S.same s3) aF ∅ ?_ zB;rw[← zCs];exact zBM T ho ∅ (zHK nk) nk.sane (λz=>by rw[ew] at z;cases z) λk z=>by rw[ew] at z;cases z;exact⟨by nofun,rfl⟩
 rw[wHX c1];refine⟨_,rfl,zBC ?_⟩;refine⟨_,rfl,sl,_,0,_,rfl,rfl,SqL.of (s1 _ _ S.s),rfl,nl,_,rfl,.inl (SqL.of (s1 _ _ S.n)),rfl,_,rfl,?_⟩;rw[wHt];have n15:=ho.n15;by_cases c2:ns.length=15
 ·have ew:zGV ds n=some 8:=by unfold zGV;rw[wHF nk,ho.n,wHD c1,wHF ∅]
  refine zGj (by rw[c2];rfl) ?_;refine⟨_,rfl,_,_,rfl,rfl,by rw[h6];exact sz _ ∅,zAp,λl0 h0=>?_⟩;have s2:=s1.trans (zC h0 (.lst [V.str "refused: full",V.str "refused: known house"]));refine⟨_,rfl,.inr ⟨_,rfl,l0,_,0,_,rfl,rfl,SqL.of zB,rfl,zAp,λr hr=>?_⟩⟩;have s3:=s2.trans (zC hr (.lst [V.str (Str.ofString "house "++n),V.str "refused: full"]));refine q r _ _ _ ds ns ws (s2.free hr) (KL.of s3) (S.same s3) aF ∅ ?_ zB;rw[← zCs];exact zBM T ho ∅ (zHK nk) nk.sane (λz=>by rw[ew] at z;cases z) λk z=>by rw[ew] at z;cases z;exact⟨by nofun,rfl⟩
 refine zFU (λz=>c2 (by have:=V.int.inj z;omega)) ?_;have S1:=S.same s1;have hr0:=S1.r;have hn0:=S1.n;refine⟨_,rfl,sl,_,0,_,rfl,rfl,SqL.of S1.s,rfl,.inl ⟨rfl,_,SqL.of hn0⟩,_,rfl,nl,_,_,rfl,rfl,hn0,by rw[wHt];exact zAa ∅,?_⟩;have e3:∀o,upd H1 nl o sl=some (.lst [.ref nl,.ref pl,.ref ll,.ref rl]):=λo=>by rw[zJ D.g.1];exact S1.s
 have e4:∀o,upd H1 nl o rl=some (.lst ((ds.map Deed.row).map V.str)):=λo=>by rw[zJ D.c.symm];exact S1.r
 refine⟨_,rfl,sl,_,3,_,rfl,rfl,SqL.of (e3 _),rfl,.inl ⟨rfl,_,SqL.of (e4 _)⟩,_,rfl,_,_,rfl,rfl,by rw[h6];exact sz _ ∅,rl,_,_,rfl,rfl,e4 _,by rw[wHt,wHt];exact zAa ∅,?_⟩;obtain⟨S2,k2⟩:=S1.house D n;generalize upd (upd H1 nl (.lst (ns.map V.str++[V.str n]))) rl (.lst ((ds.map Deed.row).map V.str++[V.str (Str.ofString "house "++n)]))=H2 at S2 k2 ⊢;have dB:(((ds.length+1:Nat):Int)).natAbs < 10 ^ 60:=wIi (show _<=801 by omega) ⋯;have l1:=zA5 dB;have h5:(Str.ofString "done ").length=5:=by nofun
 refine⟨_,rfl,_,_,rfl,rfl,by rw[h6];exact sz _ ∅,_,rfl,sl,_,3,_,rfl,rfl,SqL.of S2.s,rfl,rl,_,rfl,.inl (SqL.of S2.r),?_⟩;rw[wHt,wHt,wHy,show ds.length+[Deed.house n].length=ds.length+1 from rfl];refine⟨_,rfl,zFr dB,_,_,rfl,rfl,by rw[h5];exact sz _ ∅,zAp,λr hr=>?_⟩;have s3:=zC hr (.lst [V.str (Str.ofString "house "++n),V.str (Str.ofString "done "++Str.ofString (toString ((ds.length+1:Nat):Int)))]);refine q r _ _ _ (ds++[.house n]) (ns++[n]) ws ?_ ((KL.of s1).trans (k2.trans (KL.of s3))) (S2.same s3) (.house aF nk c1 ∅) (by rw[wHy];exact wHA _) ?_ zB
 ·exact S2.free ((KL.of s1).trans k2) hr
 rw[← zCs,← zFZ];have ew:zGV ds n=none:=by unfold zGV;rw[wHF nk,ho.n,wHD c1,wHD ∅]
 exact zBM T ho ∅ (zHK nk) nk.sane (λ_=>⟨rfl,rfl⟩) λk z=>by rw[ew] at z;cases z
def zLJ (g u:Str) (p f l:Int):(Deed.pact g u p f l).row=Str.ofString "pact "++g++Str.ofString " "++u++Str.ofString " "++Str.ofString (toString p)++Str.ofString " "++Str.ofString (toString f)++Str.ofString " "++Str.ofString (toString l):=by show Str.join (Str.ofString " ") [Str.ofString "pact",g,u,Str.ofString (toString p),Str.ofString (toString f),Str.ofString (toString l)]=_;generalize Str.ofString (toString p)=x;generalize Str.ofString (toString f)=y;generalize Str.ofString (toString l)=z;rw[show Str.ofString "pact "=Str.ofString "pact"++Str.ofString " " by nofun];generalize Str.ofString "pact"=v;obtain⟨g,rfl⟩:∃l,g=tx l:=⟨_,(zAj g).symm⟩;obtain⟨u,rfl⟩:∃l,u=tx l:=⟨_,(zAj u).symm⟩;obtain⟨v,rfl⟩:∃l,v=tx l:=⟨_,(zAj v).symm⟩;obtain⟨x,rfl⟩:∃l,x=tx l:=⟨_,(zAj x).symm⟩;obtain⟨y,rfl⟩:∃l,y=tx l:=⟨_,(zAj y).symm⟩;obtain⟨z,rfl⟩:∃l,z=tx l:=⟨_,(zAj z).symm⟩;rw[b32,show ([tx v,tx g,tx u,tx x,tx y,tx z]:List Str)=[v,g,u,x,y,z].map tx from rfl,zBB];simp only[zAL,jn,wHY]
theorem zGN (x y:Str) (r:List Str):Str.join (Str.ofString " ") (x::y::r)=x++(Str.ofString " "++Str.join (Str.ofString " ") (y::r)):=by
 obtain⟨x,rfl⟩:∃l,x=tx l:=⟨_,(zAj x).symm⟩;have e:(y::r)=((y::r).map λx=>x.cps.toList).map tx:=by rw[List.map_map];exact (List.map_id'' (λx=>zAj x) _).symm
 rw[e,wH6,wH6,b32,show tx x::tx y.cps.toList::List.map tx (List.map (λx=>x.cps.toList) r)=(x::y.cps.toList::List.map (λx=>x.cps.toList) r).map tx from rfl,zBB,show tx y.cps.toList::List.map tx (List.map (λx=>x.cps.toList) r)=(y.cps.toList::List.map (λx=>x.cps.toList) r).map tx from rfl,zBB,zAL,zAL];show tx (x++[32]++jn [32] _)=_;rw[wHY]
theorem zJG (d:Int) (L:List Str):Str.join (Str.ofString " ") (Str.ofString "refused: shut in"::Str.ofString (toString d)::L)=zH8 (zHu d L):=by
 rw[zGN];unfold zH8 zHu dnT;show _=Str.ofString "refused: "++(Str.ofString "shut in "++Str.join (Str.ofString " ") (Str.ofString (toString d)::L));generalize Str.join (Str.ofString " ") (Str.ofString (toString d)::L)=z;obtain⟨z,rfl⟩:∃l,z=tx l:=⟨_,(zAj z).symm⟩;rw[ofS "refused: shut in",ofS " ",ofS "refused: ",ofS "shut in ",zAL,zAL,zAL,zAL]
 rfl
def StA.pact {H:Hp} {sl nl pl ll rl nw:Addr} {ds:List Deed} {ns:List Str} {ws:List W5} {w:W5} {qs:List Addr} (S:StA H sl nl pl ll rl ds ns ws) (D:Df sl nl pl ll rl) (hq:H pl=some (.lst (qs.map V.ref))) (lq:qs.length=(ws.map W5.vs).length) (lC:∀(i:Nat) (a:Addr) (ys:List V),qs[i]?=some a->(ws.map W5.vs)[i]?=some ys->H a=some (.tup ys)) (hn:H nw=some (.tup w.vs)):StA (upd (upd H pl (.lst (qs.map V.ref++[V.ref nw]))) rl (.lst ((ds.map Deed.row).map V.str++[V.str (pD (pOf ns w)).row]))) sl nl pl ll rl (ds++[pD (pOf ns w)]) ns (ws++[w])/\KL nl pl ll rl H (upd (upd H pl (.lst (qs.map V.ref++[V.ref nw]))) rl (.lst ((ds.map Deed.row).map V.str++[V.str (pD (pOf ns w)).row]))):=by
 refine⟨⟨?_,?_,?_,?_,?_⟩,λa o n1 n2 n3 n4 e=>by rw[zJ n4,zJ n2];exact e⟩
 ·rw[zJ D.g.2.2.2,zJ D.g.2.1];exact S.s
 ·rw[zJ D.c,zJ D.a];exact S.n
 ·rw[wHC];exact (zAf.snoc hq lq lC hn).keep zBk.upd D.e ⟨_,by rw[zJ D.e.symm];exact S.r⟩
 ·rw[zJ D.f,zJ D.d.symm,zDa];show _=some (HO.lst ((zCK ds++[]).map V.str));rw[wHQ];exact S.l
 rw[zB,wHC,wHC];rfl
inductive sp_bond (K:W.Frag) (t:Adr) (vs:List V) (H:Hp) (Q:VK) (E:XK):Prop
 | mk (fl sl:Addr) (fv:List Int):vs=[.ref fl,.ref sl]->(SqL K H fl (fv.map V.int)/\fv.length=5/\zC1 K t sl H Q)->sp_bond K t vs H Q E
def zNS (T:Txt P w K mg t):FnOk P w K mg base CX0 43 t.wE8 t.wE9 ["_law_five","_law_state"] (sp_bond K t):=by
 refine T.wGk.ok zCm ⟨⟩ ();obtain⟨fl,sl,fv,rfl,hF,l5,nl,pl,ll,rl,ds,ns,ws,S,D,aF,hz,q⟩:=h;refine⟨_,(zD (zFj (i:=2) zCm.nd rfl (Or.inr rfl) (zA8 K (pv 1) zF))
  (zD (zAm (zS zDH (zU (zAo K) rfl T.wAp wH8 (zG (pv 2) zE zA)) zF (zAc _)) (zH (zX (zAd (zG (zP zW zT (zFJ F.plainAttrs_str F.slot_str_join F.type_str_join (zC2 K) zT (zG (zAd (by with_reducible exact (zFK zE))) zE zBg))) (zG zT zE zI) zV)))) zR)
  (zD (zAJ 3 zCm.nd (cal (zNR T) hr T.wG3 T.wGh T.wG2 (zAq (pv 0) (zU (zAo K) rfl T.wAp wH8 (zG (pv 2) zE zA)) (zA8 K (pv 1) zF) zE zA zZ zL)))
  (zD (zAJ 4 zCm.nd (zP zW (zP zW (zP zW zT (zA8 K (pv 2) (zDL K (pv 3) zF))) zT) (zA8 K (pv 2) (zDL K (pv 3) zF))))
  (zD (zAJ 4 zCm.nd (zP zW (zP zW (zP zW (zP zW (zP zW (zP zW (pv 4) zT) (zAt zAu rfl T.wAx PyProof.Rows.boot_str (zG (zDL K (pv 3) zF) zE zL))) zT) (zAt zAu rfl T.wAx PyProof.Rows.boot_str (zG (zDL K (pv 3) zF) zE zL))) zT) (zAt zAu rfl T.wAx PyProof.Rows.boot_str (zG (zDL K (pv 3) zF) zE zL))))
  (zD (zG5 (cal (zPt T) hr T.wHk T.wGI T.wHj (zAq (zU (zAo K) rfl T.wAp wH8 (zG (pv 2) zE zA)) (zA8 K (pv 1) zF) (pv 3) zE zZ zL zA)) (zAE K (n:=3) rfl (zO (zN (i:=5) zCm.nd rfl (Or.inl rfl)) (zO (zN (i:=6) zCm.nd rfl (Or.inl rfl)) (zO (zN (i:=7) zCm.nd rfl (Or.inl rfl)) zAA)))))
  (zD (zAm (zS zCb (pv 5) zT (zAc _)) (zH (zX (zAd (zY (pv 4) (zFJ F.plainAttrs_str F.slot_str_join F.type_str_join (zC2 K) zT (zG (zP zD7 (zAd (zG zT (zG (zAt zAu rfl T.wAx PyProof.Rows.boot_str (zG (pv 6) zE zA)) zE zZ) zI)) (zA4 ["_law_k","_law_names_here"] [none,some 2] (by kernel_rfl) rfl (zAh K (pv 7)) (λ_ _ _ _ _=>(zN (i:=0) ndB rfl (Or.inl rfl))) (λ_ _ _ _ _=>zAO) (λ_ _ _ _ _=>(zA8 K (pv 1) (pv 0))))) zE zV)) zE zA zZ)))) zR)
  (zD (zAm (zS zNO (pv 5) zT (zAc _)) (zH (zX (zAd (zY (pv 4) (zP zW zT (pv 5)) zE zA zV)))) zR)
  (zD (zAe (zAQ K wHW wH5 wIa zAr (zA8 K (pv 1) zF) (zG (pv 3) zE zA)))
  (zD (zAe (zAQ K wHW wH5 wIa zAr (zA8 K (pv 1) zF) (zG (pv 4) zE zA)))
  (zH (zX (zAd (zY (pv 4) (zP zW zT (zAt zAu rfl T.wAx PyProof.Rows.boot_str (zG (zU (zAo K) rfl T.wAp wH8 (zG (zA8 K (pv 1) zF) zE zL)) zE zZ))) zE zA zV)))))))))))))),?_⟩
 have ho:=aF.all;refine⟨_,rfl,sl,_,0,_,rfl,rfl,SqL.of S.s,rfl,?_⟩;refine⟨_,rfl,nl,_,rfl,.inl (SqL.of S.n),_,_,rfl,rfl,_,rfl,?_⟩;rw[wHt];by_cases c:(ns.length:Int) < 2
 ·refine zGj c ?_;refine⟨rfl,szl,λl0 h0=>?_⟩;have s1:=zC h0 (.lst ([Str.ofString "a1",Str.ofString "b1",Str.ofString "5",Str.ofString "6",Str.ofString "7"].map V.str));refine⟨_,l0,[Str.ofString "a1",Str.ofString "b1",Str.ofString "5",Str.ofString "6",Str.ofString "7"],rfl,rfl,SqL.of zB,by nofun,_,_,rfl,rfl,?_,zAp,λr hr=>?_⟩
  ·exact wHI (show _<=100 by nofun) (sz _ ⋯)
  have s2:=s1.trans (zC hr (.lst [V.str (Str.ofString "pact "++Str.join (Str.ofString " ") [Str.ofString "a1",Str.ofString "b1",Str.ofString "5",Str.ofString "6",Str.ofString "7"]),V.str "refused: unknown house"]));refine q r _ _ _ ds ns ws (s1.free hr) (KL.of s2) (S.same s2) aF ∅ ?_ zB;have e1:Str.ofString "pact "++Str.join (Str.ofString " ") [Str.ofString "a1",Str.ofString "b1",Str.ofString "5",Str.ofString "6",Str.ofString "7"]=(Deed.pact (Str.ofString "a1") (Str.ofString "b1") 5 6 7).row:=by nofun
  rw[e1,show Str.ofString "refused: unknown house"=zH8 (zCi 2) by nofun];have nm:¬zGl (Str.ofString "a1"):=by nofun
  have sa:zBL (Str.ofString "a1")/\Wd (Str.ofString "a1").cps.toList:=by nofun
  have sb:zBL (Str.ofString "b1")/\Wd (Str.ofString "b1").cps.toList:=by nofun
  exact zJ7 T ho hz ⟨sa.2,sb.2,by decide,by decide,by decide⟩ ⟨sa.1,sb.1,by decide,by decide,by decide⟩ λz=>nm (ho.nok _ z)
 refine zFU c ?_;have n2:2<=ns.length:=by omega
 refine⟨_,rfl,_,rfl,nl,_,rfl,.inl (SqL.of S.n),_,rfl,sl,_,1,_,rfl,rfl,SqL.of S.s,rfl,fl,pl,fv,ns.length,ws,?_,hF,l5,S.p,by omega,λp hp=>(ho.g.ok p hp).pt.1,λnw H1 w bN s1 e1 o=>?_⟩
 ·rw[wHt];rfl
 have o:=o n2;have Sw:=SqT.of (K:=K) e1;have S1:=S.same s1;have Sn:=SqL.of (K:=K) S1.n;have cN:∀j:Int,0<=j->j < ns.length->atI (ns.map V.str) j=some (.str (ns.getD j.toNat Str.empty)):=λj h0 h1=>zBE h0 (by rw[wHB,wHw,wHv (show j.toNat < ns.length by omega)];rfl);obtain⟨i1,i2⟩:=zMP o;have n1:(ns.getD w.1.toNat Str.empty).length<=8:=(ho.nok _ i1).2.2;have n2':(ns.getD w.2.1.toNat Str.empty).length<=8:=(ho.nok _ i2).2.2;have bt:∀{z:Int},0<=z->z<=5000->z.natAbs < 10 ^ 60:=λ{z} h0 h1=>wIi (show z.natAbs<=5000 by omega) ⋯;have opt:=o.pt;have osp:=o.sp;have b1:=bt (z:=w.2.2.1) ∅ ∅;have b2:=bt (z:=w.2.2.2.1) ∅ ∅;have b3:=bt (z:=w.2.2.2.2) ∅ ∅;have l1:=zA5 b1;have l2:=zA5 b2;have l3:=zA5 b3;have p5:(Str.ofString "pact ").length=5:=by nofun
 have p1:(Str.ofString " ").length=1:=by nofun
 refine⟨_,rfl,_,rfl,nw,_,0,_,rfl,rfl,Sw,rfl,nl,_,_,_,rfl,rfl,Sn,cN _ o.g.1 o.g.2,_,_,rfl,rfl,?_,_,_,rfl,rfl,?_,_,rfl,_,rfl,nw,_,1,_,rfl,rfl,Sw,rfl,nl,_,_,_,rfl,rfl,Sn,cN _ o.u.1 o.u.2,_,_,rfl,rfl,?_,?_⟩
 iterate 3
  simp only[Str.length_append,p5,p1];exact sz _ ∅
 refine⟨_,rfl,_,_,rfl,rfl,?_,_,rfl,nw,_,2,_,rfl,rfl,Sw,rfl,_,rfl,zFr b1,_,_,rfl,rfl,?_,_,_,rfl,rfl,?_,_,rfl,nw,_,3,_,rfl,rfl,Sw,rfl,_,rfl,zFr b2,_,_,rfl,rfl,?_,_,_,rfl,rfl,?_,_,rfl,nw,_,4,_,rfl,rfl,Sw,rfl,_,rfl,zFr b3,_,_,rfl,rfl,?_,?_⟩
 iterate 6
  simp only[Str.length_append,p5,p1];exact sz _ ∅
 have er:(pD (pOf ns w)).row=Str.ofString "pact "++ns.getD w.1.toNat Str.empty++Str.ofString " "++ns.getD w.2.1.toNat Str.empty++Str.ofString " "++Str.ofString (toString w.2.2.1)++Str.ofString " "++Str.ofString (toString w.2.2.2.1)++Str.ofString " "++Str.ofString (toString w.2.2.2.2):=zLJ _ _ _ _ _;rw[← er];refine⟨_,rfl,nl,_,rfl,.inl Sn,_,rfl,sl,_,1,_,rfl,rfl,SqL.of S1.s,rfl,_,rfl,ns.length,pl,nw,ws,w,?_,S1.p,e1,ho.g,o,ho.n15,by have:=ho.lw;omega,λdu H2 s2 hdu=>?_⟩
 ·rw[wHt];rfl
 have S2:=S1.same s2;have n15:=ho.n15;cases hdu with
 | over y z ov ed=>
  refine⟨du,_,rfl,SqT.of ed,rfl,_,_,rfl,_,_,rfl,_,_,rfl,rfl,?_⟩;refine⟨_,rfl,rfl,_,rfl,zFU (show ¬V.str "too much"=V.str "shut in" by nofun) ?_⟩;refine⟨_,rfl,rfl,_,rfl,zQ4 (show ¬V.str "too much"=V.str "" by nofun) ?_⟩;refine⟨_,rfl,_,rfl,_,_,rfl,rfl,by nofun,zAp,λr hr=>?_⟩;have s3:=(s1.trans s2).trans (zC hr (.lst [V.str (pD (pOf ns w)).row,V.str (Str.ofString "refused: "++Str.ofString "too much")]));exact q r _ _ _ ds ns ws ((s1.trans s2).free hr) (KL.of s3) (S.same s3) aF ∅ (zDk T ho hz o (λ_=>⟨rfl,rfl⟩) (λ_ z=>absurd ov z) λz=>absurd ov z) zB
 | shut d l aW sd ed el=>
  refine⟨du,_,rfl,SqT.of ed,rfl,_,_,rfl,_,_,rfl,_,_,rfl,rfl,?_⟩;refine⟨_,rfl,rfl,_,rfl,zGj rfl ?_⟩;have bd:=bt (z:=d) (by have:=sd.1;omega) (by have:=sd.2.1;omega);have ld:=zA5 bd;have hL:∀x∈zEg ns.length ws w d,0<=x/\x < ns.length:=λx hx=>⟨(zMM hx).1,(zMM hx).2.1⟩;have lL:(zEg ns.length ws w d).length<=ns.length:=zCI _ _;have ft:=zJG d (nmS ns (zEg ns.length ws w d));have tp:=zDk T ho hz o (due:=zH8 (zHu d (nmS ns (zEg ns.length ws w d)))) (ds':=ds) (λz=>absurd z aW) (λd' _ sd'=>by cases zNz sd sd';exact⟨rfl,rfl⟩) λ_ z=>absurd (z d sd.1 sd.2.1) sd.2.2.1;generalize zEg ns.length ws w d=L at el hL lL ft tp;refine⟨_,rfl,rfl,_,rfl,_,rfl,zFr bd,zAp,λl0 h0=>?_⟩;have s3:=(s1.trans s2).trans (zC h0 (.lst [V.str "refused: shut in",V.str (Str.ofString (toString d))]));have hW:=s2.trans (zC h0 (.lst [V.str "refused: shut in",V.str (Str.ofString (toString d))]));have e0:upd H2 l0 (.lst [V.str "refused: shut in",V.str (Str.ofString (toString d))]) l0=some (.lst [V.str "refused: shut in",V.str (Str.ofString (toString d))]):=zB;have mZ:=zC h0 (.lst [V.str "refused: shut in",V.str (Str.ofString (toString d))]) _ _ el;have en3:=hW _ _ S1.n;generalize upd H2 l0 (.lst [V.str "refused: shut in",V.str (Str.ofString (toString d))])=H3 at s3 hW e0 mZ en3 ⊢;refine⟨_,rfl,l,rfl,⟨_,SqL.of mZ⟩,λg hg=>?_⟩;refine zAz (K:=K) (ys:=L.map V.int) (λi σ' H'=>∃v,σ'=[v,some (.ref nl)]/\H'=upd H3 g (.lst (((nmS ns L).map V.str).take i))) ⟨none,rfl,rfl⟩ (λj σ2 H' _ ⟨_,_,e⟩=>by rw[e];exact SqL.of (zC hg _ _ _ mZ)) ?_ ?_
  ·rintro i x σ' H' hx ⟨v,rfl,rfl⟩;rw[wHB] at hx;obtain⟨y,hy,rfl⟩:=wIN hx;obtain⟨y0,yn⟩:=hL y (wIe hy);refine⟨_,rfl,_,rfl,nl,_,_,_,rfl,rfl,SqL.of (zC hg _ _ _ en3),cN y y0 yn,_,zB,by rw[wHS];unfold nmS;rw[wHt,wHt];exact zAa ∅,_,rfl,?_⟩;rw[zBl];refine congrArg (λl=>upd H3 g (.lst l)) ?_;unfold nmS;rw[wId,wHB,wHB,hy]
   rfl
  rintro σ' H4 ⟨v,rfl,rfl⟩;have lm:((nmS ns L).map V.str).length=L.length:=by unfold nmS;rw[wHt,wHt]
  rw[wHt,← lm,wH0];have s4:=s3.trans (zC hg (.lst ((nmS ns L).map V.str)));have e04:=zC hg (.lst ((nmS ns L).map V.str)) _ _ e0;refine⟨l0,g,_,_,rfl,rfl,e04,zB,by rw[lm];exact sz _ (by show 2+L.length<=16777216;have:=ho.n15;omega),λg2 hg2=>?_⟩;have s5:=s4.trans (zC hg2 (.lst ([V.str "refused: shut in",V.str (Str.ofString (toString d))]++(nmS ns L).map V.str)));refine⟨_,g2,Str.ofString "refused: shut in"::Str.ofString (toString d)::nmS ns L,rfl,rfl,SqL.of zB,?_,?_⟩
  ·have h2:=zDO (Str.ofString "refused: shut in"::Str.ofString (toString d)::nmS ns L) λx hx=>by
    rcases wIQ hx with z | hx
    ·rw[z];exact (by nofun:(Str.ofString "refused: shut in").length<=1000)
    rcases wIQ hx with z | hx
    ·rw[z];exact ld
    obtain⟨y,hy,rfl⟩:=List.mem_map.mp hx;obtain⟨y0,yn⟩:=hL y hy;have m:ns.getD y.toNat Str.empty∈ns:=by rw[wHw,wHv (show y.toNat < ns.length by omega)];exact wHZ _
    exact wHI (ho.nok _ m).2.2 ⋯
   have h3:(Str.ofString "refused: shut in"::Str.ofString (toString d)::nmS ns L).length<=17:=by rw[wHt] at lm;rw[wH3,wH3,lm];have:=ho.n15;omega
   rw[p1];omega
  rw[ft];refine⟨zAp,λr hr=>?_⟩;have s6:=s5.trans (zC hr (.lst [V.str (pD (pOf ns w)).row,V.str (zH8 (zHu d (nmS ns L)))]));exact q r _ _ _ ds ns ws (s5.free hr) (KL.of s6) (S.same s6) aF ∅ tp zB
 | none y z aW bH ed=>
  refine⟨du,_,rfl,SqT.of ed,rfl,_,_,rfl,_,_,rfl,_,_,rfl,rfl,?_⟩;refine⟨_,rfl,rfl,_,rfl,zFU (show ¬V.str ""=V.str "shut in" by nofun) ?_⟩;refine⟨_,rfl,rfl,_,rfl,zP8 rfl ?_⟩;obtain⟨qs,hq,lq,lC⟩:=S2.p;have lw:=ho.lw;have lq':qs.length<=24:=by rw[lq,wHt];omega
  refine⟨_,rfl,sl,_,1,_,rfl,rfl,SqL.of S2.s,rfl,.inl ⟨rfl,_,SqL.of hq⟩,_,rfl,pl,_,_,rfl,rfl,hq,by rw[wHt];exact zAa ∅,?_⟩;have e2:=s2 _ _ e1;have e3:∀o,upd H2 pl o sl=some (.lst [.ref nl,.ref pl,.ref ll,.ref rl]):=λo=>by rw[zJ D.g.2.1];exact S2.s
  have e4:∀o,upd H2 pl o rl=some (.lst ((ds.map Deed.row).map V.str)):=λo=>by rw[zJ D.e.symm];exact S2.r
  refine⟨_,rfl,sl,_,3,_,rfl,rfl,SqL.of (e3 _),rfl,.inl ⟨rfl,_,SqL.of (e4 _)⟩,_,rfl,rl,_,_,rfl,rfl,e4 _,by rw[wHt,wHt];exact zAa ∅,?_⟩;obtain⟨S3,k3⟩:=S2.pact D hq lq lC e2;generalize upd (upd H2 pl (.lst (qs.map V.ref++[V.ref nw]))) rl (.lst ((ds.map Deed.row).map V.str++[V.str (pD (pOf ns w)).row]))=H3 at S3 k3 ⊢;have dB:(((ds.length+1:Nat):Int)).natAbs < 10 ^ 60:=wIi (show _<=801 by omega) ⋯;have l1:=zA5 dB;have h5:(Str.ofString "done ").length=5:=by nofun
  refine⟨_,rfl,_,rfl,sl,_,3,_,rfl,rfl,SqL.of S3.s,rfl,rl,_,rfl,.inl (SqL.of S3.r),?_⟩;rw[wHt,wHt,wHy,show ds.length+[pD (pOf ns w)].length=ds.length+1 from rfl];refine⟨_,rfl,zFr dB,_,_,rfl,rfl,by rw[h5];exact sz _ ∅,zAp,λr hr=>?_⟩;have s3:=zC hr (.lst [V.str (pD (pOf ns w)).row,V.str (Str.ofString "done "++Str.ofString (toString ((ds.length+1:Nat):Int)))]);have kk:=(KL.of (s1.trans s2)).trans k3;refine q r _ _ _ (ds++[pD (pOf ns w)]) ns (ws++[w]) (S3.free kk hr) (kk.trans (KL.of s3)) (S3.same s3) (.pact aF o (zPE ho.g o aW bH)) (by rw[wHy];exact wHA _) ?_ zB;rw[← zFZ];exact zDk T ho hz o (λz=>absurd z aW) (λd _ sd=>absurd (bH d sd.1 sd.2.1) sd.2.2.1) λ_ _=>⟨rfl,rfl⟩
def zJC (a b:List Nat):Txt.startswith (tx a) (tx b)=decide (a.take b.length=b):=by
 unfold Txt.startswith Builtin.Str.subAt;rw[zAI,zAI,Nat.zero_add];show (decide (b.length<=a.length) && (a.toArray.extract 0 b.length == b.toArray))=_;rw[List.extract_toArray,Bool.eq_iff_iff,wHR,decide_eq_true_eq,decide_eq_true_eq,beq_iff_eq];constructor
 ·rintro⟨_,h⟩;have:=congrArg Array.toList h;simpa using this
 intro h;refine⟨?_,?_⟩
 ·have:=congrArg List.length h;rw[wHS] at this;omega
 have:a.extract 0 b.length=b:=by simpa using h
 rw[this]
theorem zIL (d:Deed):∃z,d.row=d.tag++Str.ofString " "++z:=by
 have h:∀(x y:Str) (r:List Str),∃z,Str.join (Str.ofString " ") (x::y::r)=x++Str.ofString " "++z:=λx y r=>by refine⟨Str.join (Str.ofString " ") (y::r),?_⟩;rw[zGN];generalize Str.join (Str.ofString " ") (y::r)=z;obtain⟨x,rfl⟩:∃l,x=tx l:=⟨_,(zAj x).symm⟩;obtain⟨z,rfl⟩:∃l,z=tx l:=⟨_,(zAj z).symm⟩;rw[b32,zAL,zAL,zAL,zAL,wHY]
 cases d<;>exact h _ _ _
def zL8 (d:Deed):Txt.startswith d.row (Str.ofString "house")=d.isH/\Txt.startswith d.row (Str.ofString "pact")=d.isP/\Txt.startswith d.row (Str.ofString "loss")=d.isL:=by
 obtain⟨z,e⟩:=zIL d;rw[e];obtain⟨z,rfl⟩:∃l,z=tx l:=⟨_,(zAj z).symm⟩;have key:∀(a b:String) (v:Bool),decide (((a.toList.map Char.toNat)++[32]).take (b.toList.map Char.toNat).length=b.toList.map Char.toNat)=v->(b.toList.map Char.toNat).length<=(a.toList.map Char.toNat).length+1->Txt.startswith (Str.ofString a++Str.ofString " "++tx z) (Str.ofString b)=v:=λa b v h l=>by rw[b32,ofS a,ofS b,zAL,zAL,zJC,List.take_append_of_le_length (by rw[wHy];exact l)];exact h
 cases d with
 | house n=>exact⟨key "house" "house" true ⋯ ⋯,key "house" "pact" false ⋯ ⋯,key "house" "loss" false ⋯ ⋯⟩
 | pact g u p f l=>exact⟨key "pact" "house" false ⋯ ⋯,key "pact" "pact" true ⋯ ⋯,key "pact" "loss" false ⋯ ⋯⟩
 | loss h y a=>exact⟨key "loss" "house" false ⋯ ⋯,key "loss" "pact" false ⋯ ⋯,key "loss" "loss" true ⋯ ⋯⟩
def idx:Deed->Nat
 | .house _=>0
 | .pact _ _ _ _ _=>1
 | .loss _ _ _=>2
def LA (nl pl ll:Addr):Nat->Addr
 | 0=>nl
 | 1=>pl
 | _=>ll
def Lst (d:Deed) (ns aP:List Str) (ws ws':List W5):Prop:=(∃n,d=.house n/\ns=aP++[n]/\ws=ws')∨(∃w,d=pD (pOf aP w)/\ns=aP/\ws=ws'++[w])∨∃x y a,d=.loss x y a/\ns=aP/\ws=ws'
def StA.back {H:Hp} {sl nl pl ll rl:Addr} {ds:List Deed} {d:Deed} {ns aP:List Str} {ws ws':List W5} (D:Df sl nl pl ll rl) (hs:H sl=some (.lst [.ref nl,.ref pl,.ref ll,.ref rl])) (hn:H nl=some (.lst (ns.map V.str))) (hp:zAf H pl (ws.map W5.vs)) (hl:H ll=some (.lst ((zCK (ds++[d])).map V.str))) (hr:H rl=some (.lst ((ds.map Deed.row).map V.str))) (L:Lst d ns aP ws ws') :
  ∃xs v,H (LA nl pl ll (idx d))=some (.lst (xs++[v]))/\StA (upd H (LA nl pl ll (idx d)) (.lst xs)) sl nl pl ll rl ds aP ws':=by
 rw[zDa] at hl;rcases L with ⟨n,rfl,rfl,rfl⟩ | ⟨w,rfl,rfl,rfl⟩ | ⟨x,y,a,rfl,rfl,rfl⟩
 ·refine⟨aP.map V.str,.str n,by rw[wHC] at hn;exact hn,⟨?_,zB,hp.keep zBk.upd D.a.symm ⟨_,hn⟩,?_,?_⟩⟩
  ·exact (zJ D.g.1).trans hs
  ·refine (zJ D.b.symm).trans ?_;rw[hl];show some (HO.lst ((zCK ds++[]).map V.str))=_;rw[wHQ]
  exact (zJ D.c.symm).trans hr
 ·obtain⟨q,e1,e2,e3⟩:=hp;rw[wHC,wHy] at e2;have lq:q.length=(ws'.map W5.vs).length+1:=e2;obtain⟨q',a,rfl⟩:∃q' a,q=q'++[a]:=by
   rcases List.eq_nil_or_concat q with z | ⟨q',a,z⟩
   ·rw[z] at lq;cases lq
   exact⟨q',a,by rw[z,List.concat_eq_append]⟩
  have lq':q'.length=(ws'.map W5.vs).length:=by rw[wHy] at lq;exact Nat.succ.inj lq
  refine⟨q'.map V.ref,.ref a,by rw[wHC] at e1;exact e1,⟨?_,(zJ D.a).trans hn,⟨q',zB,lq',λi b ys h1 h2=>?_⟩,?_,?_⟩⟩
  ·exact (zJ D.g.2.1).trans hs
  ·have hi:i < q'.length:=(wIL h1).1;have h3:=e3 i b ys (by rw[wHJ hi];exact h1) (by rw[wHC,wHJ ∅];exact h2);refine (zJ ?_).trans h3;show b≠pl;intro z;rw[z,e1] at h3;cases h3
  ·refine (zJ D.d.symm).trans ?_;rw[hl];show some (HO.lst ((zCK ds++[]).map V.str))=_;rw[wHQ]
  exact (zJ D.e.symm).trans hr
 refine⟨(zCK ds).map V.str,.str (Deed.loss x y a).row,by rw[wHC] at hl;exact hl,⟨?_,(zJ D.b).trans hn,hp.keep zBk.upd D.d ⟨_,hl⟩,zB,?_⟩⟩
 ·exact (zJ D.g.2.2.1).trans hs
 exact (zJ D.f.symm).trans hr
def zDz (xs:List Str):PyData.eqv (.list (xs.map PyData.str)) (.list [])=xs.isEmpty:=by cases xs<;>rfl
inductive sp_back (K:W.Frag) (t:Adr) (vs:List V) (H:Hp) (Q:VK) (E:XK):Prop
 | mk (sl:Addr):vs=[.ref sl]->(zC1 K t sl H Q)->sp_back K t vs H Q E
def zNT (T:Txt P w K mg t):FnOk P w K mg base CX0 40 t.wFa t.wFb ["_law_state"] (sp_back K t):=by
 refine T.wGl.ok zFA ⟨⟩ ();obtain⟨sl,rfl,nl,pl,ll,rl,ds,ns,ws,S,D,aF,hz,q⟩:=h;refine⟨_,(zD (zAm (zS (zKv hr.units) (zA8 K (pv 0) zF) (zAd zE) (zAc _)) (zH (zX (zAd (zFL zE)))) zR)
  (zD (zAJ 1 zFA.nd (zKm wHW F.slot_list_pop F.type_list_pop zK6 (zA8 K (pv 0) zF)))
  (zD (zAW PassesOwn.never rfl (zAh K (zAd (zAq (zAT (zG zT (zG zF zE zI) zI)) (zAT (zG zT (zG zF zE zI) zI)) (zAT (zG zT (zG zF zE zI) zI)) zE zAF zAF zAF))) (zAE K (n:=2) rfl (zO (zN (i:=2) zFA.nd rfl (Or.inl rfl)) (zO (zN (i:=3) zFA.nd rfl (Or.inl rfl)) zAA))) (zH (zAm (zAM (zFJ F.plainAttrs_str F.slot_str_startswith F.type_str_startswith zFT (pv 1) (zG (pv 2) zE zA))) (zH (zAe (zKm wHW F.slot_list_pop F.type_list_pop zK6 (zA8 K (pv 0) (pv 3))))) zR)))
  (zH (zX (zAd (zG zT (zG (zP zW zT (pv 1)) zE zV) zI))))))),?_⟩
 have ho:=aF.all;have kF:∀z∈ds.map Deed.row,zBL z:=λz hz=>by obtain⟨d,hd,rfl⟩:=List.mem_map.mp hz;exact (zH9 (ho.ok d hd).2).2
 refine⟨_,rfl,sl,_,3,_,rfl,rfl,SqL.of S.s,rfl,szl,λl0 h0=>?_⟩;refine⟨_,_,.lst (SqL.of (zC h0 _ _ _ S.r)) (zEr _),.lst (SqL.of zB) .nil,zBP kF,rfl,_,rfl,?_⟩;rw[zDz];have s0:=zC h0 (.lst []);generalize upd H l0 (.lst [])=H0 at s0 ⊢;have S0:=S.same s0;rcases aF.last with ⟨rfl,rfl,rfl⟩ | ⟨ds',d,aP,ws',rfl,eK,L⟩
 ·refine zDh ⟨zAp,λr hr=>?_⟩;have s3:=s0.trans (zC hr (.lst [V.str "back",V.str "refused: nothing done"]));refine q r _ _ _ [] [] [] (s0.free hr) (KL.of s3) (S.same s3) aF ⋯ ?_ zB;rw[show Str.ofString "refused: nothing done"=zH8 (zCi 9) by nofun];exact zII T
 have e1:((ds'++[d]).map Deed.row).isEmpty=false:=by cases ds'<;>rfl
 rw[e1];refine zBC ?_;have er:H0 rl=some (.lst ((ds'.map Deed.row).map V.str++[.str d.row])):=by rw[S0.r,wHC,wHC];rfl
 refine⟨_,rfl,sl,_,3,_,rfl,rfl,SqL.of S0.s,rfl,.inl ⟨rfl,_,SqL.of er⟩,rl,_,.str d.row,rfl,rfl,er,?_,?_⟩
 ·rw[wHy];show ((ds'.map Deed.row).map V.str++[V.str d.row])[((ds'.map Deed.row).map V.str).length+1-1]?=_;rw[Nat.add_sub_cancel,wHK (wHA _),Nat.sub_self];rfl
 rw[List.dropLast_concat];have e3:∀o,upd H0 rl o sl=some (.lst [.ref nl,.ref pl,.ref ll,.ref rl]):=λo=>by rw[zJ D.g.2.2.2];exact S0.s
 have kl:KL nl pl ll rl H0 (upd H0 rl (.lst ((ds'.map Deed.row).map V.str))):=λa o _ _ _ n4 e=>by rw[zJ n4];exact e
 have fT:=e3 (.lst ((ds'.map Deed.row).map V.str));have lO:=(zJ (o:=.lst ((ds'.map Deed.row).map V.str)) D.c).trans S0.n;have cX:=S0.p.keep (zBk.upd (o:=.lst ((ds'.map Deed.row).map V.str))) D.e ⟨_,S0.r⟩;have cK:=(zJ (o:=.lst ((ds'.map Deed.row).map V.str)) D.f).trans S0.l;have lB:upd H0 rl (.lst ((ds'.map Deed.row).map V.str)) rl=some (.lst ((ds'.map Deed.row).map V.str)):=zB;show zLw _ _ _ _ (upd H0 rl (.lst ((ds'.map Deed.row).map V.str)));have k1:=(KL.of s0).trans kl;generalize upd H0 rl (.lst ((ds'.map Deed.row).map V.str))=H1 at fT lO cX cK lB k1 ⊢;refine⟨zAp,λt0 h0=>⟨zAp,λt1 h1=>⟨zAp,λt2 h2=>⟨szl,λla hla=>?_⟩⟩⟩⟩;have u0:=zC h0 (.tup [V.str "house",V.int 0]);have u1:=zC h1 (.tup [V.str "pact",V.int 1]);have u2:=zC h2 (.tup [V.str "loss",V.int 2]);have u3:=zC hla (.lst [V.ref t0,V.ref t1,V.ref t2]);have f0:=(u1.trans (u2.trans u3)) _ _ (zB (H:=H1) (a:=t0) (o:=.tup [V.str "house",V.int 0]));have f1:=(u2.trans u3) _ _ (zB (a:=t1) (o:=.tup [V.str "pact",V.int 1]));have f2:=u3 _ _ (zB (a:=t2) (o:=.tup [V.str "loss",V.int 2]));have u:=u0.trans (u1.trans (u2.trans u3));have iQ:=zB (H:=(upd (upd (upd H1 t0 (.tup [V.str "house",V.int 0])) t1 (.tup [V.str "pact",V.int 1])) t2 (.tup [V.str "loss",V.int 2]))) (a:=la) (o:=.lst [V.ref t0,V.ref t1,V.ref t2]);obtain⟨_,_,ev0,_⟩:=StA.back D fT lO cX cK lB L;have nA:=zM ((u0.trans (u1.trans u2)) _ _ ev0) hla;generalize upd (upd (upd (upd H1 t0 (.tup [V.str "house",V.int 0])) t1 (.tup [V.str "pact",V.int 1])) t2 (.tup [V.str "loss",V.int 2])) la (.lst [V.ref t0,V.ref t1,V.ref t2])=H3 at f0 f1 f2 u iQ ⊢;have fj:=u _ _ fT;obtain⟨xs,v,ev,S'⟩:=StA.back D fj (u _ _ lO) (cX.same u) (u _ _ cK) (u _ _ lB) L;have kA:KL nl pl ll rl H3 (upd H3 (LA nl pl ll (idx d)) (.lst xs)):=λa o n1 n2 n3 n4 e=>by
  refine (zJ ?_).trans e;cases d
  ·exact n1
  ·exact n2
  exact n3
 have i3:idx d < 3:=by
  cases d
  ·show 0 < 3;decide
  ·show 1 < 3;decide
  show 2 < 3;decide
 generalize hA:LA nl pl ll (idx d)=A at nA ev S' kA;have tt:∀(i:Nat) x,[V.ref t0,V.ref t1,V.ref t2][i]?=some x->∃a kd,x=.ref a/\H3 a=some (.tup [.str kd,.int (i:Nat)])/\Txt.startswith d.row kd=decide (idx d=i)/\atI [V.ref nl,V.ref pl,V.ref ll,V.ref rl] ((i:Nat):Int)=some (.ref (LA nl pl ll i)):=λi x hx=>by
  obtain⟨q1,q2,q3⟩:=zL8 d;rcases i with _ | _ | _ | i
  ·cases hx;exact⟨_,_,rfl,f0,by rw[q1];cases d<;>rfl,rfl⟩
  ·cases hx;exact⟨_,_,rfl,f1,by rw[q2];cases d<;>rfl,rfl⟩
  ·cases hx;exact⟨_,_,rfl,f2,by rw[q3];cases d<;>rfl,rfl⟩
  cases hx
 refine⟨la,rfl,⟨_,SqL.of iQ⟩,zAH (K:=K) (a:=la) (xs:=[V.ref t0,V.ref t1,V.ref t2]) (λi σ' H'=>∃(k p:Option V),σ'=[some (.ref sl),some (.str d.row),k,p]/\H'=if idx d < i then upd H3 A (.lst xs) else H3) ⟨none,none,rfl,rfl⟩ ?_ ?_ ?_⟩
 ·rintro i σ' H' _ ⟨k,p,rfl,rfl⟩
  split
  ·exact SqL.of ((zJ nA.symm).trans iQ)
  exact SqL.of iQ
 ·rintro i x σ' H' hx ⟨k,p,rfl,rfl⟩;obtain⟨a,kd,rfl,ea,es,ei⟩:=tt i x hx;have ta:∀H',(H'=if idx d < i then upd H3 A (.lst xs) else H3)->H' a=some (.tup [.str kd,.int (i:Nat)]):=λH' z=>by
   rw[z]
   split
   ·exact (zJ (zFS ea ev (by intro z;cases z))).trans ea
   exact ea
  refine⟨a,_,rfl,SqT.of (ta _ rfl),rfl,_,_,rfl,_,_,rfl,rfl,?_⟩;refine⟨_,rfl,rfl,_,rfl,_,_,rfl,rfl,_,rfl,?_⟩;rw[es];refine zBD (λc=>?_) (λc=>?_)
  ·have c':idx d=i:=wHP c;rw[wHD (show ¬idx d < i by omega)];rw[c'] at hA;rw[hA] at ei;refine⟨_,rfl,_,rfl,sl,_,_,_,rfl,rfl,SqL.of fj,ei,.inl ⟨rfl,_,SqL.of ev⟩,A,_,v,rfl,rfl,ev,?_,_,_,rfl,?_⟩
   ·rw[wHy];show (xs++[v])[xs.length+1-1]?=_;rw[Nat.add_sub_cancel,wHK (wHA _),Nat.sub_self];rfl
   rw[List.dropLast_concat,wHF (show idx d < i+1 by omega)]
  have c':¬idx d=i:=wH9 (wIO c);refine⟨_,_,rfl,?_⟩;by_cases z:idx d < i
  ·rw[wHF z,wHF (show idx d < i+1 by omega)]
  rw[wHD z,wHD (show ¬idx d < i+1 by omega)]
 rintro σ' H4 ⟨k,p,rfl,eH⟩;replace eH:H4=upd H3 A (.lst xs):=eH.trans (wHF i3);rw[← eH] at S' kA;have b5:(Str.ofString "back ").length=5:=by nofun
 have fA:=(ho.ok d (by simp)).1;have rz:=zH6 fA;refine⟨_,rfl,_,_,rfl,rfl,by rw[b5];exact sz _ ∅,zAp,λr hr=>?_⟩;have s5:=zC hr (.lst [V.str "back",V.str (Str.ofString "back "++d.row)]);have kk:=k1.trans ((KL.of u).trans kA);exact q r _ _ _ ds' aP ws' (S'.free kk hr) (kk.trans (KL.of s5)) (S'.same s5) eK (by rw[wHy];show _<=_+1+1;omega) (zIK fA (by rw[wHy] at hz;omega)) zB
def zHy {t u:TS} {D:Ends} {σ:St} {H:Hp} (h:∀R:St->Hp->Prop,(∀σ H,u D σ H->R σ H)->t { D with nx:=R } σ H):zLw t u D σ H:=h _ λ_ _ x=>x
def zDj {sl:Addr} {H H':Hp} {Q:VK} (h:zC1 K t sl H Q) (s:zAi H H'):zC1 K t sl H' Q:=by obtain⟨nl,pl,ll,rl,ds,ns,ws,S,D,aF,hz,q⟩:=h;exact⟨nl,pl,ll,rl,ds,ns,ws,S.same s,D,aF,hz,λr H2 z due ds' aP ws' hr k S' h' l T e=>q r H2 z due ds' aP ws' (s.free hr) ((KL.of s).trans k) S' h' l T e⟩
def zLK (h:Str) (y a:Int):(Deed.loss h y a).row=Str.ofString "loss "++h++Str.ofString " "++Str.ofString (toString y)++Str.ofString " "++Str.ofString (toString a):=by show Str.join (Str.ofString " ") [Str.ofString "loss",h,Str.ofString (toString y),Str.ofString (toString a)]=_;generalize Str.ofString (toString y)=x;generalize Str.ofString (toString a)=z;rw[show Str.ofString "loss "=Str.ofString "loss"++Str.ofString " " by nofun];generalize Str.ofString "loss"=v;obtain⟨h,rfl⟩:∃l,h=tx l:=⟨_,(zAj h).symm⟩;obtain⟨v,rfl⟩:∃l,v=tx l:=⟨_,(zAj v).symm⟩;obtain⟨x,rfl⟩:∃l,x=tx l:=⟨_,(zAj x).symm⟩;obtain⟨z,rfl⟩:∃l,z=tx l:=⟨_,(zAj z).symm⟩;rw[b32,show ([tx v,tx h,tx x,tx z]:List Str)=[v,h,x,z].map tx from rfl,zBB];simp only[zAL,jn,wHY]
theorem StA.loss {H:Hp} {sl nl pl ll rl:Addr} {ds:List Deed} {ns:List Str} {ws:List W5} (S:StA H sl nl pl ll rl ds ns ws) (D:Df sl nl pl ll rl) (h:Str) (y a:Int):StA (upd (upd H ll (.lst ((zCK ds).map V.str++[V.str (Deed.loss h y a).row]))) rl (.lst ((ds.map Deed.row).map V.str++[V.str (Deed.loss h y a).row]))) sl nl pl ll rl (ds++[.loss h y a]) ns ws/\KL nl pl ll rl H (upd (upd H ll (.lst ((zCK ds).map V.str++[V.str (Deed.loss h y a).row]))) rl (.lst ((ds.map Deed.row).map V.str++[V.str (Deed.loss h y a).row]))):=by
 refine⟨⟨?_,?_,?_,?_,?_⟩,λa o n1 n2 n3 n4 e=>by rw[zJ n4,zJ n3];exact e⟩
 ·rw[zJ D.g.2.2.2,zJ D.g.2.2.1];exact S.s
 ·rw[zJ D.c,zJ D.b];exact S.n
 ·exact (S.p.keep zBk.upd D.d ⟨_,S.l⟩).keep zBk.upd D.e ⟨_,by rw[zJ D.f.symm];exact S.r⟩
 ·rw[zJ D.f,zB,zDa,wHC];rfl
 rw[zB,wHC,wHC];rfl
inductive sp_told (K:W.Frag) (t:Adr) (vs:List V) (H:Hp) (Q:VK) (E:XK):Prop
 | mk (fl sl:Addr) (fv:List Int) (pick:Int):vs=[.ref fl,.int pick,.ref sl]->(SqL K H fl (fv.map V.int)/\fv.length=5/\(∀x∈fv,0<=x/\x < 10 ^ 13)/\0<=pick/\pick < 10 ^ 13/\zC1 K t sl H Q)->sp_told K t vs H Q E
def zNQ (T:Txt P w K mg t):FnOk P w K mg base CX0 44 t.wFc t.wFd ["_law_five","_law_pick","_law_state"] (sp_told K t):=by
 refine T.wGm.ok zF8 ⟨⟩ ();obtain⟨fl,sl,fv,pick,rfl,hF,l5,fb,p0,p1,h⟩:=h;refine⟨_,(zD (zAm (PW.pt (zCV (zS zDH (zP zAl (pv 1) zF) zF (zAc _)) (zCt (PW.pt (zLQ (zS (zKv hr.units) (zA8 K (pv 2) zF) (zAd zE) (zAc _)) (zIh (zS zDH (zP zAl (pv 1) zF) zF (zAc _)))))))) (zH (zX (cal (zMa T) hr T.wGW T.wFV T.wGV (zY (zA8 K (pv 0) zF) (pv 2) zE zL zA)))) zR)
  (zD (zAm (zS zDH (zP zAl (pv 1) zF) zF (zAc _)) (zH (zX (cal (zNS T) hr T.wG7 T.wGk T.wG6 (zY (pv 0) (pv 2) zE zA zA)))) zR)
  (zD (zAm (PW.pt (zCV (zS zCb (zP zAl (pv 1) zF) zF (zAc _)) (zCt (zS (zMR hr.units) (zA8 K (pv 2) zF) (zAd zE) (zAc _))))) (zD (zAJ 3 zF8.nd (zA8 K (zA8 K (pv 2) zF) (zP zAl (zA8 K (pv 0) zF) (zU (zAo K) rfl T.wAp wH8 (zG (zA8 K (pv 2) zF) zE zL)))))
  (zD (zAJ 4 zF8.nd (zP zBj zF (zP zAl (zA8 K (pv 0) zF) (zP zKq zF zF))))
  (zD (zAJ 5 zF8.nd (zP zW (zP zW (zP zW (zP zW (zP zW zT (pv 3)) zT) (zAt zAu rfl T.wAx PyProof.Rows.boot_str (zG (zP zAl (zA8 K (pv 0) zF) zF) zE zV))) zT) (zAt zAu rfl T.wAx PyProof.Rows.boot_str (zG (pv 4) zE zA))))
  (zD (zAe (zAQ K wHW wH5 wIa zAr (zA8 K (pv 2) zF) (zG (pv 5) zE zA)))
  (zD (zAe (zAQ K wHW wH5 wIa zAr (zA8 K (pv 2) zF) (zG (pv 5) zE zA)))
  (zH (zX (zAd (zY (pv 5) (zP zW zT (zAt zAu rfl T.wAx PyProof.Rows.boot_str (zG (zU (zAo K) rfl T.wAp wH8 (zG (zA8 K (pv 2) zF) zE zL)) zE zZ))) zE zA zV))))))))) zR)
  (zD (zAm (zS zDH (zP zAl (pv 1) zF) zF (zAc _)) (zH (zX (cal (zNT T) hr T.wG9 T.wGl T.wG8 (zG (pv 2) zE zA)))) zR)
  (zH (zX (zAd (zG zT (zG (zA8 K (zAd (zG (zFJ F.plainAttrs_str F.slot_str_join F.type_str_join (zC2 K) zT (zG (zA8 K (pv 2) zF) zE zL)) (zG zT zE zI) zZ)) (zAt zHb rfl T.wF6 PyProof.Rows.boot_int (zG (zDs (zKv hr.units) (zA8 K (pv 2) zF) (zAd zE) (zAc _)) zE zGs))) zE zL) zI)))))))),?_⟩
 have fa:∀j:Nat,j < 5->0<=fv.getD j 0/\fv.getD j 0 < 10 ^ 13:=λj hj=>by
  have e:fv.getD j 0=fv[j]' ∅:=by rw[wHw,wHv (show j < fv.length by omega)];rfl
  rw[e];exact fb _ (wHZ _)
 have ai:∀j:Int,0<=j->j < 5->atI (fv.map V.int) j=some (.int (fv.getD j.toNat 0)):=λj h0 h1=>zEG h0 ∅;have ai0:atI (fv.map V.int) 0=some (.int (fv.getD 0 0)):=ai 0 ⋯ ⋯;have ai3:atI (fv.map V.int) 3=some (.int (fv.getD 3 0)):=ai 3 ⋯ ⋯;have nE:atI (fv.map V.int) 4=some (.int (fv.getD 4 0)):=ai 4 ⋯ ⋯;obtain⟨nl,pl,ll,rl,ds,ns,ws,S,D,aF,hz,q⟩:=id h;have ho:=aF.all;have fF:∀z∈ns,zBL z:=λz hz=>(ho.nok z hz).sane;have hh:∀H',zAi H H'->sp_house K t [.int (fv.getD 4 0),.ref sl] H' Q E0:=λH' s=>⟨_,sl,rfl,(fa 4 ⋯).1,(fa 4 ⋯).2,zDj h s⟩;show zLw _ _ _ [some (.ref fl),some (.int pick),some (.ref sl),none,none,none] H;refine zHy λR hR=>?_;have go:∀H',zAi H H'->R [some (.ref fl),some (.int pick),some (.ref sl),none,none,none] H':=by
  intro H1 s1;refine hR _ _ ?_;refine⟨_,rfl,_,_,rfl,rfl,by decide,_,_,rfl,rfl,_,rfl,?_⟩;by_cases c:pick%16 < 11
  ·exact zGj c ⟨_,rfl,_,rfl,fl,sl,fv,rfl,s1.seq hF,l5,zDj h s1⟩
  refine zFU c ?_;have S1:=S.same s1;dsimp only [zOJ];refine zHy λR2 hR2=>?_;have go2:∀H',zAi H1 H'->R2 [some (.ref fl),some (.int pick),some (.ref sl),none,none,none] H':=by
   intro H2 s2;refine hR2 _ _ ?_;refine⟨_,rfl,_,_,rfl,rfl,by decide,_,_,rfl,rfl,_,rfl,?_⟩;have bB:=s1.trans s2;by_cases c2:pick%16 < 14
   ·exact zGj c2 ⟨_,rfl,sl,rfl,zDj h bB⟩
   refine zFU c2 ?_;have S2:=S.same bB;have fA:∀x∈ds,x.Ok:=λx hx=>(ho.ok x hx).1;have kF:∀z∈ds.map Deed.row,zBL z:=λz hz=>by obtain⟨d,hd,rfl⟩:=List.mem_map.mp hz;exact (zH9 (ho.ok d hd).2).2
   refine⟨rfl,_,rfl,sl,_,3,_,rfl,rfl,SqL.of S2.s,rfl,_,rl,ds.map Deed.row,rfl,rfl,SqL.of S2.r,zIg fA ∅,zAp,λl0 h0=>?_⟩;have s3:=zC h0 (.lst [V.str (Str.join (Str.ofString "; ") (ds.map Deed.row)),V.str "none"]);have el:=zB (H:=H2) (a:=l0) (o:=.lst [V.str (Str.join (Str.ofString "; ") (ds.map Deed.row)),V.str "none"]);generalize upd H2 l0 (.lst [V.str (Str.join (Str.ofString "; ") (ds.map Deed.row)),V.str "none"])=H3 at s3 el ⊢;have S3:=S2.same s3;refine⟨_,rfl,sl,_,3,_,rfl,rfl,SqL.of S3.s,rfl,szl,λl1 h1=>?_⟩;refine⟨_,_,.lst (SqL.of (zC h1 _ _ _ S3.r)) (zEr _),.lst (SqL.of zB) .nil,zBP kF,rfl,?_⟩;rw[zDz];have s4:=(bB.trans s3).trans (zC h1 (.lst []));have mY:=zC h1 (.lst []) _ _ el;generalize upd H3 l1 (.lst [])=H4 at s4 mY ⊢;have fin:∀(r:Addr) (z:Str),H4 r=none->z=zEC ds->Q (.ref r) (upd H4 r (.lst [V.str "deeds",V.str z])):=λr z hr e=>by subst e;have s5:=s4.trans (zC hr (.lst [V.str "deeds",V.str (zEC ds)]));exact q r _ _ _ ds ns ws (s4.free hr) (KL.of s5) (S.same s5) aF ∅ (zHp ho ∅) zB
   cases e:(ds.map Deed.row).isEmpty
   ·refine .inr ⟨_,rfl,l0,_,0,_,rfl,rfl,SqL.of mY,rfl,zAp,λr hr=>fin r _ hr ?_⟩;unfold zEC;rw[wHD (by intro z;rw[z] at e;cases e)]
   refine .inr ⟨_,rfl,l0,_,1,_,rfl,rfl,SqL.of mY,rfl,zAp,λr hr=>fin r _ hr ?_⟩;unfold zEC;rw[wHF (by cases ds with
    | nil=>rfl
    | cons _ _=>cases e)]
  refine⟨_,rfl,_,_,rfl,rfl,by decide,rfl,_,rfl,?_⟩;by_cases c2:pick%16=11
  rotate_left
  ·exact zFU (λz=>c2 (V.int.inj z)) (go2 _ (zAi.refl _))
  refine zGj (congrArg V.int c2) ?_;refine⟨_,rfl,sl,_,0,_,rfl,rfl,SqL.of S1.s,rfl,szl,λl0 h0=>?_⟩;refine⟨_,_,.lst (SqL.of (zC h0 _ _ _ S1.n)) (zEr _),.lst (SqL.of zB) .nil,zBP fF,rfl,_,rfl,?_⟩;rw[zDz];have s0:=zC h0 (.lst []);generalize upd H1 l0 (.lst [])=H0 at s0 ⊢;cases e:ns.isEmpty
  rotate_left
  ·exact zBC (go2 _ s0)
  have n0:0 < ns.length:=by cases ns with
   | nil=>cases e
   | cons _ _=>exact Nat.succ_pos _
  refine zDh ?_;have S0:=S1.same s0;have s01:=s1.trans s0;have mG:=s01.seq hF;have lnm:(ns.map V.str).length=ns.length:=wHt _;have cN:∀j:Int,0<=j->j < ns.length->atI (ns.map V.str) j=some (.str (ns.getD j.toNat Str.empty)):=λj h0 h1=>zBE h0 (by rw[wHB,wHw,wHv (show j.toNat < ns.length by omega)];rfl);have mb:0<=fv.getD 0 0%(((ns.map V.str).length:Nat):Int)/\fv.getD 0 0%(((ns.map V.str).length:Nat):Int) < ns.length:=by rw[lnm];exact⟨Int.emod_nonneg _ ∅,Int.emod_lt_of_pos _ ∅⟩
  refine⟨_,rfl,sl,_,0,_,rfl,rfl,SqL.of S0.s,rfl,_,rfl,fl,_,0,_,rfl,rfl,mG,ai0,_,rfl,sl,_,0,_,rfl,rfl,SqL.of S0.s,rfl,nl,_,rfl,.inl (SqL.of S0.n),_,_,rfl,rfl,by rw[lnm];omega,nl,_,_,_,rfl,rfl,SqL.of S0.n,cN _ mb.1 mb.2,?_⟩;have mem:ns.getD (fv.getD 0 0%(((ns.map V.str).length:Nat):Int)).toNat Str.empty∈ns:=by rw[wHw,wHv (show (fv.getD 0 0%(((ns.map V.str).length:Nat):Int)).toNat < ns.length by omega)];exact wHZ _
  generalize ns.getD (fv.getD 0 0%(((ns.map V.str).length:Nat):Int)).toNat Str.empty=x at mem;refine⟨_,rfl,fl,_,4,_,rfl,rfl,mG,nE,_,_,rfl,rfl,⟨by decide,by decide,by decide⟩,_,_,rfl,rfl,by decide,_,_,rfl,rfl,?_⟩;have f4:=fa 4 ⋯;have e12:(10:Int) ^ (12:Int).toNat=1000000000000:=by decide
  rw[e12];have m4:0<=fv.getD 4 0%1000000000000/\fv.getD 4 0%1000000000000 < 1000000000000:=⟨Int.emod_nonneg _ ⋯,Int.emod_lt_of_pos _ ⋯⟩;have ha:1<=1+fv.getD 4 0%1000000000000/\1+fv.getD 4 0%1000000000000<=10 ^ 12:=⟨by omega,by omega⟩;generalize 1+fv.getD 4 0%1000000000000=a at ha;have hy:IsD (fv.getD 3 0%5001):=⟨Int.emod_nonneg _ ⋯,by have:=Int.emod_lt_of_pos (fv.getD 3 0) (show (0:Int) < 5001 by decide);omega⟩;have xk:=ho.nok _ mem;obtain⟨o1,o2⟩:=zFM ho.nok mem hy ha;have l1:=zA5 o1.2.1;have l2:=zA5 o1.2.2;have x8:=xk.2.2;have p5:(Str.ofString "loss ").length=5:=by nofun
  have p1:(Str.ofString " ").length=1:=by nofun
  refine⟨_,rfl,_,_,rfl,rfl,?_,_,_,rfl,rfl,?_,_,rfl,fl,_,3,_,rfl,rfl,mG,ai3,_,_,rfl,rfl,by decide,_,rfl,zFr o1.2.1,_,_,rfl,rfl,?_,_,_,rfl,rfl,?_,_,rfl,_,rfl,zFr o1.2.2,_,_,rfl,rfl,?_,?_⟩
  iterate 5
   simp only[Str.length_append,p5,p1];exact sz _ ∅
  generalize fv.getD 3 0%5001=y at hy o1 o2;rw[← zLK];have ll24:(zCK ds).length<=ds.length:=by unfold zCK;rw[wHt];exact wIE _ _
  have bW:=S0.l;refine⟨_,rfl,sl,_,2,_,rfl,rfl,SqL.of S0.s,rfl,.inl ⟨rfl,_,SqL.of bW⟩,_,rfl,ll,_,_,rfl,rfl,bW,by rw[wHt];exact zAa ∅,?_⟩;have e3:∀o,upd H0 ll o sl=some (.lst [.ref nl,.ref pl,.ref ll,.ref rl]):=λo=>by rw[zJ D.g.2.2.1];exact S0.s
  have e4:∀o,upd H0 ll o rl=some (.lst ((ds.map Deed.row).map V.str)):=λo=>by rw[zJ D.f.symm];exact S0.r
  refine⟨_,rfl,sl,_,3,_,rfl,rfl,SqL.of (e3 _),rfl,.inl ⟨rfl,_,SqL.of (e4 _)⟩,_,rfl,rl,_,_,rfl,rfl,e4 _,by rw[wHt,wHt];exact zAa ∅,?_⟩;obtain⟨S3,k3⟩:=S0.loss D x y a;generalize upd (upd H0 ll (.lst ((zCK ds).map V.str++[V.str (Deed.loss x y a).row]))) rl (.lst ((ds.map Deed.row).map V.str++[V.str (Deed.loss x y a).row]))=H3 at S3 k3 ⊢;have dB:(((ds.length+1:Nat):Int)).natAbs < 10 ^ 60:=wIi (show _<=801 by omega) ⋯;have l1:=zA5 dB;have h5:(Str.ofString "done ").length=5:=by nofun
  refine⟨_,rfl,_,rfl,sl,_,3,_,rfl,rfl,SqL.of S3.s,rfl,rl,_,rfl,.inl (SqL.of S3.r),?_⟩;rw[wHt,wHt,wHy,show ds.length+[Deed.loss x y a].length=ds.length+1 from rfl];refine⟨_,rfl,zFr dB,_,_,rfl,rfl,by rw[h5];exact sz _ ∅,zAp,λr hr=>?_⟩;have s3:=zC hr (.lst [V.str (Deed.loss x y a).row,V.str (Str.ofString "done "++Str.ofString (toString ((ds.length+1:Nat):Int)))]);have kk:=(KL.of s01).trans k3;refine q r _ _ _ (ds++[.loss x y a]) ns ws (S3.free kk hr) (kk.trans (KL.of s3)) (S3.same s3) (.loss aF mem hy ha) (by rw[wHy];exact wHA _) ?_ zB;rw[← zFZ];exact zIJ T ho ∅ mem hy ha
 refine⟨_,rfl,_,_,rfl,rfl,by decide,_,_,rfl,rfl,_,rfl,?_⟩;by_cases c:pick%16 < 5
 rotate_left
 ·exact zFU c (go H (zAi.refl _))
 refine zGj c ?_;refine⟨_,rfl,sl,_,0,_,rfl,rfl,SqL.of S.s,rfl,szl,λl0 h0=>?_⟩;refine⟨_,_,.lst (SqL.of (zC h0 _ _ _ S.n)) (zEr _),.lst (SqL.of zB) .nil,zBP fF,rfl,_,rfl,?_⟩;rw[zDz];have s0:=zC h0 (.lst []);generalize upd H l0 (.lst [])=H0 at s0 ⊢;cases ns.isEmpty
 ·refine zBC ⟨_,rfl,_,_,rfl,rfl,by decide,_,_,rfl,rfl,_,rfl,?_⟩;by_cases c2:pick%16 < 2
  ·exact zGj c2 ⟨_,rfl,fl,_,4,_,rfl,rfl,s0.seq hF,nE,_,rfl,hh _ s0⟩
  exact zFU c2 (go _ s0)
 exact zDh (zDh ⟨_,rfl,fl,_,4,_,rfl,rfl,s0.seq hF,nE,_,rfl,hh _ s0⟩)
def sIx_nat (n d k:Nat):HT.sIx n d (some ((k:Nat):Int))=min k n:=by unfold HT.sIx;simp;intro h;omega
def zOw (xs:List V) {i j:Nat} {a b:Int} (ha:a=(i:Int)) (hb:b=(j:Int)) (h:j<=xs.length) (h2:i<=j):zGc xs (some a) (some b)=(xs.drop i).take (j-i):=by subst ha hb;unfold zGc;rw[sIx_nat,sIx_nat,Nat.min_eq_left h,Nat.min_eq_left ∅]
theorem StA.keep {H H':Hp} {sl nl pl ll rl tl:Addr} {ds:List Deed} {ns:List Str} {ws:List W5} (S:StA H sl nl pl ll rl ds ns ws) (k:zBk tl H H') (ht:∃xs,H tl=some (.lst xs)) (n:sl≠tl/\nl≠tl/\pl≠tl/\ll≠tl/\rl≠tl):StA H' sl nl pl ll rl ds ns ws:=
 ⟨k _ _ n.1 S.s,k _ _ n.2.1 S.n,S.p.keep k n.2.2.1 ht,k _ _ n.2.2.2.1 S.l,k _ _ n.2.2.2.2 S.r⟩
def zAY.kl {H H':Hp} {x b tl sl nl pl ll rl:Addr} {ds es:List Deed} {ns:List Str} {ws:List W5} (D:zAY H t x b tl ds) (k:KL nl pl ll rl H H') (S:StA H sl nl pl ll rl es ns ws) (n:sl≠tl/\nl≠tl/\pl≠tl/\ll≠tl/\rl≠tl):zAY H' t x b tl ds:=by obtain⟨dx,hx,dI,qs,hb,ht,hq,hd⟩:=D;obtain⟨q,hp,_⟩:=S.p;have go:∀a o,H a=some o->(∀xs,o≠.lst xs)->H' a=some o:=λa o e h=>k a o (λz=>h _ (by rw[z,S.n] at e;exact (wHE e).symm)) (λz=>h _ (by rw[z,hp] at e;exact (wHE e).symm)) (λz=>h _ (by rw[z,S.l] at e;exact (wHE e).symm)) (λz=>h _ (by rw[z,S.r] at e;exact (wHE e).symm)) e;exact⟨dx,go _ _ hx (λ_ z=>nomatch z),dI,qs,go _ _ hb (λ_ z=>nomatch z),k _ _ n.2.1.symm n.2.2.1.symm n.2.2.2.1.symm n.2.2.2.2.symm ht,hq,λi a d e1 e2=>go _ _ (hd i a d e1 e2) (λ_ z=>nomatch z)⟩
def zMi {H H2:Hp} {x dx b tl:Addr} (nx:H x=none) (nd:H dx=none) (s:zAi (upd (upd H dx (.own x)) x (.ins t.wAq dx [])) H2) (nb:upd (upd H dx (.own x)) x (.ins t.wAq dx []) b=none) (nt:upd (upd H dx (.own x)) x (.ins t.wAq dx []) tl=none) (B:zAs H2 t.wAj b tl []):zAY (upd H2 x (.ins t.wAq dx [("book",.ref b)])) t x b tl []/\zAi H (upd H2 x (.ins t.wAq dx [("book",.ref b)]))/\H tl=none:=by
 have bx:b≠x:=λz=>by rw[z,zB] at nb;cases nb
 have jZ:tl≠x:=λz=>by rw[z,zB] at nt;cases nt
 have td:tl≠dx:=λz=>by rw[zJ jZ,z,zB] at nt;cases nt
 obtain⟨dI,qs,h1,h2,h3,h4⟩:=B;refine⟨⟨dx,zB,dI,qs,(zJ bx).trans h1,(zJ jZ).trans h2,h3,λi a d e1 e2=>by simp at e2⟩,λa o e=>?_,by rw[zJ jZ,zJ td] at nt;exact nt⟩;have ax:=zM e nx;refine (zJ ax).trans (s _ _ ((zJ ax).trans ((zJ (zM e nd)).trans e)))
inductive sp_law (K:W.Frag) (vs:List V) (H:Hp) (Q:VK) (E:XK):Prop
 | mk (a:Addr) (ns:List Int):vs=[.ref a]->(SqL K H a (ns.map V.int)/\ns.length<=63/\∀H',Q (.bl true) H')->sp_law K vs H Q E
def zPs (T:Txt P w K mg t):FnOk P w K mg base CX0 50 t.wF2 t.wF3 ["_law_script"] (sp_law K):=by
 refine T.wHl.ok zC7 ⟨⟩ ();obtain⟨a,xs,rfl,hS,_,k⟩:=h;refine⟨_,(zD (zAJ 1 zC7.nd (cal (zMb T) hr T.wGS T.wFT T.wGR (zY (pv 0) zF zE zA zI)))
  (zD (zAJ 2 zC7.nd (zIj T.wHf ((zEW T).mono ⋯) hr rfl T.wHd T.wEU .nil zCW))
  (zD (zAJ 3 zC7.nd (zAd (zG (zAd zE) (zAq (zAd zE) (zAd zE) (zAd zE) zE zBg zBg zBg) zBg)))
  (zD (zAW PassesOwn.never rfl (zBu rfl T.wAN (zG zF zE zI)) (zN (i:=4) zC7.nd rfl (Or.inl rfl)) (zD (zAJ 5 zC7.nd (zA8 K (pv 1) (zP zFn zF (pv 4))))
  (zD (zAm (zS zDH (pv 4) (zP zAl (zA8 K (pv 1) zF) zF) (zAc _)) (zH (zAJ 5 zC7.nd zF)) zR)
  (zD (zG5 (cal (zNQ T) hr T.wHb T.wGm T.wHa (zAq (zBZ (zF7 K) (pv 1) (zCu (zP zBj (zP zFn zF (pv 4)) zF)) (zCu (zP zBj (zP zFn zF (pv 4)) zF))) (pv 5) (pv 3) zE zL zA zA)) (zPj rfl (zO (zN (i:=6) zC7.nd rfl (Or.inl rfl)) (zO (zN (i:=7) zC7.nd rfl (Or.inl rfl)) zAA))))
  (zD (zAJ 8 zC7.nd (zEw (pv 2) T.wFs T.wEX ((zEV T).mono ⋯) hr T.wEW .nil zCW (zG (pv 6) zE zA)))
  (zH (zAm (PW.pt (zLQ (zEs (zAM (zU (zHc K) rfl T.wAn wH7 (zY (pv 8) (zNL (v:=.ty "str") rfl T.wAx PyProof.Rows.boot_str rfl) zE zA zA)))) (zIh (zS zNO (pv 8) (pv 7) (zAc _))))) (zH (zX zHD)) zR)))))))
  (zH (zX zHD)))))),?_⟩
 refine⟨_,rfl,a,xs,150,rfl,hS,by decide,by decide,λdl dr H1 eA s1 ed ld db=>?_⟩;have ld':dr.length=150:=by omega
 intro x dx nx iB kS;refine⟨x,dx,rfl,zB,λb tl H2 s2 nb hZ B2=>⟨rfl,?_⟩⟩;obtain⟨D3,s3,nt1⟩:=zMi nx iB s2 nb hZ B2;show zLw _ _ _ [some (.ref a),some (.ref dl),some (.ref x),none,none,none,none,none,none] (upd H2 x (.ins t.wAq dx [("book",.ref b)]));have iS:=s3 _ _ ed;have et3:∃ys,(upd H2 x (.ins t.wAq dx [("book",.ref b)])) tl=some (.lst ys):=let ⟨_,_,_,_,_,h,_⟩:=D3;⟨_,h⟩;generalize upd H2 x (.ins t.wAq dx [("book",.ref b)])=H3 at D3 s3 iS et3 ⊢;clear s2 nb hZ B2 kS iB;refine⟨szl,λn0 h0=>⟨szl,λn1 h1=>⟨szl,λn2 h2=>⟨szl,λn3 h3=>⟨szl,λsl bJ=>?_⟩⟩⟩⟩⟩;show zLw _ _ _ [some (.ref a),some (.ref dl),some (.ref x),some (.ref sl),none,none,none,none,none] _;have q0:=zB (H:=H3) (a:=n0) (o:=.lst []);have q1:=zB (H:=upd H3 n0 (.lst [])) (a:=n1) (o:=.lst []);have q2:=zB (H:=upd (upd H3 n0 (.lst [])) n1 (.lst [])) (a:=n2) (o:=.lst []);have q3:=zB (H:=upd (upd (upd H3 n0 (.lst [])) n1 (.lst [])) n2 (.lst [])) (a:=n3) (o:=.lst []);have q4:=zB (H:=upd (upd (upd (upd H3 n0 (.lst [])) n1 (.lst [])) n2 (.lst [])) n3 (.lst [])) (a:=sl) (o:=.lst [V.ref n0,V.ref n1,V.ref n2,V.ref n3]);have u0:=zC h0 (.lst []);have u1:=zC h1 (.lst []);have u2:=zC h2 (.lst []);have u3:=zC h3 (.lst []);have u4:=zC bJ (.lst [V.ref n0,V.ref n1,V.ref n2,V.ref n3]);have kO:=u1 _ _ q0;have kN:=u2 _ _ kO;have kM:=u3 _ _ kN;have kL:=u2 _ _ q1;have kK:=u3 _ _ kL;have kJ:=u3 _ _ q2;have DF:Df sl n0 n1 n2 n3:=⟨zM q0 h1,zM kO h2,zM kN h3,zM q1 h2,zM kL h3,zM q2 h3,(zM kM bJ).symm,(zM kK bJ).symm,(zM kJ bJ).symm,(zM q3 bJ).symm⟩;have v2:=u0.trans u1;have v3:=v2.trans u2;have v4:=v3.trans u3;have frs:∀z o,H3 z=some o->sl≠z/\n0≠z/\n1≠z/\n2≠z/\n3≠z:=λz o e=>⟨(zM (v4 _ _ e) bJ).symm,(zM e h0).symm,(zM (u0 _ _ e) h1).symm,(zM (v2 _ _ e) h2).symm,(zM (v3 _ _ e) h3).symm⟩;obtain⟨ys,et⟩:=et3;have ft:=frs _ _ et;have fd:=frs _ _ iS;have dt:=zM ed nt1;have v5:=v4.trans u4;have S8:StA (upd (upd (upd (upd (upd H3 n0 (.lst [])) n1 (.lst [])) n2 (.lst [])) n3 (.lst [])) sl (.lst [V.ref n0,V.ref n1,V.ref n2,V.ref n3])) sl n0 n1 n2 n3 [] [] []:=⟨q4,u4 _ _ kM,zAf.nil (u4 _ _ kK),u4 _ _ kJ,u4 _ _ q3⟩;have D8:=D3.same v5;have nu:=v5 _ _ iS;generalize upd (upd (upd (upd (upd H3 n0 (.lst [])) n1 (.lst [])) n2 (.lst [])) n3 (.lst [])) sl (.lst [V.ref n0,V.ref n1,V.ref n2,V.ref n3])=H8 at S8 D8 nu ⊢;clear q0 q1 q2 q3 q4 u0 u1 u2 u3 u4 kO kN kM kL kK kJ v2 v3 v4 v5 frs h0 h1 h2 h3 bJ D3 iS et;have db':∀j:Nat,j < 150->0<=dr.getD j 0/\dr.getD j 0 < 10 ^ 13:=λj hj=>by
  have e:dr.getD j 0=dr[j]' ∅:=by rw[wHw,wHv (show j < dr.length by omega)];rfl
  rw[e];exact db _ (wHZ _)
 refine⟨24,rfl,by decide,by decide,zDc (n:=24) (λi σ' H'=>∃(ds:List Deed) (ns:List Str) (ws:List W5) (v4 v5 v6 v7 v8:Option V),σ'=[some (.ref a),some (.ref dl),some (.ref x),some (.ref sl),v4,v5,v6,v7,v8]/\zAY H' t x b tl ds/\StA H' sl n0 n1 n2 n3 ds ns ws/\Hst ds ns ws/\ds.length<=i/\H' dl=some (.lst (dr.map V.int)))
  ⟨[],[],[],none,none,none,none,none,rfl,D8,S8,.nil,wHA _,nu⟩ ?_ λσ' H' _=>k H'⟩
 clear S8 D8 nu;rintro i σ' H9 hi ⟨ds,ns,ws,v4,v5,v6,v7,v8,rfl,D9,S9,aF,li,ed9⟩;have aK:i < 24:=hi;have Sd:=SqL.of (K:=K) ed9;have at_:∀j:Nat,j < 150->atI (dr.map V.int) ((j:Nat):Int)=some (.int (dr.getD j 0)):=λj hj=>zEG (ns:=dr) (k:=((j:Nat):Int)) ∅ ∅
 have hp:atI (dr.map V.int) (6*(0+(i:Int)))=some (.int (dr.getD (6*i) 0)):=by rw[show (6*(0+(i:Int)))=((6*i:Nat):Int) by omega];exact at_ _ ∅
 have nF:atI (dr.map V.int) 149=some (.int (dr.getD 149 0)):=at_ 149 ⋯
 refine⟨_,rfl,_,rfl,_,_,rfl,rfl,.inl ⟨by decide,by decide⟩,dl,_,_,_,rfl,rfl,Sd,hp,?_⟩;have pb:=db' (6*i) ∅;generalize dr.getD (6*i) 0=p at pb;dsimp only [zKQ,List.set];refine zHy λR hR=>?_;have go:∀p:Int,0<=p->p < 10 ^ 13->R [some (.ref a),some (.ref dl),some (.ref x),some (.ref sl),some (.int (0+(i:Int))),some (.int p),v6,v7,v8] H9:=by
  intro p p0 p1;refine hR _ _ ?_;have mB:=zOw (dr.map V.int) (i:=6*i+1) (j:=6*i+6) (a:=6*(0+(i:Int))+1) (b:=6*(0+(i:Int))+6) ∅ ∅ (by rw[wHt];omega) ∅;refine⟨_,rfl,_,rfl,_,_,rfl,rfl,.inl ⟨by decide,by decide⟩,_,_,rfl,rfl,_,rfl,_,rfl,_,_,rfl,rfl,.inl ⟨by decide,by decide⟩,_,_,rfl,rfl,_,rfl,dl,_,rfl,Sd,λc5 hc5=>?_⟩;show zAx _ _ _ (upd H9 c5 (.lst (zGc (dr.map V.int) (some (6*(0+(i:Int))+1)) (some (6*(0+(i:Int))+6))))) _;rw[mB,← List.map_drop,← List.map_take];have s8:=zC hc5 (.lst (((dr.drop (6*i+1)).take (6*i+6-(6*i+1))).map V.int));have e8:=zB (H:=H9) (a:=c5) (o:=.lst (((dr.drop (6*i+1)).take (6*i+6-(6*i+1))).map V.int));have fb:∀y∈(dr.drop (6*i+1)).take (6*i+6-(6*i+1)),0<=y/\y < 10 ^ 13:=λy hy=>db _ (List.mem_of_mem_drop (List.mem_of_mem_take hy));have l5:((dr.drop (6*i+1)).take (6*i+6-(6*i+1))).length=5:=by rw[wHS,wIu];omega
  generalize (dr.drop (6*i+1)).take (6*i+6-(6*i+1))=fv at s8 e8 fb l5 ⊢;generalize upd H9 c5 (.lst (fv.map V.int))=H10 at s8 e8 ⊢;have S10:=S9.same s8;have D10:=D9.same s8;have n6:=s8 _ _ ed9;refine⟨_,rfl,_,rfl,c5,sl,fv,p,rfl,SqL.of e8,l5,fb,p0,p1,n0,n1,n2,n3,ds,ns,ws,S10,DF,aF,by omega,λr H11 z due ds' aP ws' hr kl S11 eK l' T9 er=>?_⟩;have D11:=D10.kl kl S10 ft;have ny:=kl _ _ fd.2.1.symm fd.2.2.1.symm fd.2.2.2.1.symm fd.2.2.2.2.symm n6;obtain⟨dxx,hx,mI⟩:=id D11;obtain⟨_,_,_,lA,_⟩:=mI;refine⟨r,_,rfl,SqL.of er,rfl,_,_,rfl,_,_,rfl,rfl,?_⟩;refine⟨_,rfl,x,dxx,_,rfl,hx,rfl,_,rfl,T9 H11 _ _ x b tl D11 λH12 kk D12=>?_⟩;have S12:=S11.keep kk ⟨_,lA⟩ ft;have nv:=kk _ _ dt ny;refine⟨_,rfl,_,_,_,_,rfl,.str _,rfl,_,rfl,zBC ?_⟩;refine⟨_,rfl,_,rfl,rfl,_,rfl,zP8 rfl ?_⟩;exact⟨ds',aP,ws',_,_,_,_,_,rfl,D12,S12,eK,by omega,nv⟩
 refine⟨_,rfl,_,rfl,dl,_,149,_,rfl,rfl,Sd,nF,_,_,rfl,rfl,by decide,_,_,rfl,rfl,_,rfl,?_⟩;exact zBD (λ_=>go 0 ⋯ ⋯) λ_=>go p pb.1 pb.2
end
@[elab_as_elim] theorem bnd1 {A:Type} {P:List A->Prop} (us:List A) (hl:us.length=1) (H:∀a0,P [a0]):P us:=by
 match us,hl with
 | [a0],_=>exact H a0
def bd1 {K:W.Frag} {x qual:Str} {st:Stmt} {f:Addr} {fd:FuncData} {ps:List Str} (F:L2.Fun K x qual st f fd) (h:∀(kV doc pm:Value) (an:Option Addr) (cdv ct a0:Value),bindArgs (W.fnOf x qual (zCg st) (zAU st) (zK st) .none kV doc pm an cdv ct) ⟨[a0],[]⟩=pure (ps.zip [a0])) (hp:ps.length=1:=by rfl):L2.zAg K fd ps []:=
 F.binds λkV doc pm an cdv ct us hl=>bnd1 us (hl.trans hp) (h kV doc pm an cdv ct)
@[elab_as_elim] theorem bnd2 {A:Type} {P:List A->Prop} (us:List A) (hl:us.length=2) (H:∀a0 a1,P [a0,a1]):P us:=by
 match us,hl with
 | [a0,a1],_=>exact H a0 a1
def bd2 {K:W.Frag} {x qual:Str} {st:Stmt} {f:Addr} {fd:FuncData} {ps:List Str} (F:L2.Fun K x qual st f fd) (h:∀(kV doc pm:Value) (an:Option Addr) (cdv ct a0 a1:Value),bindArgs (W.fnOf x qual (zCg st) (zAU st) (zK st) .none kV doc pm an cdv ct) ⟨[a0,a1],[]⟩=pure (ps.zip [a0,a1])) (hp:ps.length=2:=by rfl):L2.zAg K fd ps []:=
 F.binds λkV doc pm an cdv ct us hl=>bnd2 us (hl.trans hp) (h kV doc pm an cdv ct)
@[elab_as_elim] theorem bnd3 {A:Type} {P:List A->Prop} (us:List A) (hl:us.length=3) (H:∀a0 a1 a2,P [a0,a1,a2]):P us:=by
 match us,hl with
 | [a0,a1,a2],_=>exact H a0 a1 a2
def bd3 {K:W.Frag} {x qual:Str} {st:Stmt} {f:Addr} {fd:FuncData} {ps:List Str} (F:L2.Fun K x qual st f fd) (h:∀(kV doc pm:Value) (an:Option Addr) (cdv ct a0 a1 a2:Value),bindArgs (W.fnOf x qual (zCg st) (zAU st) (zK st) .none kV doc pm an cdv ct) ⟨[a0,a1,a2],[]⟩=pure (ps.zip [a0,a1,a2])) (hp:ps.length=3:=by rfl):L2.zAg K fd ps []:=
 F.binds λkV doc pm an cdv ct us hl=>bnd3 us (hl.trans hp) (h kV doc pm an cdv ct)
@[elab_as_elim] theorem bnd4 {A:Type} {P:List A->Prop} (us:List A) (hl:us.length=4) (H:∀a0 a1 a2 a3,P [a0,a1,a2,a3]):P us:=by
 match us,hl with
 | [a0,a1,a2,a3],_=>exact H a0 a1 a2 a3
def bd4 {K:W.Frag} {x qual:Str} {st:Stmt} {f:Addr} {fd:FuncData} {ps:List Str} (F:L2.Fun K x qual st f fd) (h:∀(kV doc pm:Value) (an:Option Addr) (cdv ct a0 a1 a2 a3:Value),bindArgs (W.fnOf x qual (zCg st) (zAU st) (zK st) .none kV doc pm an cdv ct) ⟨[a0,a1,a2,a3],[]⟩=pure (ps.zip [a0,a1,a2,a3])) (hp:ps.length=4:=by rfl):L2.zAg K fd ps []:=
 F.binds λkV doc pm an cdv ct us hl=>bnd4 us (hl.trans hp) (h kV doc pm an cdv ct)
@[elab_as_elim] theorem bnd6 {A:Type} {P:List A->Prop} (us:List A) (hl:us.length=6) (H:∀a0 a1 a2 a3 a4 a5,P [a0,a1,a2,a3,a4,a5]):P us:=by
 match us,hl with
 | [a0,a1,a2,a3,a4,a5],_=>exact H a0 a1 a2 a3 a4 a5
def bd6 {K:W.Frag} {x qual:Str} {st:Stmt} {f:Addr} {fd:FuncData} {ps:List Str} (F:L2.Fun K x qual st f fd) (h:∀(kV doc pm:Value) (an:Option Addr) (cdv ct a0 a1 a2 a3 a4 a5:Value),bindArgs (W.fnOf x qual (zCg st) (zAU st) (zK st) .none kV doc pm an cdv ct) ⟨[a0,a1,a2,a3,a4,a5],[]⟩=pure (ps.zip [a0,a1,a2,a3,a4,a5])) (hp:ps.length=6:=by rfl):L2.zAg K fd ps []:=
 F.binds λkV doc pm an cdv ct us hl=>bnd6 us (hl.trans hp) (h kV doc pm an cdv ct)
def zPT {l:PySem.W.OpenLaw} {w:World} {K:W.Frag} {h:Heap} {mg:Str->Option Value} {fa f1 f2 f3 f4 f5 f6 f7 f8 f9 f10 f11 f12 f13 f14 f15 f16 f17 f18 mW mV mU mT mS mR mQ mP mO mM f29 f30 f31 f32 f33 f34 f35 f36 mL mK f39 f40 f41 f42 f43 f44 f45 f46 f47 f48 f49 f50 f51 C0 C1 C2 C3 C4 C5 C6 C7 C8 C9 aJ nK aY cG jX nJ:Addr} (X:K.In h) (G:h.Ns mainGlobals mg) (hfa:mg "law"=some (.ref fa)) (ht:l.prog.given.tree=none)
  {tk0 tk1 tk2 kC tk4 tk5 tk6 tk7 tk8 tk9:Tok}
  (aa:W.nsIn K mainGlobals "CedeError"=some (some (.ref C0)))
  (ab:W.nsIn K mainGlobals "BadName"=some (some (.ref C1)))
  (ac:W.nsIn K mainGlobals "KnownHouse"=some (some (.ref C2)))
  (ad:W.nsIn K mainGlobals "UnknownHouse"=some (some (.ref C3)))
  (ae:W.nsIn K mainGlobals "ToItself"=some (some (.ref C4)))
  (af:W.nsIn K mainGlobals "DaysTurned"=some (some (.ref C5)))
  (ag:W.nsIn K mainGlobals "OutOfRange"=some (some (.ref C6)))
  (ah:W.nsIn K mainGlobals "TooMuch"=some (some (.ref C7)))
  (ai:W.nsIn K mainGlobals "ShutIn"=some (some (.ref C8)))
  (aj:W.nsIn K mainGlobals "Full"=some (some (.ref C9)))
  (ak:W.nsIn K mainGlobals "NothingDone"=some (some (.ref aJ)))
  (al:W.nsIn K mainGlobals "Unclear"=some (some (.ref nK)))
  (am:W.nsIn K mainGlobals "Book"=some (some (.ref aY)))
  (an:W.nsIn K mainGlobals "Desk"=some (some (.ref cG)))
  (ao:W.findIn K (.ref C8) "__init__"=some (some (.ref f1)))
  (ap:W.isFn K (.ref f1)=true)
  (F1:∃fd,Fun K "__init__" "ShutIn.__init__" zBt f1 fd)
  (ar:W.nsIn K mainGlobals "turning_days"=some (some (.ref f2)))
  (F2:∃fd,zA9 K "turning_days" zB4 f2 fd)
  (av:W.nsIn K mainGlobals "holding"=some (some (.ref f3)))
  (F3:∃fd,zA9 K "holding" zEp f3 fd)
  (ax:W.nsIn K mainGlobals "stretches"=some (some (.ref f4)))
  (F4:∃fd,zA9 K "stretches" zCD f4 fd)
  (az:W.nsIn K mainGlobals "check_name"=some (some (.ref f5)))
  (F5:∃fd,zA9 K "check_name" zCo f5 fd)
  (a1:W.nsIn K mainGlobals "check_range"=some (some (.ref f6)))
  (F6:∃fd,zA9 K "check_range" zBT f6 fd)
  (a3:W.nsIn K mainGlobals "check_day"=some (some (.ref f7)))
  (F7:∃fd,zA9 K "check_day" zCF f7 fd)
  (a5:W.nsIn K mainGlobals "check_amount"=some (some (.ref f8)))
  (F8:∃fd,zA9 K "check_amount" zB6 f8 fd)
  (a7:W.nsIn K mainGlobals "place_of"=some (some (.ref f9)))
  (F9:∃fd,zA9 K "place_of" zDp f9 fd)
  (a9:W.nsIn K mainGlobals "kept"=some (some (.ref f10)))
  (jW:∃fd,zA9 K "kept" zJR f10 fd)
  (bb:W.nsIn K mainGlobals "spread"=some (some (.ref f11)))
  (jV:∃fd,zA9 K "spread" zFD f11 fd)
  (bd:W.nsIn K mainGlobals "shut_in"=some (some (.ref f12)))
  (jU:∃fd,zA9 K "shut_in" zEn f12 fd)
  (bf:W.nsIn K mainGlobals "ways_of"=some (some (.ref f13)))
  (jT:∃fd,zA9 K "ways_of" zEm f13 fd)
  (bh:W.nsIn K mainGlobals "ways_on"=some (some (.ref f14)))
  (jS:∃fd,zA9 K "ways_on" zG0 f14 fd)
  (bj:W.nsIn K mainGlobals "looks"=some (some (.ref f15)))
  (jR:∃fd,zA9 K "looks" zH3 f15 fd)
  (bl:W.nsIn K mainGlobals "check_terms"=some (some (.ref f16)))
  (jQ:∃fd,zA9 K "check_terms" zBS f16 fd)
  (bn:W.nsIn K mainGlobals "whom_shut"=some (some (.ref f17)))
  (jP:∃fd,zA9 K "whom_shut" zCC f17 fd)
  (bp:W.nsIn K mainGlobals "deed_row"=some (some (.ref f18)))
  (jO:∃fd,zA9 K "deed_row" zDq f18 fd)
  (br:W.findIn K (.ref aY) "__init__"=some (some (.ref mW)))
  (bs:W.isFn K (.ref mW)=true)
  (hG:∃fd,Fun K "__init__" "Book.__init__" zBY mW fd)
  (bu:W.findIn K (.ref aY) "houses"=some (some (.ref mV)))
  (bv:W.isFn K (.ref mV)=true)
  (gZ:∃fd,Fun K "houses" "Book.houses" zBX mV fd)
  (bx:W.findIn K (.ref aY) "pacts"=some (some (.ref mU)))
  (bz:W.isFn K (.ref mU)=true)
  (gY:∃fd,Fun K "pacts" "Book.pacts" zCp mU fd)
  (b1:W.findIn K (.ref aY) "losses"=some (some (.ref mT)))
  (b2:W.isFn K (.ref mT)=true)
  (gX:∃fd,Fun K "losses" "Book.losses" zBW mT fd)
  (b4:W.findIn K (.ref aY) "deeds"=some (some (.ref mS)))
  (b5:W.isFn K (.ref mS)=true)
  (gW:∃fd,Fun K "deeds" "Book.deeds" zCr mS fd)
  (b7:W.findIn K (.ref aY) "house"=some (some (.ref mR)))
  (b8:W.isFn K (.ref mR)=true)
  (gU:∃fd,Fun K "house" "Book.house" zCq mR fd)
  (ca:W.findIn K (.ref aY) "pact"=some (some (.ref mQ)))
  (cb:W.isFn K (.ref mQ)=true)
  (gT:∃fd,Fun K "pact" "Book.pact" zCG mQ fd)
  (cd:W.findIn K (.ref aY) "loss"=some (some (.ref mP)))
  (ce:W.isFn K (.ref mP)=true)
  (gS:∃fd,Fun K "loss" "Book.loss" zCH mP fd)
  (cg:W.findIn K (.ref aY) "take_back"=some (some (.ref mO)))
  (ch:W.isFn K (.ref mO)=true)
  (gR:∃fd,Fun K "take_back" "Book.take_back" zBm mO fd)
  (cj:W.findIn K (.ref aY) "check_new"=some (some (.ref mM)))
  (ck:W.isFn K (.ref mM)=true)
  (gQ:∃fd,Fun K "check_new" "Book.check_new" zBn mM fd)
  (cm:W.nsIn K mainGlobals "read_number"=some (some (.ref f29)))
  (jN:∃fd,zA9 K "read_number" zBR f29 fd)
  (co:W.nsIn K mainGlobals "read_word"=some (some (.ref f30)))
  (jM:∃fd,zA9 K "read_word" zCE f30 fd)
  (cq:W.nsIn K mainGlobals "parse"=some (some (.ref f31)))
  (jL:∃fd,zA9 K "parse" zH2 f31 fd)
  (cs:W.nsIn K mainGlobals "day_and_names"=some (some (.ref f32)))
  (jK:∃fd,zA9 K "day_and_names" zBs f32 fd)
  (cu:W.nsIn K mainGlobals "refusal_word"=some (some (.ref f33)))
  (jJ:∃fd,zA9 K "refusal_word" zB5 f33 fd)
  (cw:W.nsIn K mainGlobals "do_deed"=some (some (.ref f34)))
  (jI:∃fd,zA9 K "do_deed" zEq f34 fd)
  (cy:W.nsIn K mainGlobals "tell_deeds"=some (some (.ref f35)))
  (jH:∃fd,zA9 K "tell_deeds" zCn f35 fd)
  (c0:W.nsIn K mainGlobals "ask"=some (some (.ref f36)))
  (jG:∃fd,zA9 K "ask" zN7 f36 fd)
  (c2:W.findIn K (.ref cG) "__init__"=some (some (.ref mL)))
  (c3:W.isFn K (.ref mL)=true)
  (gP:∃fd,Fun K "__init__" "Desk.__init__" zBV mL fd)
  (c5:W.findIn K (.ref cG) "answer"=some (some (.ref mK)))
  (c6:W.isFn K (.ref mK)=true)
  (gO:∃fd,Fun K "answer" "Desk.answer" zBU mK fd)
  (c8:W.nsIn K mainGlobals "_law_at"=some (some (.ref f39)))
  (jF:∃fd,zA9 K "_law_at" zQt f39 fd)
  (da:W.nsIn K mainGlobals "_law_draws"=some (some (.ref f40)))
  (jE:∃fd,zA9 K "_law_draws" zH5 f40 fd)
  (dc:W.nsIn K mainGlobals "_law_names"=some (some (.ref f41)))
  (jD:∃fd,zA9 K "_law_names" zEo f41 fd)
  (de:W.nsIn K mainGlobals "_law_pact"=some (some (.ref f42)))
  (jC:∃fd,zA9 K "_law_pact" zJP f42 fd)
  (dg:W.nsIn K mainGlobals "_law_on"=some (some (.ref f43)))
  (jB:∃fd,zA9 K "_law_on" zQs f43 fd)
  (di:W.nsIn K mainGlobals "_law_left"=some (some (.ref f44)))
  (jA:∃fd,zA9 K "_law_left" zJQ f44 fd)
  (dk:W.nsIn K mainGlobals "_law_closed"=some (some (.ref f45)))
  (iZ:∃fd,zA9 K "_law_closed" zFE f45 fd)
  (dm:W.nsIn K mainGlobals "_law_due"=some (some (.ref f46)))
  (iY:∃fd,zA9 K "_law_due" zN6 f46 fd)
  (dp:W.nsIn K mainGlobals "_law_house"=some (some (.ref f47)))
  (iX:∃fd,zA9 K "_law_house" zH4 f47 fd)
  (dr:W.nsIn K mainGlobals "_law_bond"=some (some (.ref f48)))
  (iW:∃fd,zA9 K "_law_bond" zJS f48 fd)
  (dt:W.nsIn K mainGlobals "_law_back"=some (some (.ref f49)))
  (iV:∃fd,zA9 K "_law_back" zJT f49 fd)
  (dv:W.nsIn K mainGlobals "_law_told"=some (some (.ref f50)))
  (iU:∃fd,zA9 K "_law_told" zJO f50 fd)
  (dx:W.nsIn K mainGlobals "law"=some (some (.ref f51)))
  (gN:∃fd,zA9 K "law" zN5 f51 fd)
  (dz:W.plainGet K aY Str.empty=true)
  (d0:W.hasDictIn K aY=true)
  (d1:W.plainOver K aY=true)
  (d2:W.findIn K (.ref aY) "__setattr__"=some (some (.builtin "object.__setattr__")))
  (d3:W.makesIn K aY=true)
  (d4:W.keepIn K (.ref aY)=true)
  (d5:W.findIn K (.ref aY) "told"=some none)
  (d6:W.plainGet K cG Str.empty=true)
  (d7:W.hasDictIn K cG=true)
  (d8:W.plainOver K cG=true)
  (d9:W.findIn K (.ref cG) "__setattr__"=some (some (.builtin "object.__setattr__")))
  (ea:W.makesIn K cG=true)
  (eb:W.keepIn K (.ref cG)=true)
  (ec:W.findIn K (.ref cG) "book"=some none)
  (ed:zEZ K C8 vEr "ValueError.__new__"=true)
  (ee:W.mroIn K C8 (.ref C8)=some true)
  (ef:zQg K C8=true)
  (eg:W.hasDictIn K C8=true)
  (eh:W.findIn K (.ref C8) "__setattr__"=some (some (.builtin "object.__setattr__")))
  (ei:W.findIn K (.ref C8) "day"=some none)
  (ej:W.findIn K (.ref C8) "names"=some none)
  (ek:W.specialIn K (.ref C0) "__getattribute__"=some (some (.builtin "type.__getattribute__")))
  (el:W.readsIn K C0 (.type "type")=true)
  (em:W.findCls K (.ref C0) (.type "type") "__init__"=some (.val (.builtin "ValueError.__init__")))
  (en:W.specialIn K (.builtin "object.__class__") "__get__"=some (some (.builtin "getset_descriptor.__get__")))
  (eo:W.takesIn K (.builtin "object.__class__")=some true)
  (ep:W.excIn K C1 vEr "ValueError.__new__"=true)
  (eq:W.findIn K (.ref C1) "__getattribute__"=some (some (.builtin "BaseException.__getattribute__")))
  (er:W.findIn K (.ref C1) "__getattr__"=some none)
  (es:W.mroIn K C1 (.type "BaseException")=some true)
  (et:(W.clsIn K C1).isSome=true)
  (eu:W.findIn K (.ref C1) "__class__"=some (some (.builtin "object.__class__")))
  (ev:W.mroIn K C1 (.type "object")=some true)
  (ew:W.exmOne K (.ref C1) (.ref C0)=some true)
  (ex:W.kitOne K (.ref C1) (.ref C1)=some true)
  (ey:W.kitOne K (.ref C1) (.ref C2)=some false)
  (ez:W.kitOne K (.ref C1) (.ref C3)=some false)
  (e0:W.kitOne K (.ref C1) (.ref C4)=some false)
  (e1:W.kitOne K (.ref C1) (.ref C5)=some false)
  (e2:W.kitOne K (.ref C1) (.ref C6)=some false)
  (e3:W.kitOne K (.ref C1) (.ref C7)=some false)
  (e4:W.kitOne K (.ref C1) (.ref C8)=some false)
  (e5:W.kitOne K (.ref C1) (.ref C9)=some false)
  (e6:W.kitOne K (.ref C1) (.ref aJ)=some false)
  (e7:W.excIn K C2 vEr "ValueError.__new__"=true)
  (e8:W.findIn K (.ref C2) "__getattribute__"=some (some (.builtin "BaseException.__getattribute__")))
  (e9:W.findIn K (.ref C2) "__getattr__"=some none)
  (ga:W.mroIn K C2 (.type "BaseException")=some true)
  (gb:(W.clsIn K C2).isSome=true)
  (gc:W.findIn K (.ref C2) "__class__"=some (some (.builtin "object.__class__")))
  (gd:W.mroIn K C2 (.type "object")=some true)
  (ge:W.exmOne K (.ref C2) (.ref C0)=some true)
  (gf:W.kitOne K (.ref C2) (.ref C1)=some false)
  (gg:W.kitOne K (.ref C2) (.ref C2)=some true)
  (gh:W.kitOne K (.ref C2) (.ref C3)=some false)
  (gi:W.kitOne K (.ref C2) (.ref C4)=some false)
  (gj:W.kitOne K (.ref C2) (.ref C5)=some false)
  (gk:W.kitOne K (.ref C2) (.ref C6)=some false)
  (gl:W.kitOne K (.ref C2) (.ref C7)=some false)
  (gm:W.kitOne K (.ref C2) (.ref C8)=some false)
  (gn:W.kitOne K (.ref C2) (.ref C9)=some false)
  (go:W.kitOne K (.ref C2) (.ref aJ)=some false)
  (gp:W.excIn K C9 vEr "ValueError.__new__"=true)
  (gq:W.findIn K (.ref C9) "__getattribute__"=some (some (.builtin "BaseException.__getattribute__")))
  (gr:W.findIn K (.ref C9) "__getattr__"=some none)
  (gs:W.mroIn K C9 (.type "BaseException")=some true)
  (gt:(W.clsIn K C9).isSome=true)
  (gu:W.findIn K (.ref C9) "__class__"=some (some (.builtin "object.__class__")))
  (gv:W.mroIn K C9 (.type "object")=some true)
  (gw:W.exmOne K (.ref C9) (.ref C0)=some true)
  (gx:W.kitOne K (.ref C9) (.ref C1)=some false)
  (gy:W.kitOne K (.ref C9) (.ref C2)=some false)
  (gz:W.kitOne K (.ref C9) (.ref C3)=some false)
  (g0:W.kitOne K (.ref C9) (.ref C4)=some false)
  (g1:W.kitOne K (.ref C9) (.ref C5)=some false)
  (g2:W.kitOne K (.ref C9) (.ref C6)=some false)
  (g3:W.kitOne K (.ref C9) (.ref C7)=some false)
  (g4:W.kitOne K (.ref C9) (.ref C8)=some false)
  (g5:W.kitOne K (.ref C9) (.ref C9)=some true)
  (g6:W.kitOne K (.ref C9) (.ref aJ)=some false)
  (g7:W.excIn K C3 vEr "ValueError.__new__"=true)
  (g8:W.findIn K (.ref C3) "__getattribute__"=some (some (.builtin "BaseException.__getattribute__")))
  (g9:W.findIn K (.ref C3) "__getattr__"=some none)
  (ia:W.mroIn K C3 (.type "BaseException")=some true)
  (ib:(W.clsIn K C3).isSome=true)
  (ic:W.findIn K (.ref C3) "__class__"=some (some (.builtin "object.__class__")))
  (id:W.mroIn K C3 (.type "object")=some true)
  (ie:W.exmOne K (.ref C3) (.ref C0)=some true)
  (ig:W.kitOne K (.ref C3) (.ref C1)=some false)
  (ih:W.kitOne K (.ref C3) (.ref C2)=some false)
  (ii:W.kitOne K (.ref C3) (.ref C3)=some true)
  (ij:W.kitOne K (.ref C3) (.ref C4)=some false)
  (ik:W.kitOne K (.ref C3) (.ref C5)=some false)
  (il:W.kitOne K (.ref C3) (.ref C6)=some false)
  (im:W.kitOne K (.ref C3) (.ref C7)=some false)
  (io:W.kitOne K (.ref C3) (.ref C8)=some false)
  (ip:W.kitOne K (.ref C3) (.ref C9)=some false)
  (iq:W.kitOne K (.ref C3) (.ref aJ)=some false)
  (ir:W.excIn K C6 vEr "ValueError.__new__"=true)
  (it:W.findIn K (.ref C6) "__getattribute__"=some (some (.builtin "BaseException.__getattribute__")))
  (iu:W.findIn K (.ref C6) "__getattr__"=some none)
  (iv:W.mroIn K C6 (.type "BaseException")=some true)
  (iw:(W.clsIn K C6).isSome=true)
  (ix:W.findIn K (.ref C6) "__class__"=some (some (.builtin "object.__class__")))
  (iy:W.mroIn K C6 (.type "object")=some true)
  (iz:W.exmOne K (.ref C6) (.ref C0)=some true)
  (i0:W.kitOne K (.ref C6) (.ref C1)=some false)
  (i1:W.kitOne K (.ref C6) (.ref C2)=some false)
  (i2:W.kitOne K (.ref C6) (.ref C3)=some false)
  (i3:W.kitOne K (.ref C6) (.ref C4)=some false)
  (i4:W.kitOne K (.ref C6) (.ref C5)=some false)
  (i5:W.kitOne K (.ref C6) (.ref C6)=some true)
  (i6:W.kitOne K (.ref C6) (.ref C7)=some false)
  (i7:W.kitOne K (.ref C6) (.ref C8)=some false)
  (i8:W.kitOne K (.ref C6) (.ref C9)=some false)
  (i9:W.kitOne K (.ref C6) (.ref aJ)=some false)
  (ja:W.excIn K C4 vEr "ValueError.__new__"=true)
  (jb:W.findIn K (.ref C4) "__getattribute__"=some (some (.builtin "BaseException.__getattribute__")))
  (jc:W.findIn K (.ref C4) "__getattr__"=some none)
  (jd:W.mroIn K C4 (.type "BaseException")=some true)
  (je:(W.clsIn K C4).isSome=true)
  (jf:W.findIn K (.ref C4) "__class__"=some (some (.builtin "object.__class__")))
  (jg:W.mroIn K C4 (.type "object")=some true)
  (jh:W.exmOne K (.ref C4) (.ref C0)=some true)
  (ji:W.kitOne K (.ref C4) (.ref C1)=some false)
  (jj:W.kitOne K (.ref C4) (.ref C2)=some false)
  (jk:W.kitOne K (.ref C4) (.ref C3)=some false)
  (jl:W.kitOne K (.ref C4) (.ref C4)=some true)
  (jm:W.kitOne K (.ref C4) (.ref C5)=some false)
  (jn:W.kitOne K (.ref C4) (.ref C6)=some false)
  (jo:W.kitOne K (.ref C4) (.ref C7)=some false)
  (jp:W.kitOne K (.ref C4) (.ref C8)=some false)
  (jq:W.kitOne K (.ref C4) (.ref C9)=some false)
  (jr:W.kitOne K (.ref C4) (.ref aJ)=some false)
  (js:W.excIn K C5 vEr "ValueError.__new__"=true)
  (jt:W.findIn K (.ref C5) "__getattribute__"=some (some (.builtin "BaseException.__getattribute__")))
  (ju:W.findIn K (.ref C5) "__getattr__"=some none)
  (jv:W.mroIn K C5 (.type "BaseException")=some true)
  (jw:(W.clsIn K C5).isSome=true)
  (jx:W.findIn K (.ref C5) "__class__"=some (some (.builtin "object.__class__")))
  (jy:W.mroIn K C5 (.type "object")=some true)
  (jz:W.exmOne K (.ref C5) (.ref C0)=some true)
  (j0:W.kitOne K (.ref C5) (.ref C1)=some false)
  (j1:W.kitOne K (.ref C5) (.ref C2)=some false)
  (j2:W.kitOne K (.ref C5) (.ref C3)=some false)
  (j3:W.kitOne K (.ref C5) (.ref C4)=some false)
  (j4:W.kitOne K (.ref C5) (.ref C5)=some true)
  (j5:W.kitOne K (.ref C5) (.ref C6)=some false)
  (j6:W.kitOne K (.ref C5) (.ref C7)=some false)
  (j7:W.kitOne K (.ref C5) (.ref C8)=some false)
  (j8:W.kitOne K (.ref C5) (.ref C9)=some false)
  (j9:W.kitOne K (.ref C5) (.ref aJ)=some false)
  (ka:W.excIn K C7 vEr "ValueError.__new__"=true)
  (kb:W.findIn K (.ref C7) "__getattribute__"=some (some (.builtin "BaseException.__getattribute__")))
  (kc:W.findIn K (.ref C7) "__getattr__"=some none)
  (kd:W.mroIn K C7 (.type "BaseException")=some true)
  (ke:(W.clsIn K C7).isSome=true)
  (kf:W.findIn K (.ref C7) "__class__"=some (some (.builtin "object.__class__")))
  (kg:W.mroIn K C7 (.type "object")=some true)
  (kh:W.exmOne K (.ref C7) (.ref C0)=some true)
  (ki:W.kitOne K (.ref C7) (.ref C1)=some false)
  (kj:W.kitOne K (.ref C7) (.ref C2)=some false)
  (kk:W.kitOne K (.ref C7) (.ref C3)=some false)
  (kl:W.kitOne K (.ref C7) (.ref C4)=some false)
  (km:W.kitOne K (.ref C7) (.ref C5)=some false)
  (kn:W.kitOne K (.ref C7) (.ref C6)=some false)
  (ko:W.kitOne K (.ref C7) (.ref C7)=some true)
  (kp:W.kitOne K (.ref C7) (.ref C8)=some false)
  (kq:W.kitOne K (.ref C7) (.ref C9)=some false)
  (kr:W.kitOne K (.ref C7) (.ref aJ)=some false)
  (ks:W.excIn K aJ vEr "ValueError.__new__"=true)
  (kt:W.findIn K (.ref aJ) "__getattribute__"=some (some (.builtin "BaseException.__getattribute__")))
  (ku:W.findIn K (.ref aJ) "__getattr__"=some none)
  (kv:W.mroIn K aJ (.type "BaseException")=some true)
  (kw:(W.clsIn K aJ).isSome=true)
  (kx:W.findIn K (.ref aJ) "__class__"=some (some (.builtin "object.__class__")))
  (ky:W.mroIn K aJ (.type "object")=some true)
  (kz:W.exmOne K (.ref aJ) (.ref C0)=some true)
  (k0:W.kitOne K (.ref aJ) (.ref C1)=some false)
  (k1:W.kitOne K (.ref aJ) (.ref C2)=some false)
  (k2:W.kitOne K (.ref aJ) (.ref C3)=some false)
  (k3:W.kitOne K (.ref aJ) (.ref C4)=some false)
  (k4:W.kitOne K (.ref aJ) (.ref C5)=some false)
  (k5:W.kitOne K (.ref aJ) (.ref C6)=some false)
  (k6:W.kitOne K (.ref aJ) (.ref C7)=some false)
  (k7:W.kitOne K (.ref aJ) (.ref C8)=some false)
  (k8:W.kitOne K (.ref aJ) (.ref C9)=some false)
  (k9:W.kitOne K (.ref aJ) (.ref aJ)=some true)
  (ma:W.excIn K nK vEr "ValueError.__new__"=true)
  (mb:W.findIn K (.ref C8) "__getattribute__"=some (some (.builtin "BaseException.__getattribute__")))
  (mc:W.findIn K (.ref C8) "__getattr__"=some none)
  (md:W.mroIn K C8 (.type "BaseException")=some true)
  (me:(W.clsIn K C8).isSome=true)
  (mf:W.findIn K (.ref C8) "__class__"=some (some (.builtin "object.__class__")))
  (mh:W.mroIn K C8 (.type "object")=some true)
  (mi:W.exmOne K (.ref C8) (.ref C0)=some true)
  (mj:W.kitOne K (.ref C8) (.ref C1)=some false)
  (mk:W.kitOne K (.ref C8) (.ref C2)=some false)
  (ml:W.kitOne K (.ref C8) (.ref C3)=some false)
  (mm:W.kitOne K (.ref C8) (.ref C4)=some false)
  (mn:W.kitOne K (.ref C8) (.ref C5)=some false)
  (mo:W.kitOne K (.ref C8) (.ref C6)=some false)
  (mp:W.kitOne K (.ref C8) (.ref C7)=some false)
  (mq:W.kitOne K (.ref C8) (.ref C8)=some true)
  (mr:W.kitOne K (.ref C8) (.ref C9)=some false)
  (ms:W.kitOne K (.ref C8) (.ref aJ)=some false)
  (mt:W.nsIn K mainGlobals "FORMS"=some (some (.ref jX)))
  (mu:PyProof.Rows.KTD.tabLook (zEa K) (λb=>K.lookup b) jX zBz=true)
  (mv:PyProof.Rows.KTD.hashesOf (λb=>K.lookup b) jX=zBz.map λp=>(PySem.strKind l.prog w).hash p.1)
  (mw:W.nsIn K mainGlobals "NUMBERS"=some (some (.ref nJ)))
  (mx:zEa K zBJ (.ref nJ)=true)
  (my:W.nsIn K mainGlobals "FIGURES"=some (some (.str "0123456789" tk0)))
  (mz:W.nsIn K mainGlobals "LAST_DAY"=some (some (.int 5000 tk1)))
  (m0:W.nsIn K mainGlobals "LETTERS"=some (some (.str "abcdefghijklmnopqrstuvwxyz" tk2)))
  (m1:W.nsIn K mainGlobals "LONGEST_NAME"=some (some (.int 8 kC)))
  (m2:W.nsIn K mainGlobals "MOST_COINS"=some (some (.int 1000000000000 tk4)))
  (m3:W.nsIn K mainGlobals "MOST_FIGURES"=some (some (.int 13 tk5)))
  (m4:W.nsIn K mainGlobals "MOST_HOUSES"=some (some (.int 15 tk6)))
  (m5:W.nsIn K mainGlobals "MOST_LOSSES"=some (some (.int 200 tk7)))
  (m6:W.nsIn K mainGlobals "MOST_PACTS"=some (some (.int 80 tk8)))
  (m7:W.nsIn K mainGlobals "WHOLE"=some (some (.int 1000 tk9)))
  (m8:W.nsIn K mainGlobals "all"=some none)
  (m9:W.nsIn K mainGlobals "enumerate"=some none)
  (na:W.nsIn K mainGlobals "int"=some none)
  (nb:W.nsIn K mainGlobals "isinstance"=some none)
  (nc:W.nsIn K mainGlobals "len"=some none)
  (nd:W.nsIn K mainGlobals "list"=some none)
  (ne:W.nsIn K mainGlobals "max"=some none)
  (nf:W.nsIn K mainGlobals "min"=some none)
  (ng:W.nsIn K mainGlobals "range"=some none)
  (nh:W.nsIn K mainGlobals "set"=some none)
  (ni:W.nsIn K mainGlobals "sorted"=some none)
  (nj:W.nsIn K mainGlobals "str"=some none)
  (nk:W.nsIn K mainGlobals "sum"=some none)
  (nl:W.nsIn K mainGlobals "zip"=some none)
  : ∃fd:FuncData,(∀(s:Shared) (v:Value),BindsTo s fd ⟨[v],[]⟩ [("_law_script",v)])/\∀base:Heap,K.In base->base.Ns mainGlobals mg->FnOk l.prog w K mg base CX0 50 fa fd ["_law_script"] (sp_law K):=by
 have e:=hfa.symm.trans (W.mg_of X G dx);cases e;have ⟨_,F1⟩:=F1;have ⟨_,F2⟩:=F2;have ⟨_,F3⟩:=F3;have ⟨_,F4⟩:=F4;have ⟨_,F5⟩:=F5;have ⟨_,F6⟩:=F6;have ⟨_,F7⟩:=F7;have ⟨_,F8⟩:=F8;have ⟨_,F9⟩:=F9;have ⟨_,jW⟩:=jW;have ⟨_,jV⟩:=jV;have ⟨_,jU⟩:=jU;have ⟨_,jT⟩:=jT;have ⟨_,jS⟩:=jS;have ⟨_,jR⟩:=jR;have ⟨_,jQ⟩:=jQ;have ⟨_,jP⟩:=jP;have ⟨_,jO⟩:=jO;have ⟨_,hG⟩:=hG;have ⟨_,gZ⟩:=gZ;have ⟨_,gY⟩:=gY;have ⟨_,gX⟩:=gX;have ⟨_,gW⟩:=gW;have ⟨_,gU⟩:=gU;have ⟨_,gT⟩:=gT;have ⟨_,gS⟩:=gS;have ⟨_,gR⟩:=gR;have ⟨_,gQ⟩:=gQ;have ⟨_,jN⟩:=jN;have ⟨_,jM⟩:=jM;have ⟨_,jL⟩:=jL;have ⟨_,jK⟩:=jK;have ⟨_,jJ⟩:=jJ;have ⟨_,jI⟩:=jI;have ⟨_,jH⟩:=jH;have ⟨_,jG⟩:=jG;have ⟨_,gP⟩:=gP;have ⟨_,gO⟩:=gO;have ⟨_,jF⟩:=jF;have ⟨_,jE⟩:=jE;have ⟨_,jD⟩:=jD;have ⟨_,jC⟩:=jC;have ⟨_,jB⟩:=jB;have ⟨_,jA⟩:=jA;have ⟨_,iZ⟩:=iZ;have ⟨_,iY⟩:=iY;have ⟨_,iX⟩:=iX;have ⟨_,iW⟩:=iW;have ⟨_,iV⟩:=iV;have ⟨_,iU⟩:=iU;have ⟨_,gN⟩:=gN;obtain⟨_,_,_,_,_,_,_,_,_,rfl,_,_⟩:=gN.ex;have M {x:Str} {v:Value} (h:W.nsIn K mainGlobals x=some (some v)):=W.mg_of X G h;have Z {x:Str} (h:W.nsIn K mainGlobals x=some none):=W.mg_none_of X G h;have T:Txt l.prog w K mg ⟨_,_,_,_,_,_,_,_,_,_,_,_,_,_,_,_,_,_,_,_,_,_,_,_,_,_,_,_,_,_,_,_,_,_,_,_,_,_,_,_,_,_,_,_,_,_,_,_,_,_,_,_,_,_,_,_,_,_,_,_,_,_,_,_,_,_,_,_,_,_,_,_,_,_,_,_,_,_,_,_,_,_,_,_,_,_,_,_,_,_,_,_,_,_,_,_,_,_,_,_,_,_,C0,C1,C2,C3,C4,C5,C6,C7,C8,C9,aJ,nK,aY,cG,jX,nJ⟩:=⟨ht,F1,bd3 F1 (λ_ _ _ _ _ _ _ _ _=>rfl),⟨ao,ap,F1.kp⟩,F2,bd1 F2 (λ_ _ _ _ _ _ _=>rfl),M ar,F3,bd2 F3 (λ_ _ _ _ _ _ _ _=>rfl),M av,F4,bd1 F4 (λ_ _ _ _ _ _ _=>rfl),M ax,F5,bd1 F5 (λ_ _ _ _ _ _ _=>rfl),M az,F6,bd3 F6 (λ_ _ _ _ _ _ _ _ _=>rfl),M a1,F7,bd1 F7 (λ_ _ _ _ _ _ _=>rfl),M a3,F8,bd1 F8 (λ_ _ _ _ _ _ _=>rfl),M a5,F9,bd2 F9 (λ_ _ _ _ _ _ _ _=>rfl),M a7,jW,bd2 jW (λ_ _ _ _ _ _ _ _=>rfl),M a9,jV,bd2 jV (λ_ _ _ _ _ _ _ _=>rfl),M bb,jU,bd2 jU (λ_ _ _ _ _ _ _ _=>rfl),M bd,jT,bd2 jT (λ_ _ _ _ _ _ _ _=>rfl),M bf,jS,bd3 jS (λ_ _ _ _ _ _ _ _ _=>rfl),M bh,jR,bd2 jR (λ_ _ _ _ _ _ _ _=>rfl),M bj,jQ,bd6 jQ (λ_ _ _ _ _ _ _ _ _ _ _ _=>rfl),M bl,jP,bd3 jP (λ_ _ _ _ _ _ _ _ _=>rfl),M bn,jO,bd1 jO (λ_ _ _ _ _ _ _=>rfl),M bp,hG,bd1 hG (λ_ _ _ _ _ _ _=>rfl),⟨br,bs,hG.kp⟩,gZ,bd1 gZ (λ_ _ _ _ _ _ _=>rfl),⟨bu,bv,gZ.kp⟩,gY,bd1 gY (λ_ _ _ _ _ _ _=>rfl),⟨bx,bz,gY.kp⟩,gX,bd1 gX (λ_ _ _ _ _ _ _=>rfl),⟨b1,b2,gX.kp⟩,gW,bd1 gW (λ_ _ _ _ _ _ _=>rfl),⟨b4,b5,gW.kp⟩,gU,bd2 gU (λ_ _ _ _ _ _ _ _=>rfl),⟨b7,b8,gU.kp⟩,gT,bd6 gT (λ_ _ _ _ _ _ _ _ _ _ _ _=>rfl),⟨ca,cb,gT.kp⟩,gS,bd4 gS (λ_ _ _ _ _ _ _ _ _ _=>rfl),⟨cd,ce,gS.kp⟩,gR,bd1 gR (λ_ _ _ _ _ _ _=>rfl),⟨cg,ch,gR.kp⟩,gQ,bd2 gQ (λ_ _ _ _ _ _ _ _=>rfl),⟨cj,ck,gQ.kp⟩,jN,bd1 jN (λ_ _ _ _ _ _ _=>rfl),M cm,jM,bd2 jM (λ_ _ _ _ _ _ _ _=>rfl),M co,jL,bd1 jL (λ_ _ _ _ _ _ _=>rfl),M cq,jK,bd2 jK (λ_ _ _ _ _ _ _ _=>rfl),M cs,jJ,bd1 jJ (λ_ _ _ _ _ _ _=>rfl),M cu,jI,bd2 jI (λ_ _ _ _ _ _ _ _=>rfl),M cw,jH,bd1 jH (λ_ _ _ _ _ _ _=>rfl),M cy,jG,bd2 jG (λ_ _ _ _ _ _ _ _=>rfl),M c0,gP,bd1 gP (λ_ _ _ _ _ _ _=>rfl),⟨c2,c3,gP.kp⟩,gO,bd2 gO (λ_ _ _ _ _ _ _ _=>rfl),⟨c5,c6,gO.kp⟩,jF,bd2 jF (λ_ _ _ _ _ _ _ _=>rfl),M c8,jE,bd2 jE (λ_ _ _ _ _ _ _ _=>rfl),M da,jD,bd2 jD (λ_ _ _ _ _ _ _ _=>rfl),M dc,jC,bd3 jC (λ_ _ _ _ _ _ _ _ _=>rfl),M de,jB,bd2 jB (λ_ _ _ _ _ _ _ _=>rfl),M dg,jA,bd2 jA (λ_ _ _ _ _ _ _ _=>rfl),M di,iZ,bd2 iZ (λ_ _ _ _ _ _ _ _=>rfl),M dk,iY,bd3 iY (λ_ _ _ _ _ _ _ _ _=>rfl),M dm,iX,bd2 iX (λ_ _ _ _ _ _ _ _=>rfl),M dp,iW,bd2 iW (λ_ _ _ _ _ _ _ _=>rfl),M dr,iV,bd1 iV (λ_ _ _ _ _ _ _=>rfl),M dt,iU,bd3 iU (λ_ _ _ _ _ _ _ _ _=>rfl),M dv,gN,bd1 gN (λ_ _ _ _ _ _ _=>rfl),M dx,M aa,M ab,M ac,M ad,M ae,M af,M ag,M ah,M ai,M aj,M ak,M al,M am,M an,⟨dz,d0,d1,d2⟩,⟨d3,br,bs,d4⟩,d5,⟨d6,d7,d8,d9⟩,⟨ea,c2,c3,eb⟩,ec,⟨ed,ao,ap,ee⟩,⟨ef,eg,eh,ei⟩,⟨ef,eg,eh,ej⟩,⟨ek,el,em⟩,ep,⟨eq,er,es,et,eu,en,eo,ev⟩,ew,ex,ey,ez,e0,e1,e2,e3,e4,e5,e6,e7,⟨e8,e9,ga,gb,gc,en,eo,gd⟩,ge,gf,gg,gh,gi,gj,gk,gl,gm,gn,go,gp,⟨gq,gr,gs,gt,gu,en,eo,gv⟩,gw,gx,gy,gz,g0,g1,g2,g3,g4,g5,g6,g7,⟨g8,g9,ia,ib,ic,en,eo,id⟩,ie,ig,ih,ii,ij,ik,il,im,io,ip,iq,ir,⟨it,iu,iv,iw,ix,en,eo,iy⟩,iz,i0,i1,i2,i3,i4,i5,i6,i7,i8,i9,ja,⟨jb,jc,jd,je,jf,en,eo,jg⟩,jh,ji,jj,jk,jl,jm,jn,jo,jp,jq,jr,js,⟨jt,ju,jv,jw,jx,en,eo,jy⟩,jz,j0,j1,j2,j3,j4,j5,j6,j7,j8,j9,ka,⟨kb,kc,kd,ke,kf,en,eo,kg⟩,kh,ki,kj,kk,kl,km,kn,ko,kp,kq,kr,ks,⟨kt,ku,kv,kw,kx,en,eo,ky⟩,kz,k0,k1,k2,k3,k4,k5,k6,k7,k8,k9,ma,⟨mb,mc,md,me,mf,en,eo,mh⟩,mi,mj,mk,ml,mm,mn,mo,mp,mq,mr,ms,M mt,zKD _ _ mu (by nofun) mv,M mw,zJ6 mx,⟨_,M my⟩,⟨_,M mz⟩,⟨_,M m0⟩,⟨_,M m1⟩,⟨_,M m2⟩,⟨_,M m3⟩,⟨_,M m4⟩,⟨_,M m5⟩,⟨_,M m6⟩,⟨_,M m7⟩,Z m8,Z m9,Z na,Z nb,Z nc,Z nd,Z ne,Z nf,Z ng,Z nh,Z ni,Z nj,Z nk,Z nl⟩;exact⟨_,λs v=>.of_eq rfl,λbase _ _=>zPs T⟩
def zO9 {l:PySem.W.OpenLaw} {q:Program} {loose:List Str} {XP:(Str->Option Value)->Heap->Prop} {YP:World->Heap->Prop} {d:DefRec} {K:Params->W.Frag} (hn:l.most=some 63) (gE:d.params.defaults=[]) (hq:PyProof.Rows.importsNone q=true)
  (hY:∀(w:World) (h:Heap),YP w h->(K w.params).In h)
  (F:∀(w:World) (mg:Str->Option Value) (fa:Addr) (h:Heap),(K w.params).In h->h.Ns mainGlobals mg->mg d.name=some (.ref fa)->
   ∃fd:FuncData,(∀(s:Shared) (u:Value),BindsTo s fd ⟨[u],[]⟩ [("_law_script",u)])/\∀base:Heap,(K w.params).In base->base.Ns mainGlobals mg->FnOk l.prog w (K w.params) mg base CX0 50 fa fd ["_law_script"] (sp_law (K w.params))) :
  PySem.W.WalkO q loose XP YP l.row.toRowW d [] (λf vs=>PySem.call f vs):=
 L2.zNm (n:=63) (k:=50) (x:="_law_script") (CX:=λ_=>CX0) (sp:=λw=>sp_law (K w.params)) hn ⋯ gE hq ⟨rfl,by decide,by decide⟩ hY F (λ_ _ a ns hl _ hS=>⟨a,ns,rfl,hS,hl,λ_=>rfl⟩) λ_ _ _ _ _ z=>z
end Pf
open PySem PySem.W PyProof.Rows
set_option maxRecDepth 100000 in
set_option maxHeartbeats 0 in
theorem PySem.Challenge.cw_roundcede_k29_desk_deeds_holds : PySem.Challenge.rw_roundcede_k29_desk_deeds.Holds := by
 w_on;refine holds_law Hp.wl λsaid=>?_;refine holds_open (q:=Hp.vw) (loose:=Hp.ls) (Xt:=Hp.xt) (XP:=XL Hp.vw []) (Yf:=Hook.obs (kHook Hp.zO0.heap_1 Hp.ka Hp.ke)) (Ya:=Hook.val (kHook Hp.zO0.heap_1 Hp.ka Hp.ke)) (YP:=Hook.says (kHook Hp.zO0.heap_1 Hp.ka Hp.ke)) (N:=11788) ?hl (Hook.of (kHook Hp.zO0.heap_1 Hp.ka Hp.ke)) (Hook.keeps (kHook Hp.zO0.heap_1 Hp.ka Hp.ke)) (λs e=>xl_of s (Bool.and_eq_true_iff.mp e).1) XL.keeps (by rfl) (by rfl) (by rfl) (λs e=>recFacts_of (Bool.and_eq_true_iff.mp e).2) (by rfl) (by first | assumption | decide +kernel) (by decide +kernel) ⟨rfl,rfl,rfl,rfl,rfl,by decide +kernel⟩ ?hw ?hc
 (case hw=>w_witness2)
 (case hl=>refine λw=>Hp.zMm (Hp.hp0 w) ?_;exact Hp.hp3 w)
 k_fill
 refine Pf.zO9 (l:=PySem.Challenge.rw_roundcede_k29_desk_deeds) rfl rfl (by first | rfl | decide +kernel) (λw h Y=>PySem.W.kIn_of Y) ?F
 case F=>
  intro w mg fa h KX G hmg
  refine' Pf.zPT KX G hmg rfl ?aa ?ab ?ac ?ad ?ae ?af ?ag ?ah ?ai ?aj ?ak ?al ?am ?an ?ao ?ap ?aq ?ar ?au ?av ?aw ?ax ?ay ?az ?a0 ?a1 ?a2 ?a3 ?a4 ?a5 ?a6 ?a7 ?a8 ?a9 ?ba ?bb ?bc ?bd ?be ?bf ?bg ?bh ?bi ?bj ?bk ?bl ?bm ?bn ?bo ?bp ?bq ?br ?bs ?bt ?bu ?bv ?bw ?bx ?bz ?b0 ?b1 ?b2 ?b3 ?b4 ?b5 ?b6 ?b7 ?b8 ?b9 ?ca ?cb ?cc ?cd ?ce ?cf ?cg ?ch ?ci ?cj ?ck ?cl ?cm ?cn ?co ?cp ?cq ?cr ?cs ?ct ?cu ?cv ?cw ?cx ?cy ?cz ?c0 ?c1 ?c2 ?c3 ?c4 ?c5 ?c6 ?c7 ?c8 ?c9 ?da ?db ?dc ?dd ?de ?df ?dg ?dh ?di ?dj ?dk ?dl ?dm ?dn ?dp ?dq ?dr ?ds ?dt ?du ?dv ?dw ?dx ?dy ?dz ?d0 ?d1 ?d2 ?d3 ?d4 ?d5 ?d6 ?d7 ?d8 ?d9 ?ea ?eb ?ec ?ed ?ee ?ef ?eg ?eh ?ei ?ej ?ek ?el ?em ?en ?eo ?ep ?eq ?er ?es ?et ?eu ?ev ?ew ?ex ?ey ?ez ?e0 ?e1 ?e2 ?e3 ?e4 ?e5 ?e6 ?e7 ?e8 ?e9 ?ga ?gb ?gc ?gd ?ge ?gf ?gg ?gh ?gi ?gj ?gk ?gl ?gm ?gn ?go ?gp ?gq ?gr ?gs ?gt ?gu ?gv ?gw ?gx ?gy ?gz ?g0 ?g1 ?g2 ?g3 ?g4 ?g5 ?g6 ?g7 ?g8 ?g9 ?ia ?ib ?ic ?id ?ie ?ig ?ih ?ii ?ij ?ik ?il ?im ?io ?ip ?iq ?ir ?it ?iu ?iv ?iw ?ix ?iy ?iz ?i0 ?i1 ?i2 ?i3 ?i4 ?i5 ?i6 ?i7 ?i8 ?i9 ?ja ?jb ?jc ?jd ?je ?jf ?jg ?jh ?ji ?jj ?jk ?jl ?jm ?jn ?jo ?jp ?jq ?jr ?js ?jt ?ju ?jv ?jw ?jx ?jy ?jz ?j0 ?j1 ?j2 ?j3 ?j4 ?j5 ?j6 ?j7 ?j8 ?j9 ?ka ?kb ?kc ?kd ?ke ?kf ?kg ?kh ?ki ?kj ?kk ?kl ?km ?kn ?ko ?kp ?kq ?kr ?ks ?kt ?ku ?kv ?kw ?kx ?ky ?kz ?k0 ?k1 ?k2 ?k3 ?k4 ?k5 ?k6 ?k7 ?k8 ?k9 ?ma ?mb ?mc ?md ?me ?mf ?mh ?mi ?mj ?mk ?ml ?mm ?mn ?mo ?mp ?mq ?mr ?ms ?mt ?mu ?mv ?mw ?mx ?my ?mz ?m0 ?m1 ?m2 ?m3 ?m4 ?m5 ?m6 ?m7 ?m8 ?m9 ?na ?nb ?nc ?nd ?ne ?nf ?ng ?nh ?ni ?nj ?nk ?nl
  (case aa | ab | ac | ad | ae | af | ag | ah | ai | aj | ak | al | am | an | ao | ap | ar | av | ax | az | a1 | a3 | a5 | a7 | a9 | bb | bd | bf | bh | bj | bl | bn | bp | br | bs | bu | bv | bx | bz | b1 | b2 | b4 | b5 | b7 | b8 | ca | cb | cd | ce | cg | ch | cj | ck | cm | co | cq | cs | cu | cw | cy | c0 | c2 | c3 | c5 | c6 | c8 | da | dc | de | dg | di | dk | dm | dp | dr | dt | dv | dx | dz | d0 | d1=>k_is)
  (case d2 | d3 | d4 | d5 | d6 | d7 | d8 | d9 | ea | eb | ec | mt | mw | my | mz | m0 | m1 | m2 | m3 | m4 | m5 | m6 | m7 | m8 | m9 | na | nb | nc | nd | ne | nf | ng | nh | ni | nj | nk | nl=>k_is)
  (case aq | au | aw | ay | a0 | a2 | a4 | a6 | a8 | ba | bc | be | bg | bi | bk | bm | bo | bq | bt | bw | b0 | b3 | b6 | b9 | cc | cf | ci | cl | cn | cp | cr | ct | cv | cx | cz | c1 | c4 | c7 | c9 | db | dd | df | dh | dj | dl | dn | dq | ds | du | dw | dy=>(refine' ⟨_,L2.zPI ?l ?c ?k⟩;(case l=>k_is);(case c=>k_is);(case k=>k_is)))
  (case ed | ee | ef | eg | eh | ei | ej | ek | el | em | en | eo=>kernel_rfl)
  (case ep=>first | k_exc | k_is | rfl | kernel_rfl)
  (case eq | er | es | et | eu | ev | ew | ex | ey | ez | e0 | e1 | e2 | e3 | e4 | e5 | e6=>kernel_rfl)
  (case e7=>first | k_exc | k_is | rfl | kernel_rfl)
  (case e8 | e9 | ga | gb | gc | gd | ge | gf | gg | gh | gi | gj | gk | gl | gm | gn | go=>kernel_rfl)
  (case gp=>first | k_exc | k_is | rfl | kernel_rfl)
  (case gq | gr | gs | gt | gu | gv | gw | gx | gy | gz | g0 | g1 | g2 | g3 | g4 | g5 | g6=>kernel_rfl)
  (case g7=>first | k_exc | k_is | rfl | kernel_rfl)
  (case g8 | g9 | ia | ib | ic | id | ie | ig | ih | ii | ij | ik | il | im | io | ip | iq=>kernel_rfl)
  (case ir=>first | k_exc | k_is | rfl | kernel_rfl)
  (case it | iu | iv | iw | ix | iy | iz | i0 | i1 | i2 | i3 | i4 | i5 | i6 | i7 | i8 | i9=>kernel_rfl)
  (case ja=>first | k_exc | k_is | rfl | kernel_rfl)
  (case jb | jc | jd | je | jf | jg | jh | ji | jj | jk | jl | jm | jn | jo | jp | jq | jr=>kernel_rfl)
  (case js=>first | k_exc | k_is | rfl | kernel_rfl)
  (case jt | ju | jv | jw | jx | jy | jz | j0 | j1 | j2 | j3 | j4 | j5 | j6 | j7 | j8 | j9=>kernel_rfl)
  (case ka=>first | k_exc | k_is | rfl | kernel_rfl)
  (case kb | kc | kd | ke | kf | kg | kh | ki | kj | kk | kl | km | kn | ko | kp | kq | kr=>kernel_rfl)
  (case ks=>first | k_exc | k_is | rfl | kernel_rfl)
  (case kt | ku | kv | kw | kx | ky | kz | k0 | k1 | k2 | k3 | k4 | k5 | k6 | k7 | k8 | k9=>kernel_rfl)
  (case ma=>first | k_exc | k_is | rfl | kernel_rfl)
  (case mb | mc | md | me | mf | mh | mi | mj | mk | ml | mm | mn | mo | mp | mq | mr | ms | mu | mv | mx=>kernel_rfl)
