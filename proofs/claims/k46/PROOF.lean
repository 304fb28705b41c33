import PyProof.Rows.All
import Wide.All
import OpenK.AllK
import Wide.FinOn
import Lean
import PyProof.EqAt
import PyProof.EqKinds
import PyProof.TupleCall
import PySem.Challenge.RW_roundcede_k46_whole_large_books
set_option Elab.async false
set_option linter.all false
set_option maxRecDepth 100000
local macro_rules
 | `(term|∅)=>`(by omega)
local macro_rules
 | `(term|⋯)=>`(by decide)
local macro_rules
 | `(tactic|nofun)=>`(tactic|decide +kernel)
local macro_rules
 | `(tactic|and_intros)=>`(tactic|exact ⟨rfl,rfl,rfl,by decide +kernel,rfl,by decide +kernel,by decide +kernel⟩)
local macro_rules
 | `(term|⟨⟩)=>`(by intro _ _ _ _ h;cases h;subst_vars;rfl)
set_option hygiene false in
local macro_rules
 | `(term|())=>`(fun cdv A outer s H vs Q E hr h=>?_)
abbrev wHe:=@PySem.wpAny_bind
abbrev wHf:=@List.length_map
abbrev wHg:=@List.getElem?_eq_getElem
abbrev wHh:=@List.getD_eq_getElem?_getD
abbrev wHi:=@PySem.Heap.get?_push_of_some
abbrev wHj:=@if_neg
abbrev wHk:=@PySem.wpAny_pure
abbrev wHl:=@if_pos
abbrev wHm:=@Nat.le_refl
abbrev wHn:=@List.getElem?_map
abbrev wHo:=@Option.some.inj
abbrev wHp:=@List.length_append
abbrev wHq:=@PySem.Heap.lt_size
abbrev wHr:=@List.map_append
abbrev wHs:=@PySem.Heap.get?_push_size
abbrev wHt:=@PyProof.Rows.boot_isinstance
abbrev wHu:=@Nat.ne_of_lt
abbrev wHv:=@Nat.le_trans
abbrev wHw:=@of_decide_eq_true
abbrev wHx:=@Bool.false_ne_true
abbrev wHy:=@Nat.lt_of_lt_of_le
abbrev wHz:=@List.size_toArray
abbrev wHA:=@Nat.not_lt_zero
abbrev wHB:=@PySem.boot_len
abbrev wHC:=@List.getElem?_append_right
abbrev wHD:=@List.length_take
abbrev wHE:=@List.getElem?_append_left
abbrev wHF:=@List.getElem_mem
abbrev wHG:=@PySem.Heap.get?_update_other
abbrev wHH:=@PySem.wpAny_mono
abbrev wHI:=@List.mem_append_right
abbrev wHJ:=@decide_eq_false
abbrev wHK:=@Nat.lt_of_le_of_lt
abbrev wHL:=@List.take_length
abbrev wHM:=@decide_eq_true
abbrev wHN:=@Bool.and_eq_true
abbrev wHO:=@List.mem_of_getElem?
abbrev wHP:=@List.mem_cons_of_mem
abbrev wHQ:=@Nat.zero_le
abbrev wHR:=@List.append_nil
abbrev wHS:=@Int.toNat_natCast
abbrev wHT:=@of_decide_eq_false
abbrev wHU:=@List.append_assoc
abbrev wHV:=@PySem.F.plainAttrs_list
abbrev wHW:=@Classical.byContradiction
abbrev wHX:=@False.elim
abbrev wHY:=@List.take_succ
abbrev wHZ:=@PySem.wpAny_holding
abbrev wH0:=@PySem.wpAny_newObj_type
abbrev wH1:=@Int.mul_comm
abbrev wH2:=@PySem.F.slot_list_append
abbrev wH3:=@Array.length_toList
abbrev wH4:=@List.not_mem_nil
abbrev wH5:=@List.mem_cons_self
abbrev wH6:=@PySem.F.type_list_append
abbrev wH7:=@List.length_singleton
abbrev wH8:=@List.getElem?_eq_none
abbrev wH9:=@Array.getElem?_eq_getElem
abbrev wIa:=@PySem.Heap.size_push
abbrev wIb:=@PySem.Heap.get?_update_self
abbrev wIc:=@List.replicate_succ
abbrev wId:=@List.mem_cons
abbrev wIe:=@List.length_cons
abbrev wIf:=@Nat.lt_succ_of_lt
abbrev wIg:=@List.map_cons
abbrev wIh:=@Nat.lt_succ_self
abbrev wIi:=@Int.le_refl
abbrev wIj:=@List.length_drop
abbrev wIk:=@List.take_of_length_le
abbrev wIl:=@List.length_range
abbrev wIm:=@Nat.le_of_lt
abbrev wIn:=@Int.le_of_lt
abbrev wIo:=@Array.toList_append
abbrev wIp:=@List.length_replicate
abbrev wIq:=@List.length_filter_le
abbrev wIr:=@Array.getElem?_toList
abbrev wIs:=@Int.natAbs_mul
abbrev wIt:=@List.flatten_cons
abbrev wIu:=@PySem.wpAny_field
abbrev wIv:=@Int.mul_pos
abbrev wIw:=@PySem.Heap.get?_none_of_le
abbrev wIx:=@Nat.le_of_eq
def wIy {α:Type _} {l:List α} {i:Nat} {a:α} (h:l[i]?=some a):∃h:i < l.length,l[i]=a:=List.getElem?_eq_some_iff.mp h
def wIz {α:Type _} {a b:α} (h:a∈[b]):a=b:=List.mem_singleton.mp h
def wIA {α β:Type _} {o:Option α} {f:α->β} {b:β} (h:o.map f=some b):∃a,o=some a/\f a=b:=Option.map_eq_some_iff.mp h
def wIB {b:Bool} (h:b≠true):b=false:=Bool.eq_false_iff.mpr h
def wIC {α:Type _} {a:α} {s t:List α} (h:a∈s++t):a∈s∨a∈t:=List.mem_append.mp h
def wID {α:Type _} {a b:α} {l:List α} (h:a∈b::l):a=b∨a∈l:=List.mem_cons.mp h
namespace Hp
open PySem PySem.W PyProof.Rows
def zO2 {α β γ:Type} {o:Option α} {f:α->β} {g:α->γ} {b:β} {c:γ} (h1:o.map f=some b) (h2:o.map g=some c):o.map (λs=>(f s,g s))=some (b,c):=by
 cases o with
 | none=>cases h1
 | some s=>rw[Option.map_some] at h1 h2 ⊢;rw[wHo h1,wHo h2]
theorem zM3 {α β γ:Type} {o:Option α} {F:α->β × γ} {G:β × γ} (h1:o.map (λs=>(F s).1)=some G.1) (h2:o.map (λs=>(F s).2)=some G.2):o.map F=some G:=zO2 h1 h2
noncomputable def zFN (tb:String->Option Builtin) (p:Program) (w:World) (n₀:Nat) (ann:Option Value):Nat->SharedT->Thread->Option SharedT
 | 0,_,_=>none
 | n+1,s,t=>match through t with
  | true=>some s
  | false=>match Fast.tw6613529449190102663 n₀ ann t with
   | false=>none
   | true=>match Fast.tw10156331382660048174 (Fast.tw11892475500146522536 tb) p w s t with
    | some (s',t')=>zFN tb p w n₀ ann n s' t'
    | none=>none
theorem zF1 {tb:String->Option Builtin} {p:Program} {w:World} {n₀:Nat} {ann:Option Value}:∀(n:Nat) (s:SharedT) (t:Thread) (s':SharedT),zFN tb p w n₀ ann n s t=some s'->topRun tb p w n₀ ann n s.abs t=some s'.abs
 | 0,s,t,s',h=>by cases h
 | n+1,s,t,s',h=>by
  unfold zFN at h;rw[topRun.eq_2];cases e1:through t with
  | true=>rw[e1] at h;cases h;rfl
  | false=>
   rw[e1] at h;rw[← Fast.te6613529449190102663] at h;cases e2:stepOk n₀ ann t with
   | false=>rw[e2] at h;cases h
   | true=>
    rw[e2] at h;rw[← Fast.te10156331382660048174,← Fast.te11892475500146522536] at h;cases e3:stepT (denote tb) p w s t with
    | none=>rw[e3] at h;cases h
    | some st=>
     obtain⟨s1,t1⟩:=st;rw[e3] at h;have e4:=stepT_spec e3;show (match step (denote tb) p w s.abs t with | .go s' t'=>topRun tb p w n₀ ann n s' t' | .halt _ _=>none)=_;rw[e4];exact zF1 n s1 t1 s' h
def zNj:List Obj->Nat->BT->BT
 | [],_,t=>t
 | o::r,i,t=>zNj r (i+1) (t.ins i o)
noncomputable def T0 (P:Params):BT:=zNj (boot_heap P).objs.toList 0 .nil
def zRl (P:Params):absHeap (T0 P) 11 (boot_heap P).life=boot_heap P:=by kernel_rfl
noncomputable def sT (P:Params) (os:OsState):SharedT:=⟨T0 P,11,(boot_heap P).life,Array.mk [],boot_drawn,boot_toks,os⟩
def zPz (P:Params) (os:OsState):(sT P os).abs=⟨boot_heap P,Array.mk [],boot_drawn,boot_toks,os⟩:=by unfold SharedT.abs sT;rw[zRl]
theorem zLp {p:Program} {N:Nat} (e:opening p=plainProg p.main.scope.names) (hN:Nat.ble 600 N=true) (hf:∀s,fenceModules? p s=some s) {β:Type} {f:Shared->β} {v:β} (w:World)
  (h:∀os:OsState,(zFN Fast.tw14364793385576792824 p w 11 ((boot_heap w.params).nsMap mainGlobals (Str.ofString "__annotations__")) N (sT w.params os) (topStub p)).map (λs=>(staticsOk (importedModules p.main.body) (boot_heap w.params) s.abs.heap && namesBound p s.abs.heap && gensDone s.abs && laidKept (boot_heap w.params) s.abs.heap,f s.abs))=some (true,v)):(openEnds treeTable p w N).map f=some v:=by
 obtain⟨s,hs,hv⟩:=wIA (boot_open e hN hf w);unfold openEnds;rw[hs];obtain⟨hh,gs,d,k,os⟩:=s;simp only[Prod.mk.injEq] at hv;obtain⟨rfl,rfl,rfl,rfl⟩:=hv;obtain⟨s1,h1,h2⟩:=wIA (h os);rw[← Fast.te14364793385576792824] at h1;have h3:=zF1 _ _ _ _ h1;rw[zPz] at h3;simp only[Prod.mk.injEq] at h2;obtain⟨h4,h5⟩:=h2;show (topFrom treeTable p w N _).map f=some v;unfold topFrom;have e1:((⟨boot_heap w.params,Array.mk [],boot_drawn,boot_toks,os⟩:Shared).heap.isNs mainGlobals && (⟨boot_heap w.params,Array.mk [],boot_drawn,boot_toks,os⟩:Shared).gens.size == 0)=true:=by kernel_rfl
 rw[e1];show Option.map f ((topRun treeTable p w (boot_heap w.params).objs.size ((boot_heap w.params).nsMap mainGlobals (Str.ofString "__annotations__")) N _ (topStub p)).bind _)=_;rw[show (boot_heap w.params).objs.size=11 from by kernel_rfl,h3];show Option.map f (match _ with | true=>_ | false=>_)=_;rw[h4];exact congrArg some h5
noncomputable abbrev tP:Program:=PySem.Challenge.pw_roundcede_k46_whole_large_books
noncomputable def vw:Program:={ tP with main:={ tP.main with body:=([96]:List Nat).map λi=>tP.main.body.getD i (.Pass ⟨0,0,0,0⟩) } }
noncomputable abbrev ls:List Str:=(["_wall","CedeError","BadName","KnownHouse","UnknownHouse","ToItself","DaysTurned","OutOfRange","TooMuch","ShutIn","Full","NothingDone"]:List Str)++(["Unclear","LAST_DAY","turning_days","holding","stretches","LETTERS","LONGEST_NAME","MOST_COINS","MOST_ROUNDS","check_name","check_range","check_day"]:List Str)++(["check_amount","check_many","place_of","greatest_divisor","lowest","minus","times","less","kept","spread","shut_in","loss_rows"]:List Str)++(["cut_down","strike_out","arrivals","shares","shares_equations","WHOLE","ways_of","ways_on","looks","check_terms","whom_shut","greatest_rest"]:List Str)++(["coins","coins_purse","next_round","walk","MOST_HOUSES","MOST_PACTS","MOST_LOSSES","deed_row","Book","_law_at","_law_draws","_law_names"]:List Str)++(["_law_on","_law_left","_law_closed","_law_word","_law_call","_law_ask","_law_refused","_law_whole","_law_tuples","_law_texts","_law_gcd","_law_fraction"]:List Str)++(["_law_fractions","_law_joint","_law_papered","_law_made","_law_borne_of","_law_same","_law_purse","_law_row","_law_span","_law_made_pact","_law_judged","_law_fits"]:List Str)++(["_law_right"]:List Str)
noncomputable def xt:Shared->Bool:=λs=>xlAt vw [] s && recOk (RowW.records (OpenRow.toRowW (OpenLaw.row PySem.Challenge.rw_roundcede_k46_whole_large_books))) s
def zRj {a b:Bool} (h1:a=true) (h2:b=true):(a && b)=true:=by rw[h1,h2];rfl
def wlr:(OpenLaw.row PySem.Challenge.rw_roundcede_k46_whole_large_books).wellSaid=true:=by kernel_rfl
def wl:OpenLaw.wellSaid PySem.Challenge.rw_roundcede_k46_whole_large_books=true:=by
 unfold OpenLaw.wellSaid
 repeat' (with_reducible refine zRj ?_ ?_)
 exact wlr
 all_goals kernel_rfl
abbrev zSg (w:World):Prop:=(openEnds treeTable tP w 10906).map (openSeen vw ls (importedModules tP.main.body) xt true)=some (openGood vw ls)
def hp0 (w:World):zSg w:=by
 refine zLp rfl rfl (λ_=>rfl) w λos=>?_;rw[PySem.W.Fast.te4187177175401517315]
 kernel_rfl
set_option hygiene false in
local macro_rules
 | `(tactic| o_head $H)=>`(tactic| exact (λ_=>hh) $H)
def zOX (hh:(OpenLaw.row PySem.Challenge.rw_roundcede_k46_whole_large_books).Holds):(OpenLaw.row PySem.Challenge.rw_roundcede_k46_whole_large_books).Holds:=by k_head
noncomputable def p0:Params:={ strHash:=λ_=>0,shareClass:=λ_=>0,mergeTok:=id,idOf:=λ_=>0,idOfShared:=λ_ _=>0,followText:=λ_=>false,idOfImm:=λ_=>0 }
noncomputable def ka:List Addr:=(zOX.heap_1 p0).map (·.1)
def ke:∀P,ka=(zOX.heap_1 P).map (·.1):=λ_=>by kernel_rfl
def zO1 {α β γ δ:Type} {o:Option α} {f:α->β->γ} {l:List β} {m:List δ} {g:δ->γ} (n:Nat) (h1:o.map (λs=>(l.take n).map (f s))=some ((m.take n).map g)) (h2:o.map (λs=>(l.drop n).map (f s))=some ((m.drop n).map g)):o.map (λs=>l.map (f s))=some (m.map g):=by
 cases o with
 | none=>cases h1
 | some s=>
  rw[Option.map_some] at h1 h2 ⊢;rw[show l.map (f s)=(l.take n).map (f s)++(l.drop n).map (f s) by rw[← wHr,List.take_append_drop],wHo h1,wHo h2,← wHr,List.take_append_drop]
abbrev zQy (w:World):Prop:=(openEnds treeTable tP w 10906).map (λs=>((ka).take 200).map s.heap.get?)=some (((zOX.heap_1 w.params).take 200).map λp=>some p.2)
def zRa (w:World):zQy w:=by
 refine zLp rfl rfl (λ_=>rfl) w λos=>?_
 kernel_rfl
abbrev zQx (w:World):Prop:=(openEnds treeTable tP w 10906).map (λs=>((ka).drop 200).map s.heap.get?)=some (((zOX.heap_1 w.params).drop 200).map λp=>some p.2)
def zQZ (w:World):zQx w:=by
 refine zLp rfl rfl (λ_=>rfl) w λos=>?_
 kernel_rfl
def hp3 (w:World):(openEnds treeTable tP w 10906).map (Hook.obs (kHook zOX.heap_1 ka ke))=some (Hook.val (kHook zOX.heap_1 ka ke) w):=zO1 200 (zRa w) (zQZ w)
end Hp
set_option Elab.async false
set_option linter.all false
set_option maxRecDepth 100000
namespace L2
open PySem PySem.Spec PyProof.Rows
abbrev Key:=Sum Int Str
def zQb:Key->Value->Bool
 | .inl k,v=>Value.isInt k v
 | .inr x,v=>Value.isStrOf x v
def zRR (w:World):Key->Int
 | .inl k=>hashInt k
 | .inr x=>hashStr w x
def zAP:∀{k:Key} {v:Value},zQb k v=true->(∃i t,k=Sum.inl i/\v=Value.int i t)∨(∃x t,k=Sum.inr x/\v=Value.str x t)
 | .inl i,v,h=>by obtain⟨t,e⟩:=Value.isInt_shape (k:=i) (v:=v) h;exact .inl ⟨i,t,rfl,e⟩
 | .inr x,v,h=>by obtain⟨t,e⟩:=Value.isStrOf_shape (x:=x) (v:=v) h;exact .inr ⟨x,t,rfl,e⟩
def zQa (a b:Int):decide ((Sum.inl a:Key)=Sum.inl b)=(a == b):=by
 by_cases e:a=b
 ·subst e;simp
 have h:¬(Sum.inl a:Key)=Sum.inl b:=λq=>e (Sum.inl.inj q);rw[wHJ h];exact (beq_eq_false_iff_ne.mpr e).symm
def zPX (a b:Str):decide ((Sum.inr a:Key)=Sum.inr b)=decide (a=b):=by
 by_cases e:a=b
 ·subst e;simp
 have h:¬(Sum.inr a:Key)=Sum.inr b:=λq=>e (Sum.inr.inj q);rw[wHJ h,wHJ e]
theorem zPZ (a:Int) (b:Str):decide ((Sum.inl a:Key)=Sum.inr b)=false:=wHJ (λq=>nomatch q)
def zPY (a:Str) (b:Int):decide ((Sum.inr a:Key)=Sum.inl b)=false:=wHJ (λq=>nomatch q)
def zIg (prog:Program) (w:World):PySem.KeyKind prog w Key where
 is:=zQb
 hash:=zRR w
 inj:=λv a b ha hb=>by
  rcases zAP ha with ⟨i,t,rfl,rfl⟩ | ⟨x,t,rfl,rfl⟩
  ·rcases zAP hb with ⟨j,u,rfl,e⟩ | ⟨y,u,rfl,e⟩
   ·injection e with e1 _;rw[e1]
   exact nomatch e
  rcases zAP hb with ⟨j,u,rfl,e⟩ | ⟨y,u,rfl,e⟩
  ·exact nomatch e
  injection e with e1 _;rw[e1]
 byValue:=λk v h=>by rcases zAP h with ⟨i,t,rfl,rfl⟩ | ⟨x,t,rfl,rfl⟩<;>rfl
 pyHash:=λhv h=>by
  rcases zAP hv with ⟨i,t,rfl,rfl⟩ | ⟨x,t,rfl,rfl⟩
  ·exact wpAny_pyHash_int h
  exact wpAny_pyHash_str h
 eqBool:=λhu hv h=>by
  rcases zAP hu with ⟨i,t,rfl,rfl⟩ | ⟨x,t,rfl,rfl⟩
  ·rcases zAP hv with ⟨j,u,rfl,rfl⟩ | ⟨y,u,rfl,rfl⟩
   ·rw[zQa] at h;exact wpAny_eqBool_int h
   rw[zPZ] at h;exact SeqAt.EqAt.int_str i t y u _ _ _ _ h
  rcases zAP hv with ⟨j,u,rfl,rfl⟩ | ⟨y,u,rfl,rfl⟩
  ·rw[zPY] at h;exact SeqAt.EqAt.str_int x t j u _ _ _ _ h
  rw[zPX] at h;exact wpAny_eqBool_str h
 «strs»:=λk x t v h=>by
  rcases zAP h with ⟨i,u,rfl,e⟩ | ⟨y,u,rfl,e⟩
  ·exact nomatch e
  injection e with e1 _
  subst e1;cases v<;>rfl
inductive V where
 | non | bl (b:Bool) | int (i:Int) | str (x:Str) | byt (b:Array UInt8) | flt (b:UInt64) | ref (a:Addr) | ty (n:String)
 deriving DecidableEq
def zBg:V->Value->Prop
 | .non,u=>u=Value.none
 | .bl b,u=>u=Value.bool b
 | .int i,u=>∃t,u=Value.int i t
 | .str x,u=>∃t,u=Value.str x t
 | .byt b,u=>∃t,u=Value.bytes b t
 | .flt b,u=>∃t,u=Value.float b t
 | .ref a,u=>u=Value.ref a
 | .ty n,u=>u=Value.type n
abbrev zA4:List V->List Value->Prop:=Paired zBg
def zA4.length {xs:List V} {us:List Value} (r:zA4 xs us):xs.length=us.length:=Paired.length r
theorem zA4.get:∀{xs:List V} {us:List Value} {i:Nat} {x:V},zA4 xs us->xs[i]?=some x->∃u,us[i]?=some u/\zBg x u
 | _,_,_,_,.nil,e=>by simp at e
 | _,_,0,_,.cons r _,e=>by simp at e;subst e;exact⟨_,rfl,r⟩
 | _,_,i+1,x,.cons _ t,e=>by obtain⟨u,h1,h2⟩:=zA4.get (i:=i) (x:=x) t (by simpa using e);exact⟨u,by simpa using h1,h2⟩
theorem zA4.set {x:V} {u:Value} (r:zBg x u):∀{xs:List V} {us:List Value} (i:Nat),zA4 xs us->zA4 (xs.set i x) (us.set i u)
 | _,_,_,.nil=>.nil
 | _,_,0,.cons _ t=>.cons r t
 | _,_,i+1,.cons q t=>.cons q (zA4.set r i t)
theorem zA4.append:∀{xs ys:List V} {us ws:List Value},zA4 xs us->zA4 ys ws->zA4 (xs++ys) (us++ws)
 | _,_,_,_,.nil,s=>s
 | _,_,_,_,.cons r t,s=>.cons r (zA4.append t s)
theorem zA4.take:∀{xs:List V} {us:List Value} (n:Nat),zA4 xs us->zA4 (xs.take n) (us.take n)
 | _,_,0,_=>.nil
 | _,_,_+1,.nil=>.nil
 | _,_,n+1,.cons r t=>.cons r (zA4.take n t)
theorem zA4.drop:∀{xs:List V} {us:List Value} (n:Nat),zA4 xs us->zA4 (xs.drop n) (us.drop n)
 | _,_,0,r=>r
 | _,_,_+1,.nil=>.nil
 | _,_,n+1,.cons _ t=>zA4.drop n t
def zA4.none_of:∀{xs:List V} {us:List Value} {i:Nat},zA4 xs us->xs[i]?=none->us[i]?=none:=λ{xs us i} r e=>by have h1:=r.length;have h2:xs.length<=i:=List.getElem?_eq_none_iff.mp e;exact List.getElem?_eq_none_iff.mpr ∅
def zH3:Option V->Option Value->Prop
 | some v,some u=>zBg v u
 | none,none=>True
 | _,_=>False
def KV {κ:Type}:List (κ × V)->List (κ × Value)->Prop:=Paired λ(p:κ × V) (q:κ × Value)=>p.1=q.1/\zBg p.2 q.2
def kV:Key->V
 | .inl i=>.int i
 | .inr x=>.str x
inductive HO where
 | lst (xs:List V)
 | tup (xs:List V)
 | dK (aJ:List (Key × V)) | dT (aJ:List (List Key × V))
 | set (S:Int->Bool) (n:Nat)
 | ins (C dx:Addr) (fs:List (Str × V))
 | own (x:Addr)
 | xd (fs:List (Str × V))
 | met (f x:Addr)
 | rng (lo hi:Int)
 | frz (o:Obj) (u:HO)
 | tbl (ps:Array Value)
 | ext (φ:Heap->Prop)
abbrev Hp:=Addr->Option HO
def upd (H:Hp) (a:Addr) (o:HO):Hp:=λb=>if b=a then some o else H b
def zB {H:Hp} {a:Addr} {o:HO}:upd H a o a=some o:=by unfold upd;rw[wHl rfl]
theorem zO {H:Hp} {a b:Addr} {o:HO} (h:b≠a):upd H a o b=H b:=by unfold upd;rw[wHj h]
theorem zBi {H:Hp} {a:Addr} {o u:HO}:upd (upd H a o) a u=upd H a u:=by funext b;unfold upd;split<;>rfl
def zCC {H:Hp} {a b:Addr} {o u:HO} (h:H a=some o) (h':H b=some u) (d:o≠u):a≠b:=by intro e;subst e;rw[h] at h';exact d (wHo h')
def zN {H:Hp} {a b:Addr} {o:HO} (h:H a=some o) (h':H b=none):a≠b:=by intro e;subst e;rw[h] at h';cases h'
section
variable (P:Program) (w:World)
def ObjOk (H:Hp) (h:Heap) (a:Addr):HO->Prop
 | .lst xs=>xs.length<=sizeLine/\∃(its:List Value) (n:Nat),zA4 xs its/\h.get? a=some { cls:=.type "list",data:=.seq its.toArray n }
 | .tup xs=>xs.length<=sizeLine/\∃its:List Value,zA4 xs its/\IsTup h a its.toArray
 | .dK aJ=>aJ.length<=sizeLine/\(a == sysModules)=false/\∃vs,KV aJ vs/\h.DictOf (zIg P w) a vs
 | .dT aJ=>aJ.length<=sizeLine/\(a == sysModules)=false/\∃xs:List (List Key × Addr × Value),
   Paired (λ(p:List Key × V) (q:List Key × Addr × Value)=>p.1=q.1/\H q.2.1=some (.tup (p.1.map kV))/\zBg p.2 q.2.2) aJ xs/\
   ∃o es ep,h.get? a=some o/\o.ExactDict/\o.data=.dict es ep/\es.toList=xs.map (entryOfKey (tupleKind (zIg P w)))/\(xs.map (·.1)).Nodup
 | .set S n=>h.SetOf (intKind P w) a S n
 | .ins C dx fs=>H dx=some (.own a)/\fs.length<=1000/\dx≠a/\h.get? a=some (W.instObj C dx)/\
   ∃mA,h.Ns1 dx mA/\(∀f,zH3 (fs.lookup f) (mA f))/\PySem.Within mA (fs.map (·.1))
 | .own _=>∃o,h.get? a=some o
 | .xd fs=>∃mA,h.Ns1 a mA/\∀f,zH3 (fs.lookup f) (mA f)
 | .rng lo hi=>∃t u v,h.get? a=some { cls:=.type "range",data:=.fields #[.int lo t,.int hi u,.int 1 v] }
 | .frz o u=>h.get? a=some o/\ObjOk H h a u
 | .tbl ps=>h.get? a=some { cls:=.none,data:=.fields ps }
 | .met f x=>h.get? a=some (W.methodObj (.ref f) (.ref x))
 | .ext φ=>φ h/\(∃o,h.get? a=some o)/\∀h1 h2:Heap,φ h1->(∀o,h1.get? a=some o->h2.get? a=some o)->φ h2
def HOk (H:Hp) (h:Heap):Prop:=∀a o,H a=some o->ObjOk P w H h a o
end
section
variable {P:Program} {w:World} {H H':Hp} {h h':Heap} {a:Addr} {o:HO}
def ObjOk.lt (x:ObjOk P w H h a o):a < h.objs.size:=by
 cases o with
 | lst xs=>obtain⟨_,_,_,_,e⟩:=x;exact wHq e
 | tup xs=>obtain⟨_,_,_,p⟩:=x;exact p.lt
 | dK aJ=>obtain⟨_,_,_,_,o,_,_,e,_⟩:=x;exact wHq e
 | dT aJ=>obtain⟨_,_,_,_,o,_,_,e,_⟩:=x;exact wHq e
 | set S n=>obtain⟨o,_,_,_,e,_⟩:=x;exact wHq e
 | ins C dx fs=>obtain⟨_,_,_,e,_⟩:=x;exact wHq e
 | own y=>obtain⟨_,e⟩:=x;exact wHq e
 | xd fs=>obtain⟨_,⟨_,_,_,e,_⟩,_⟩:=x;exact wHq e
 | rng lo hi=>obtain⟨_,_,_,e⟩:=x;exact wHq e
 | frz ob u=>obtain⟨e,_⟩:=x;exact wHq e
 | tbl ps=>exact wHq (show h.get? a=some _ from x)
 | met f y=>exact wHq (show h.get? a=some _ from x)
 | ext φ=>obtain⟨_,⟨_,e⟩,_⟩:=x;exact wHq e
theorem Paired.mapP {α β:Type} {F G:α->β->Prop}:∀{l₁:List α} {l₂:List β},Paired F l₁ l₂->(∀a b,F a b->G a b)->Paired G l₁ l₂
 | _,_,.nil,_=>.nil
 | _,_,.cons r t,f=>.cons (f _ _ r) (Paired.mapP t f)
def ObjOk.stay (x:ObjOk P w H h a o) (k:∀b u,(b=a∨H b=some (.own a))->h.get? b=some u->h'.get? b=some u)
  (ho:∀b,H b=some (.own a)->H' b=some (.own a)) (ht:∀b xs,H b=some (.tup xs)->H' b=some (.tup xs)):ObjOk P w H' h' a o:=by
 induction o with
 | lst xs=>obtain⟨z,its,n,r,e⟩:=x;exact⟨z,its,n,r,k _ _ (.inl rfl) e⟩
 | tup xs=>obtain⟨z,its,r,ob,e,c⟩:=x;exact⟨z,its,r,ob,k _ _ (.inl rfl) e,c⟩
 | dK aJ=>obtain⟨z,y,vs,r,ob,es,ep,e,c⟩:=x;exact⟨z,y,vs,r,ob,es,ep,k _ _ (.inl rfl) e,c⟩
 | dT aJ=>
  obtain⟨z,y,xs,r,ob,es,ep,e,c⟩:=x;exact⟨z,y,xs,Paired.mapP r λp q z=>⟨z.1,ht _ _ z.2.1,z.2.2⟩,ob,es,ep,k _ _ (.inl rfl) e,c⟩
 | set S n=>obtain⟨ob,es,ep,t,e,c⟩:=x;exact⟨ob,es,ep,t,k _ _ (.inl rfl) e,c⟩
 | ins C dx fs=>
  obtain⟨d,z,ne,e,mA,⟨od,es,ep,e2,c⟩,r⟩:=x;exact⟨ho _ d,z,ne,k _ _ (.inl rfl) e,mA,⟨od,es,ep,k _ _ (.inr d) e2,c⟩,r⟩
 | own y=>obtain⟨ob,e⟩:=x;exact⟨ob,k _ _ (.inl rfl) e⟩
 | xd fs=>obtain⟨mA,⟨od,es,ep,e,c⟩,r⟩:=x;exact⟨mA,⟨od,es,ep,k _ _ (.inl rfl) e,c⟩,r⟩
 | rng lo hi=>obtain⟨t,u,v,e⟩:=x;exact⟨t,u,v,k _ _ (.inl rfl) e⟩
 | frz ob u ih=>obtain⟨e,q⟩:=x;exact⟨k _ _ (.inl rfl) e,ih q⟩
 | tbl ps=>
  have e:h.get? a=some { cls:=.none,data:=.fields ps }:=x;show h'.get? a=some { cls:=.none,data:=.fields ps };exact k a _ (.inl rfl) e
 | met f y=>
  have e:h.get? a=some (W.methodObj (.ref f) (.ref y)):=x;show h'.get? a=some (W.methodObj (.ref f) (.ref y));exact k a _ (.inl rfl) e
 | ext φ=>obtain⟨p,⟨o,e⟩,st⟩:=x;exact⟨st _ _ p λo q=>k _ _ (.inl rfl) q,⟨o,k _ _ (.inl rfl) e⟩,st⟩
def HOk.lt (x:HOk P w H h) (e:H a=some o):a < h.objs.size:=(x a o e).lt
def HOk.fresh (x:HOk P w H h) (e:h.objs.size<=a):H a=none:=by
 cases q:H a with
 | none=>rfl
 | some u=>exact absurd (wHy (x.lt q) e) (Nat.lt_irrefl _)
def HOk.kept (x:HOk P w H h) (k:∀b u,h.get? b=some u->h'.get? b=some u):HOk P w H h':=λa o e=>
 (x a o e).stay (λb u _ q=>k b u q) (λ_ q=>q) λ_ _ q=>q
def HOk.laid (x:HOk P w H h) (k:∀b u,h.get? b=some u->h'.get? b=some u) (hp:h.objs.size<=a) (new:ObjOk P w (upd H a o) h' a o):HOk P w (upd H a o) h':=λb u e=>by
 have hn:=x.fresh hp;by_cases hb:b=a
 ·subst hb;rw[zB] at e;cases e;exact new
 rw[zO hb] at e;exact (x b u e).stay (λc v _ q=>k c v q) (λc q=>by rw[zO (zN q hn)];exact q) λc xs q=>by rw[zO (zN q hn)];exact q
end
def Rd (H:Hp) (a:Addr) (u:HO):Prop:=H a=some u∨∃o,H a=some (.frz o u)
def Rd.of {H:Hp} {a:Addr} {u:HO} (h:H a=some u):Rd H a u:=.inl h
def Rd.ok {P:Program} {w:World} {H:Hp} {h:Heap} {a:Addr} {u:HO} (r:Rd H a u) (x:HOk P w H h):ObjOk P w H h a u:=by
 rcases r with r | ⟨o,r⟩
 ·exact x a u r
 obtain⟨_,q⟩:=x a _ r;exact q
def Mut:Option HO->Prop
 | some (.lst _)=>True
 | some (.dK _)=>True
 | some (.dT _)=>True
 | some (.set _ _)=>True
 | some (.ins _ _ _)=>True
 | some (.ext _)=>True
 | _=>False
section
variable {P:Program} {w:World} {H:Hp} {h h':Heap} {x e:Addr} {o':HO}
def HOk.write (ok:HOk P w H h) (mu:Mut (H x)) (he:e=x∨H e=some (.own x)) (k:∀b u,b≠e->h.get? b=some u->h'.get? b=some u) (fY:∃u,h'.get? e=some u)
  (new:ObjOk P w (upd H x o') h' x o'):HOk P w (upd H x o') h':=λb u q=>by
 have gS:∀c y,H c=some (.own y)->c≠x:=λc y r z=>by subst z;rw[r] at mu;exact mu
 have lX:∀c xs,H c=some (.tup xs)->c≠x:=λc xs r z=>by subst z;rw[r] at mu;exact mu
 by_cases hb:b=x
 ·subst hb;rw[zB] at q;cases q;exact new
 rw[zO hb] at q;by_cases hbe:b=e
 ·have q':H b=some (.own x):=by
   rcases he with z | z
   ·exact absurd (hbe.trans z) hb
   rw[hbe];exact z
  rw[q] at q';cases q';obtain⟨v,hv⟩:=fY;exact⟨v,by rw[hbe];exact hv⟩
 refine (ok b u q).stay (λc v hc r=>k c v ?_ r) (λc r=>by rw[zO (gS c b r)];exact r) λc xs r=>by rw[zO (lX c xs r)];exact r
 rcases hc with rfl | hc
 ·exact hbe
 rintro rfl;rcases he with z | z
 ·exact gS c b hc z
 rw[hc] at z;cases z;exact hb rfl
end
structure Un (fs ex:List Addr) (H H':Hp) (h h':Heap):Prop where
 keep:∀b o,h.get? b=some o->H b=none->b∉fs->b∉ex->h'.get? b=some o
 slot:∀b o,h.get? b=some o->H b=none->b∈fs->b∉ex->∃sl,h'.get? b=some { o with slots:=sl }
 free:∀b o,h.get? b=some o->H b=none->b∉ex->H' b=none
 there:∀b o,h.get? b=some o->b∉ex->∃o',h'.get? b=some o'
 tups:∀b xs,H b=some (.tup xs)->H' b=some (.tup xs)
 frzs:∀b o u,H b=some (.frz o u)->H' b=some (.frz o u)
 tbls:∀b ps,H b=some (.tbl ps)->∃more,H' b=some (.tbl (ps++more))
section
variable {fs eO ex ex':List Addr} {H H1 H2:Hp} {h h1 h2 h':Heap} {a x e:Addr} {o:HO}
def Un.any (u:Un fs ex H H1 h h1) {b:Addr} {ob:Obj} (q:h.get? b=some ob) (n:H b=none) (hx:b∉ex):∃sl,h1.get? b=some { ob with slots:=sl }:=by
 by_cases hb:b∈fs
 ·exact u.slot b ob q n hb hx
 exact⟨ob.slots,u.keep b ob q n hb hx⟩
def Un.trans (a:Un fs ex H H1 h h1) (b:Un fs ex H1 H2 h1 h2):Un fs ex H H2 h h2 where
 keep:=λc ob q n hc hx=>b.keep c ob (a.keep c ob q n hc hx) (a.free c ob q n hx) hc hx
 slot:=λc ob q n hc hx=>by obtain⟨sl,e1⟩:=a.slot c ob q n hc hx;obtain⟨gL,e2⟩:=b.slot c _ e1 (a.free c ob q n hx) hc hx;exact⟨gL,e2⟩
 free:=λc ob q n hx=>by obtain⟨o',e1⟩:=a.there c ob q hx;exact b.free c o' e1 (a.free c ob q n hx) hx
 there:=λc ob q hx=>by obtain⟨o',e1⟩:=a.there c ob q hx;exact b.there c o' e1 hx
 tups:=λc xs q=>b.tups c xs (a.tups c xs q)
 frzs:=λc ob xs q=>b.frzs c ob xs (a.frzs c ob xs q)
 tbls:=λc ps q=>by obtain⟨m1,e1⟩:=a.tbls c ps q;obtain⟨m2,e2⟩:=b.tbls c _ e1;exact⟨m1++m2,by rw[e2,Array.append_assoc]⟩
def Un.kept (k:∀b u,h.get? b=some u->h'.get? b=some u):Un fs ex H H h h':=
 ⟨λb ob q _ _ _=>k b ob q,λb ob q _ _ _=>⟨ob.slots,k b ob q⟩,λ_ _ _ n _=>n,λb ob q _=>⟨ob,k b ob q⟩,λ_ _ q=>q,λ_ _ _ q=>q,λ_ ps q=>⟨#[],by rw[q];simp⟩⟩
def Un.refl:Un fs ex H H h h:=Un.kept λ_ _ q=>q
def Un.laid (k:∀b u,h.get? b=some u->h'.get? b=some u) (hp:h.objs.size<=a) (hn:H a=none):Un fs ex H (upd H a o) h h' where
 keep:=λb u q _ _ _=>k b u q
 slot:=λb u q _ _ _=>⟨u.slots,k b u q⟩
 free:=λb u q n _=>by rw[zO (wHu (wHy (wHq q) hp))];exact n
 there:=λb u q _=>⟨u,k b u q⟩
 tups:=λb xs q=>by rw[zO (zN q hn)];exact q
 frzs:=λb u xs q=>by rw[zO (zN q hn)];exact q
 tbls:=λb ps q=>⟨#[],by rw[zO (zN q hn),q];simp⟩
def Un.write (mu:Mut (H x)) (he:e=x∨H e=some (.own x)) (k:∀b u,b≠e->h.get? b=some u->h'.get? b=some u) (fY:∃u,h'.get? e=some u):Un fs ex H (upd H x o) h h':=by
 have hx:∀b,H b=none->b≠x:=λb n z=>by subst z;rw[n] at mu;exact mu
 have hb:∀b,H b=none->b≠e:=λb n z=>by
  subst z;rcases he with r | r
  ·exact hx b n r
  rw[n] at r;cases r
 have hm:∀b u,H b=some u->¬Mut (some u)->b≠x:=λb u q nm z=>by subst z;rw[q] at mu;exact nm mu
 refine⟨λb u q n _ _=>k b u (hb b n) q,λb u q n _ _=>⟨u.slots,k b u (hb b n) q⟩,λb u q n _=>by rw[zO (hx b n)];exact n,λb u q _=>?_,
  λb xs q=>by rw[zO (hm b _ q λz=>z)];exact q,λb u xs q=>by rw[zO (hm b _ q λz=>z)];exact q,λb ps q=>⟨#[],by rw[zO (hm b _ q λz=>z),q];simp⟩⟩
 by_cases hbe:b=e
 ·subst hbe;exact fY
 exact⟨u,k b u hbe q⟩
def Un.mono (u:Un fs ex H H1 h h1) (hs:∀b∈fs,b∈eO) (hx:∀b∈ex,b∈ex'):Un eO ex' H H1 h h1:=
 ⟨λb ob q n hb he=>u.keep b ob q n (λz=>hb (hs b z)) λz=>he (hx b z),λ_ _ q n _ he=>u.any q n λz=>he (hx _ z),λb ob q n he=>u.free b ob q n λz=>he (hx b z),λb ob q he=>u.there b ob q λz=>he (hx b z),u.tups,u.frzs,u.tbls⟩
end
def trk (h:Heap) (H:Hp):List Addr:=(List.range h.objs.size).filter λa=>(H a).isSome
def zMC (h:Heap) (H:Hp):Heap:=W.hideAll h (trk h H)
def zLc (h:Heap) (H:Hp):(zMC h H).objs.size=h.objs.size:=W.hideAll_size _ _
def zMB {h:Heap} {H:Hp} {b:Addr} {o:Obj} (e:h.get? b=some o) (n:H b=none):(zMC h H).get? b=some o:=
 W.hideAll_get _ e λhm=>by have q:(H b).isSome=true:=(List.mem_filter.mp hm).2;rw[n] at q;simp at q
def zOz {h:Heap} {H:Hp} {b:Addr} {o:Obj} (e:(zMC h H).get? b=some o):h.get? b=some o/\H b=none:=by
 have e':h.get? b=some o:=W.of_hideAll (trk h H) e;refine⟨e',?_⟩;cases q:H b with
 | none=>rfl
 | some x=>
  have hm:b∈trk h H:=List.mem_filter.mpr ⟨List.mem_range.mpr (wHq e'),by simp[q]⟩;have z:(zMC h H).get? b=none:=W.hideAll_none (trk h H) hm;rw[z] at e;cases e
def zOS (g h:Heap) (L:Addr):List (Addr × Obj):=(List.range h.objs.size).filterMap λa=>if a=L∨(g.get? a).isSome=true then none else (h.get? a).map λo=>(a,o)
def rest (g h:Heap) (L d:Addr):List (Addr × Obj):=(zOS g h L).filter λp=>decide (p.1≠d)
structure Mod (K:W.Frag) (mg:Str->Option Value) (base:Heap):Prop where
 kin:K.In base
 glob:base.Ns mainGlobals mg
 blt:∃mb,base.Ns builtinsNs mb/\∀x:Str,x≠"__name__"->mb x=bootBuiltins x
 nolimit:base.NoLimit
 seer:base.NoSeer
structure Cx where
 prog:Program
 w:World
 K:W.Frag
 mg:Str->Option Value
 base:Heap
 A:Around
 N:List Str
 s₀:Shared
 H₀:Hp
 env:Env
 outer:List Env
 stack:List Env
 ex:List Addr
 fn:Str->Bool
 calm:Bool
 pn:List (Addr × Obj)
 xe:Value->Shared->Prop
def frs (l:List Env):List Addr:=l.filterMap (·.frame)
abbrev Cx.fs (X:Cx):List Addr:=frs X.outer
def Vis (sc:Scope) (x:Str):Prop:=sc.names.lookup x=some .local∨sc.names.lookup x=some .cell∨sc.names.lookup x=some .free
def Loc (sc:Scope) (x:Str):Prop:=sc.names.lookup x=some .local∨sc.names.lookup x=some .cell
def zSh (env:Env) (h:Heap) (m:Str->Option Value) (x:Str) (u:Value):Prop:=
 (env.kindOf x=some .local/\m x=some u)∨((env.kindOf x=some .cell∨env.kindOf x=some .free)/\∃c,env.cells.lookup x=some c/\h.IsCell c (some u))
structure Cx.Ok (X:Cx):Prop where
 mod:Mod X.K X.mg X.base
 kind:X.env.scope.kind=.function
 glob:X.env.globals=mainGlobals
 blt:X.env.builtins=builtinsNs
 above:X.s₀.heap.objs.size<=X.env.locals
 inj:∀x y c,X.env.cells.lookup x=some c->X.env.cells.lookup y=some c->x=y
 has:∀x,(X.env.kindOf x=some .cell∨X.env.kindOf x=some .free)->∃c,X.env.cells.lookup x=some c
 cab:∀x c,X.fn x=true->X.env.cells.lookup x=some c->X.s₀.heap.objs.size<=c
 hd:X.calm=true->X.A.handled=none
 frames:X.A.frames=some X.stack
 stk:X.stack=X.outer∨(X.stack=X.env::X.outer/\X.env.frame=some X.env.locals)
 exf:∀b∈X.ex,b≠X.env.locals/\∀x c,X.env.cells.lookup x=some c->c≠b
 bs:∀b o,X.base.get? b=some o->X.s₀.heap.get? b=some o/\X.H₀ b=none
 bsz:X.base.objs.size<=X.s₀.heap.objs.size
 noex:∀b o,X.base.get? b=some o->b∉X.ex
 exfs:∀b∈X.ex,b∉X.fs
 funs:X.s₀.heap.FunFrames X.base X.outer
 frf:∀b∈X.fs,X.H₀ b=none
structure Inv (X:Cx) (pins:List (Addr × Obj)) (σ:List (Option V)) (H:Hp) (s:Shared):Prop where
 ok:X.Ok
 os:s.os=X.s₀.os
 bare:AllBare s.gens
 base:Un X.fs X.ex X.H₀ H X.s₀.heap s.heap
 loc:∃m,s.heap.Ns X.env.locals m/\∀(i:Nat) (x:Str) (v:V),X.N[i]?=some x->σ[i]?=some (some v)->Vis X.env.scope x->∃u,zBg v u/\zSh X.env s.heap m x u
 cell:∀x c,X.env.cells.lookup x=some c->∃v,s.heap.IsCell c v
 free:H X.env.locals=none
 freeC:∀x c,X.env.cells.lookup x=some c->H c=none
 pin:∀p∈X.pn++pins,s.heap.get? p.1=some p.2/\H p.1=none/\p.1≠X.env.locals/\p.1∉X.fs/\∀v,p.2.data≠.cell v
 hok:HOk X.prog X.w H s.heap
 len:σ.length=X.N.length
section
variable {X:Cx} {pins:List (Addr × Obj)} {σ:List (Option V)} {H H':Hp} {s:Shared} {h':Heap}
def Cx.Ok.nofr (ok:X.Ok) {b:Addr} {o:Obj} (e:X.base.get? b=some o):b∉X.fs:=λhb=>by have:=(ok.funs.mem hb).1;rw[e] at this;cases this
def Inv.bs (I:Inv X pins σ H s):∀b o,X.base.get? b=some o->s.heap.get? b=some o/\H b=none:=λb o e=>
 ⟨I.base.keep b o (I.ok.bs b o e).1 (I.ok.bs b o e).2 (I.ok.nofr e) (I.ok.noex b o e),I.base.free b o (I.ok.bs b o e).1 (I.ok.bs b o e).2 (I.ok.noex b o e)⟩
def Inv.bk (I:Inv X pins σ H s):∀b o,X.base.get? b=some o->s.heap.get? b=some o:=λb o e=>(I.bs b o e).1
def Inv.mod (I:Inv X pins σ H s):Mod X.K X.mg X.base:=I.ok.mod
def Inv.kIn (I:Inv X pins σ H s):X.K.In s.heap:=I.ok.mod.kin.keeps I.bk
def Inv.nolimit (I:Inv X pins σ H s):s.heap.NoLimit:=I.ok.mod.nolimit.keeps I.bk
def Inv.fr (I:Inv X pins σ H s):∃m,Fr X.base X.env.locals s.heap m:=
 let ⟨m,hn,_⟩:=I.loc
 ⟨m,hn,I.bk,wHv I.ok.bsz I.ok.above⟩
def Inv.lt (I:Inv X pins σ H s):X.env.locals < s.heap.objs.size:=let ⟨_,hn,_⟩:=I.loc;hn.lt
def Inv.sz (I:Inv X pins σ H s):X.s₀.heap.objs.size<=s.heap.objs.size:=wHv I.ok.above (wIm I.lt)
def Inv.nofs (I:Inv X pins σ H s) {a:Addr} (h:s.heap.objs.size<=a):a∉X.fs:=λhb=>by obtain⟨_,o,ho,_⟩:=I.ok.funs.mem hb;exact absurd (wHy (wHq ho) (wHv I.sz h)) (Nat.lt_irrefl _)
def Inv.cne (I:Inv X pins σ H s):∀x c,X.env.cells.lookup x=some c->c≠X.env.locals:=λx c e z=>by obtain⟨v,o,ho,hd⟩:=I.cell x c e;obtain⟨m,⟨o',es,ep,bQ,bS,_⟩,_⟩:=I.loc;rw[z,bQ] at ho;cases ho;rw[bS] at hd;cases hd
def Inv.funs (I:Inv X pins σ H s):s.heap.FunFrames X.base X.outer:=by
 have all:∀(l:List Env),(∀b∈frs l,b∈X.fs)->X.s₀.heap.FunFrames X.base l->s.heap.FunFrames X.base l:=by
  intro l
  induction l with
  | nil=>intro _ _;trivial
  | cons env r ih=>
   intro hs hl;obtain⟨hk,⟨L,o,hf,hn,ho,hd⟩,hr⟩:=hl;have hL:L∈X.fs:=hs L (by unfold frs;rw[List.filterMap_cons,hf];exact wH5);obtain⟨sl,e⟩:=I.base.slot L o ho (I.ok.frf L hL) hL λz=>I.ok.exfs L z hL;exact⟨hk,⟨L,_,hf,hn,e,hd⟩,ih (λb hb=>hs b (by unfold frs;rw[List.filterMap_cons,hf];exact wHP _ hb)) hr⟩
 exact all X.outer (λ_ hb=>hb) I.ok.funs
def Inv.stack (I:Inv X pins σ H s):s.heap.FunFrames X.base X.stack:=by
 rcases I.ok.stk with e | ⟨e,hf⟩
 ·rw[e];exact I.funs
 rw[e];obtain⟨m,hn,_⟩:=I.loc;refine .cons (by rw[I.ok.kind];decide) hf hn ?_ I.funs;exact wIw (wHv I.ok.bsz I.ok.above)
def Inv.stkSub (I:Inv X pins σ H s):∀b∈frs X.stack,b∈X.env.locals::X.fs:=λb hb=>by
 rcases I.ok.stk with e | ⟨e,hf⟩
 ·rw[e] at hb;exact wHP _ hb
 rw[e] at hb;unfold frs at hb;rw[List.filterMap_cons,hf] at hb;exact hb
def Inv.stkFree (I:Inv X pins σ H s):∀b∈frs X.stack,H b=none:=λb hb=>by
 rcases wID (I.stkSub b hb) with e | hb
 ·rw[e];exact I.free
 obtain⟨_,o,ho,_⟩:=I.ok.funs.mem hb;exact I.base.free b o ho (I.ok.frf b hb) λz=>I.ok.exfs b z hb
def Inv.step {g':Array GenState} {t':Nat} {d':Drawn} {ch:List Addr} (I:Inv X pins σ H s)
  (dN:∀b∈ch,(b∈X.ex∨X.s₀.heap.objs.size<=b)/\b≠X.env.locals/\(∀x c,X.env.cells.lookup x=some c->c≠b)/\∀p∈X.pn++pins,p.1≠b)
  (keep:∀b o,b≠X.env.locals->b∉X.fs->b∉ch->s.heap.get? b=some o->H b=none->h'.get? b=some o)
  (slot:∀b o,b≠X.env.locals->b∈X.fs->b∉ch->s.heap.get? b=some o->H b=none->∃sl,h'.get? b=some { o with slots:=sl }) (free:∀b o,b∉ch->s.heap.get? b=some o->H b=none->H' b=none)
  (there:∀b o,b∉ch->s.heap.get? b=some o->∃o',h'.get? b=some o')
  (tups:∀b xs,H b=some (.tup xs)->H' b=some (.tup xs)) (frzs:∀b o u,H b=some (.frz o u)->H' b=some (.frz o u)) (tbls:∀b ps,H b=some (.tbl ps)->∃more,H' b=some (.tbl (ps++more)))
  (ns:∀m,s.heap.Ns X.env.locals m->h'.Ns X.env.locals m) (hok:HOk X.prog X.w H' h') (hg:AllBare g') :
  Inv X pins σ H' { s with heap:=h',gens:=g',drawn:=d',toks:=t' }:=by
 have neL:∀b o,X.s₀.heap.get? b=some o->b≠X.env.locals:=λb o e=>wHu (wHy (wHq e) I.ok.above);have jC:∀b o,X.s₀.heap.get? b=some o->b∉X.ex->b∉ch:=λb o e hx hb=>by
  rcases (dN b hb).1 with z | z
  ·exact hx z
  exact absurd (wHy (wHq e) z) (Nat.lt_irrefl _)
 have cellK:∀x c,X.env.cells.lookup x=some c->∀v,s.heap.IsCell c v->h'.IsCell c v:=λx c e v ⟨o,ho,hd⟩=>by
  have cP:c∉ch:=λz=>(dN c z).2.2.1 x c e rfl;by_cases hc:c∈X.fs
  ·obtain⟨sl,q⟩:=slot c o (I.cne x c e) hc cP ho (I.freeC x c e);exact⟨_,q,hd⟩
  exact⟨o,keep c o (I.cne x c e) hc cP ho (I.freeC x c e),hd⟩
 refine⟨I.ok,I.os,hg,⟨λb o e n hb hx=>?_,λb o e n hb hx=>?_,λb o e n hx=>?_,λb o e hx=>?_,λb xs e=>tups b xs (I.base.tups b xs e),λb o xs e=>frzs b o xs (I.base.frzs b o xs e),λb ps e=>?_⟩,?_,λx c e=>?_,?_,λx c e=>?_,λp hp=>?_,hok,I.len⟩
 ·exact keep b o (neL b o e) hb (jC b o e hx) (I.base.keep b o e n hb hx) (I.base.free b o e n hx)
 ·obtain⟨sl,e1⟩:=I.base.slot b o e n hb hx;obtain⟨gL,e2⟩:=slot b _ (neL b o e) hb (jC b o e hx) e1 (I.base.free b o e n hx);exact⟨gL,e2⟩
 ·obtain⟨o',e1⟩:=I.base.there b o e hx;exact free b o' (jC b o e hx) e1 (I.base.free b o e n hx)
 ·obtain⟨o',e1⟩:=I.base.there b o e hx;exact there b o' (jC b o e hx) e1
 ·obtain⟨m1,e1⟩:=I.base.tbls b ps e;obtain⟨m2,e2⟩:=tbls b _ e1;exact⟨m1++m2,by rw[e2,Array.append_assoc]⟩
 ·obtain⟨m,hn,hl⟩:=I.loc;refine⟨m,ns m hn,λi x v e1 e2 e3=>?_⟩;obtain⟨u,r,l⟩:=hl i x v e1 e2 e3;refine⟨u,r,?_⟩;rcases l with l | ⟨k,c,e,z⟩
  ·exact .inl l
  exact .inr ⟨k,c,e,cellK x c e _ z⟩
 ·obtain⟨v,z⟩:=I.cell x c e;exact⟨v,cellK x c e v z⟩
 ·obtain⟨m,⟨o,_,_,ho,_⟩,_⟩:=I.loc;exact free _ o (λz=>(dN _ z).2.1 rfl) ho I.free
 ·obtain⟨v,o,ho,hd⟩:=I.cell x c e;exact free c o (λz=>(dN c z).2.2.1 x c e rfl) ho (I.freeC x c e)
 obtain⟨e,n,ne,nf,d⟩:=I.pin p hp;have cP:p.1∉ch:=λz=>(dN p.1 z).2.2.2 p hp rfl;exact⟨keep p.1 p.2 ne nf cP e n,free p.1 p.2 cP e n,ne,nf,d⟩
def Inv.un {t':Nat} (I:Inv X pins σ H s) (u:Un X.fs [] H H' s.heap h') (hok:HOk X.prog X.w H' h'):Inv X pins σ H' { s with heap:=h',toks:=t' }:=by
 obtain⟨m,⟨o,es,ep,ho,r⟩,_⟩:=id I.loc;obtain⟨sl,hL⟩:=u.any ho I.free (by simp);exact I.step (g':=s.gens) (d':=s.drawn) (ch:=[]) (λ_ z=>nomatch z) (λb o _ hb _ e n=>u.keep b o e n hb (by simp)) (λb o _ hb _ e n=>u.slot b o e n hb (by simp)) (λb o _ e n=>u.free b o e n (by simp)) (λb o _ e=>u.there b o e (by simp)) u.tups u.frzs u.tbls (λm' hm=>by obtain⟨o',bH,nY,bQ,r'⟩:=hm;rw[ho] at bQ;cases bQ;exact⟨_,bH,nY,hL,r'⟩) hok I.bare
def Inv.call {g':Array GenState} {t':Nat} {d':Drawn} {ch:List Addr} (I:Inv X pins σ H s) (u:Un (frs X.stack) ch H H' s.heap h') (hok:HOk X.prog X.w H' h') (hg:AllBare g')
  (dN:∀b∈ch,(b∈X.ex∨X.s₀.heap.objs.size<=b)/\b≠X.env.locals/\(∀x c,X.env.cells.lookup x=some c->c≠b)/\∀p∈X.pn++pins,p.1≠b) :
  Inv X pins σ H' { s with heap:=h',gens:=g',drawn:=d',toks:=t' }:=by
 obtain⟨m,⟨o,es,ep,ho,r⟩,_⟩:=id I.loc;obtain⟨sl,hL⟩:=u.any ho I.free λz=>(dN _ z).2.1 rfl;exact I.step (ch:=ch) dN (λb o hL hb hc e n=>u.keep b o e n (λz=>(wID (I.stkSub b z)).elim hL hb) hc) (λb o _ _ hc e n=>u.any e n hc) (λb o hc e n=>u.free b o e n hc) (λb o hc e=>u.there b o e hc) u.tups u.frzs u.tbls (λm' hm=>by obtain⟨o',bH,nY,bQ,r'⟩:=hm;rw[ho] at bQ;cases bQ;exact⟨_,bH,nY,hL,r'⟩) hok hg
def Inv.turned {t':Nat} {it:Addr} (I:Inv X pins σ H s) (k:∀b o,b≠it->s.heap.get? b=some o->h'.get? b=some o) (hn:H it=none) (hL:it≠X.env.locals)
  (h1:it∈X.ex∨X.s₀.heap.objs.size<=it) (h2:∀x c,X.env.cells.lookup x=some c->c≠it) (h3:∀p∈X.pn++pins,p.1≠it):Inv X pins σ H { s with heap:=h',toks:=t' }:=by
 have nit:∀b u,H b=some u->b≠it:=λb u e z=>by rw[z,hn] at e;cases e
 refine I.step (g':=s.gens) (d':=s.drawn) (ch:=[it]) (λb hb=>?_) (λb o _ _ hc e _=>k b o (λz=>hc (by simp[z])) e) (λb o _ _ hc e _=>⟨o.slots,k b o (λz=>hc (by simp[z])) e⟩) (λ_ _ _ _ n=>n)
  (λb o hc e=>⟨o,k b o (λz=>hc (by simp[z])) e⟩) (λ_ _ e=>e) (λ_ _ _ e=>e) (λb ps e=>⟨#[],by rw[e];simp⟩) (λm hm=>?_) (λb u e=>?_) I.bare
 ·have e:b=it:=by simpa using hb
  subst e;exact⟨h1,hL,h2,h3⟩
 ·obtain⟨o,es,ep,ho,r⟩:=hm;exact⟨o,es,ep,k _ o (Ne.symm hL) ho,r⟩
 refine (I.hok b u e).stay (λc v hc q=>k c v ?_ q) (λ_ q=>q) λ_ _ q=>q;rcases hc with z | z
 ·rw[z];exact nit b u e
 exact nit c _ z
def Inv.tok (I:Inv X pins σ H s) (t:Nat):Inv X pins σ H { s with toks:=t }:=I.un (h':=s.heap) (t':=t) Un.refl I.hok
def Inv.kept {t':Nat} (I:Inv X pins σ H s) (k:∀b u,s.heap.get? b=some u->h'.get? b=some u):Inv X pins σ H { s with heap:=h',toks:=t' }:=I.un (Un.kept k) (I.hok.kept k)
def Inv.laid {a:Addr} {o:HO} {t':Nat} (I:Inv X pins σ H s) (k:∀b u,s.heap.get? b=some u->h'.get? b=some u) (hp:s.heap.objs.size<=a) (new:ObjOk X.prog X.w (upd H a o) h' a o) :
  Inv X pins σ (upd H a o) { s with heap:=h',toks:=t' }:=I.un (Un.laid k hp (I.hok.fresh hp)) (I.hok.laid k hp new)
def Inv.write {x e:Addr} {o:HO} {t':Nat} (I:Inv X pins σ H s) (mu:Mut (H x)) (he:e=x∨H e=some (.own x)) (k:∀b u,b≠e->s.heap.get? b=some u->h'.get? b=some u) (fY:∃u,h'.get? e=some u)
  (new:ObjOk X.prog X.w (upd H x o) h' x o):Inv X pins σ (upd H x o) { s with heap:=h',toks:=t' }:=I.un (Un.write mu he k fY) (I.hok.write mu he k fY new)
def Inv.pins_of {eR:List (Addr × Obj)} (I:Inv X pins σ H s) (h:∀p∈eR,s.heap.get? p.1=some p.2/\H p.1=none/\p.1≠X.env.locals/\p.1∉X.fs/\∀v,p.2.data≠.cell v):Inv X eR σ H s:=
 ⟨I.ok,I.os,I.bare,I.base,I.loc,I.cell,I.free,I.freeC,λp hp=>(wIC hp).elim (λz=>I.pin p (List.mem_append_left _ z)) (h p),I.hok,I.len⟩
def zGl {N:List Str} (hN:N.Nodup) {i j:Nat} {x:Str} (a:N[i]?=some x) (b:N[j]?=some x):i=j:=by obtain⟨h1,e1⟩:=wIy a;obtain⟨h2,e2⟩:=wIy b;exact (List.getElem_inj hN).mp (e1.trans e2.symm)
def zJO {M:Model} {A:Around} {E:Value->Shared->Prop} {i:Nat} {x:Str} {v:V} {u:Value} {Q:Unit->Shared->Prop} (I:Inv X pins σ H s) (hN:X.N.Nodup) (hi:X.N[i]?=some x) (hx:Loc X.env.scope x) (r:zBg v u)
  (h:∀s',Inv X pins (σ.set i (some v)) H s'->(∃a,Heap.SameBut a s.heap s'.heap/\(a=X.env.locals∨X.env.cells.lookup x=some a))->Q PUnit.unit s') (hf:X.fn x=true∨X.env.scope.names.lookup x=some .local:=by first | exact .inl rfl | exact .inr rfl | assumption):wpAny M A (storeName X.env x u) Q E s:=by
 obtain⟨m,hn,hl⟩:=id I.loc;have fH:(X.env.scope.kind == .class || (X.env.scope.kind == .module && X.env.locals != X.env.globals))=false:=by rw[I.ok.kind];rfl
 have hiσ:i < σ.length:=by rw[I.len];exact (wIy hi).1
 have cne:=I.cne;have tracked:∀{a:Addr} {h':Heap},(∃o,s.heap.get? a=some o/\H a=none)->Heap.SameBut a s.heap h'->HOk X.prog X.w H h':=λ{a h'} ha hs b ob e=>by
  obtain⟨_,_,fe⟩:=ha;refine (I.hok b ob e).stay (λc w' hc q=>(hs.2 c ?_).trans q) (λ_ q=>q) λ_ _ q=>q;rintro rfl;rcases hc with rfl | hc
  ·rw[fe] at e;cases e
  rw[fe] at hc;cases hc
 rcases hx with hk | hk
 ·refine wpAny_storeName_local hk hn (λh' fX hs=>?_) fH;obtain⟨oL,_,_,hoL,_⟩:=id hn;refine h _ ⟨I.ok,I.os,I.bare,⟨λb o e n hb hx=>?_,λb o e n hb hx=>?_,I.base.free,λb o e hx=>?_,I.base.tups,I.base.frzs,I.base.tbls⟩,⟨_,fX,λj y v' e1 e2 e3=>?_⟩,λy c e=>?_,I.free,I.freeC,λp hp=>?_,tracked ⟨oL,hoL,I.free⟩ hs,by simpa using I.len⟩ ⟨_,hs,.inl rfl⟩
  ·exact (hs.2 b (wHu (wHy (wHq e) I.ok.above))).trans (I.base.keep b o e n hb hx)
  ·obtain⟨sl,e1⟩:=I.base.slot b o e n hb hx;exact⟨sl,(hs.2 b (wHu (wHy (wHq e) I.ok.above))).trans e1⟩
  ·obtain⟨o',e1⟩:=I.base.there b o e hx;exact⟨o',(hs.2 b (wHu (wHy (wHq e) I.ok.above))).trans e1⟩
  ·by_cases hj:j=i
   ·subst hj;rw[hi] at e1;cases e1;rw[List.getElem?_set_self hiσ] at e2;cases e2;exact⟨u,r,.inl ⟨hk,by simp⟩⟩
   rw[List.getElem?_set_ne (Ne.symm hj)] at e2;obtain⟨u',r',q⟩:=hl j y v' e1 e2 e3;refine⟨u',r',?_⟩;rcases q with ⟨k,e⟩ | ⟨k,c,e,z⟩
   ·refine .inl ⟨k,?_⟩;have:y≠x:=λe=>hj (zGl hN e1 (e ▸ hi));simp[this,e]
   exact .inr ⟨k,c,e,z.sameBut hs (cne y c e)⟩
  ·obtain⟨w',z⟩:=I.cell y c e;exact⟨w',z.sameBut hs (cne y c e)⟩
  obtain⟨e,n,ne,nf,d⟩:=I.pin p hp;exact⟨(hs.2 p.1 ne).trans e,n,ne,nf,d⟩
 have nk:X.fn x=true:=by
  rcases hf with z | z
  ·exact z
  rw[z] at hk;cases hk
 obtain⟨c,hc⟩:=I.ok.has x (.inl hk);obtain⟨w',z⟩:=I.cell x c hc;refine wpAny_storeName_cell I.ok.kind hk hc z (λh' iN hs=>?_);obtain⟨oc,jK,mL⟩:=id z;refine h { s with heap:=h' } ⟨I.ok,I.os,I.bare,⟨λb o e n hb hx=>?_,λb o e n hb hx=>?_,I.base.free,λb o e hx=>?_,I.base.tups,I.base.frzs,I.base.tbls⟩,⟨m,hn.sameBut hs (Ne.symm (cne x c hc)),λj y v' e1 e2 e3=>?_⟩,λy c' e=>?_,I.free,I.freeC,λp hp=>?_,tracked ⟨oc,jK,I.freeC x c hc⟩ hs,by simpa using I.len⟩ ⟨c,hs,.inr hc⟩
 ·exact (hs.2 b (wHu (wHy (wHq e) (I.ok.cab x c nk hc)))).trans (I.base.keep b o e n hb hx)
 ·obtain⟨sl,e1⟩:=I.base.slot b o e n hb hx;exact⟨sl,(hs.2 b (wHu (wHy (wHq e) (I.ok.cab x c nk hc)))).trans e1⟩
 ·obtain⟨o',e1⟩:=I.base.there b o e hx;exact⟨o',(hs.2 b (wHu (wHy (wHq e) (I.ok.cab x c nk hc)))).trans e1⟩
 ·by_cases hj:j=i
  ·subst hj;rw[hi] at e1;cases e1;rw[List.getElem?_set_self hiσ] at e2;cases e2;exact⟨u,r,.inr ⟨.inl hk,c,hc,iN⟩⟩
  rw[List.getElem?_set_ne (Ne.symm hj)] at e2;obtain⟨u',r',q⟩:=hl j y v' e1 e2 e3;refine⟨u',r',?_⟩;rcases q with q | ⟨k,c',e,z'⟩
  ·exact .inl q
  refine .inr ⟨k,c',e,z'.sameBut hs ?_⟩;rintro rfl;exact hj (zGl hN e1 (I.ok.inj _ _ _ e hc ▸ hi))
 ·by_cases iK:c'=c
  ·subst iK;exact⟨_,iN⟩
  obtain⟨w2,z2⟩:=I.cell y c' e;exact⟨w2,z2.sameBut hs iK⟩
 obtain⟨e,n,ne,nf,d⟩:=I.pin p hp;refine⟨(hs.2 p.1 ?_).trans e,n,ne,nf,d⟩;intro q;rw[q,jK] at e;have q':oc=p.2:=wHo e;exact d w' (by rw[← q'];exact mL)
def zCY {M:Model} {A:Around} {E:Value->Shared->Prop} {i:Nat} {x:Str} {v:V} {u:Value} {Q:Unit->Shared->Prop} (I:Inv X pins σ H s) (hN:X.N.Nodup) (hi:X.N[i]?=some x) (hx:Loc X.env.scope x) (r:zBg v u)
  (h:∀s',Inv X pins (σ.set i (some v)) H s'->Q PUnit.unit s') (hf:X.fn x=true∨X.env.scope.names.lookup x=some .local:=by first | exact .inl rfl | exact .inr rfl | assumption):wpAny M A (storeName X.env x u) Q E s:=
 zJO I hN hi hx r (λs' I' _=>h s' I') hf
def Inv.call' {s':Shared} {ch:List Addr} (I:Inv X pins σ H s) (ho:s'.os=s.os) (u:Un (frs X.stack) ch H H' s.heap s'.heap) (hok:HOk X.prog X.w H' s'.heap) (hg:AllBare s'.gens)
  (dN:∀b∈ch,(b∈X.ex∨X.s₀.heap.objs.size<=b)/\b≠X.env.locals/\(∀x c,X.env.cells.lookup x=some c->c≠b)/\∀p∈X.pn++pins,p.1≠b):Inv X pins σ H' s':=by
 obtain⟨h',g',d',t',o'⟩:=s';have e:o'=s.os:=ho;subst e;exact I.call (g':=g') (t':=t') (d':=d') u hok hg dN
end
abbrev XK:=Value->Option Addr->Hp->Prop
abbrev St:=List (Option V)
abbrev VK:=V->Hp->Prop
abbrev TE:=St->Hp->VK->Prop
abbrev TT:=St->Hp->(Bool->Hp->Prop)->Prop
abbrev TA:=St->Hp->(List V->Hp->Prop)->Prop
structure Ends where
 nx:St->Hp->Prop
 rt:VK
 bk:St->Hp->Prop:=λ_ _=>False
 ct:St->Hp->Prop:=λ_ _=>False
abbrev TS:=Ends->St->Hp->Prop
def EP (X:Cx) (pins:List (Addr × Obj)) (σ:St) (Q:VK) (u:Value) (s':Shared):Prop:=∃v H',Inv X pins σ H' s'/\zBg v u/\Q v H'
def TP (X:Cx) (pins:List (Addr × Obj)) (σ:St) (Q:Bool->Hp->Prop) (b:Bool) (s':Shared):Prop:=∃H',Inv X pins σ H' s'/\Q b H'
def AP (X:Cx) (pins:List (Addr × Obj)) (σ:St) (Q:List V->Hp->Prop) (us:List Value) (s':Shared):Prop:=∃vs H',Inv X pins σ H' s'/\zA4 vs us/\Q vs H'
def SP (X:Cx) (pins:List (Addr × Obj)) (D:Ends) (f:Flow) (s':Shared):Prop:=
 match f with
 | .next=>∃σ' H',Inv X pins σ' H' s'/\D.nx σ' H'
 | .brk=>∃σ' H',Inv X pins σ' H' s'/\D.bk σ' H'
 | .cont=>∃σ' H',Inv X pins σ' H' s'/\D.ct σ' H'
 | .ret u=>∃v σ' H',Inv X pins σ' H' s'/\zBg v u/\D.rt v H'
def PE (X:Cx) (e:Expr) (t:TE):Prop:=
 ∀(pins:List (Addr × Obj)) (s:Shared) (σ:St) (H:Hp) (Q:VK),Inv X pins σ H s->t σ H Q->wpAny (model X.prog X.w) X.A (eval e X.env) (EP X pins σ Q) X.xe s
def PT (X:Cx) (e:Expr) (t:TT):Prop:=
 ∀(pins:List (Addr × Obj)) (s:Shared) (σ:St) (H:Hp) (Q:Bool->Hp->Prop),Inv X pins σ H s->t σ H Q->wpAny (model X.prog X.w) X.A (isTrue e X.env (eval e X.env)) (TP X pins σ Q) X.xe s
def PW (X:Cx) (e:Expr) (t:TT):Prop:=
 ∀(whole:Sem Value) (pins:List (Addr × Obj)) (s:Shared) (σ:St) (H:Hp) (Q:Bool->Hp->Prop),Inv X pins σ H s->t σ H Q->wpAny (model X.prog X.w) X.A (isTrue e X.env whole) (TP X pins σ Q) X.xe s
def PW.pt {X:Cx} {e:Expr} {t:TT} (h:PW X e t):PT X e t:=h _
def PA (X:Cx) (es:List Expr) (t:TA):Prop:=
 ∀(pos:Pos) (pins:List (Addr × Obj)) (s:Shared) (σ:St) (H:Hp) (Q:List V->Hp->Prop),Inv X pins σ H s->t σ H Q->wpAny (model X.prog X.w) X.A (spliced (backTo pos (starEach es X.env))) (AP X pins σ Q) X.xe s
def PS (X:Cx) (st:Stmt) (t:TS):Prop:=
 ∀(pins:List (Addr × Obj)) (s:Shared) (σ:St) (H:Hp) (D:Ends),Inv X pins σ H s->t D σ H->wpAny (model X.prog X.w) X.A (exec st X.env) (SP X pins D) X.xe s
def PSs (X:Cx) (st:List Stmt) (t:TS):Prop:=
 ∀(pins:List (Addr × Obj)) (s:Shared) (σ:St) (H:Hp) (D:Ends),Inv X pins σ H s->t D σ H->wpAny (model X.prog X.w) X.A (execs st X.env) (SP X pins D) X.xe s
def thn {α:Type} {t:Sem α} {Q Q':α->Shared->Prop} {M:Model} {A:Around} {E:Value->Shared->Prop} {s:Shared} (h:wpAny M A t Q E s) (hQ:∀a s,Q a s->Q' a s):wpAny M A t Q' E s:=wHH h hQ λ_ _ x=>x
section
variable {X:Cx}
inductive VarAt (i:Nat) (σ:St) (H:Hp) (Q:VK):Prop
 | mk (v:_):(σ[i]?=some (some v))->Q v H->VarAt i σ H Q
def zRu (i:Nat):TE:=λσ H Q=>VarAt i σ H Q
def tC (v:V):TE:=λ_ H Q=>Q v H
def zPD {i:Nat} {x:Str} {pos:Pos} (hN:X.N[i]?=some x) (hv:Vis X.env.scope x) (hd:(x == ("__debug__":Str))=false:=by decide) (aQ:(x == ("__classdict__":Str))=false:=by decide):PE X (.Name x pos) (zRu i):=by
 intro pins s σ H Q I h;obtain⟨v,e,h⟩:=h;obtain⟨m,hn,hl⟩:=I.loc;obtain⟨u,r,l⟩:=hl i x v hN e hv;have fin:EP X pins σ Q u s:=⟨v,H,I,r,h⟩;rcases l with ⟨hk,hm⟩ | ⟨hk,c,hc,bU⟩
 ·exact wpAny_Name (wpAny_loadName_local I.ok.kind hk hn hm fin) hd
 rcases hk with hk | hk
 ·exact wpAny_Name (wpAny_loadName_cell I.ok.kind hk hc bU fin) hd
 exact wpAny_Name (wpAny_loadName_free I.ok.kind hk hc bU fin aQ) hd
def zH {i j pos}:PE X (.Constant (.int i) j pos) (tC (.int i)):=λ_ _ _ H _ I h=>wpAny_Constant_int ⟨.int i,H,I.tok _,⟨_,rfl⟩,h⟩
def zAT {b j pos}:PE X (.Constant (.bool b) j pos) (tC (.bl b)):=λ_ _ _ H _ I h=>Constant_bool ⟨.bl b,H,I,rfl,h⟩
def zI8 {j pos}:PE X (.Constant .none j pos) (tC .non):=λ_ _ _ H _ I h=>Constant_none ⟨.non,H,I,rfl,h⟩
def zAK {x j pos}:PE X (.Constant (.str x) j pos) (tC (.str x)):=λ_ _ _ H _ I h=>Calls.Constant_str ⟨.str x,H,I.tok _,⟨_,rfl⟩,h⟩
def Gl (X:Cx) (x:Str):Prop:=X.env.kindOf x=some .globalImplicit
def zBP {E:Value->Shared->Prop} {pins:List (Addr × Obj)} {s:Shared} {σ:St} {H:Hp} {x:Str} {u:Value} {pos:Pos} {Q:Value->Shared->Prop} (I:Inv X pins σ H s) (hg:Gl X x) (hm:X.mg x=some u) (h:Q u s)
  (hd:(x == ("__debug__":Str))=false:=by decide):wpAny (model X.prog X.w) X.A (eval (.Name x pos) X.env) Q E s:=
 Calls.Name_function_global I.ok.kind hg (Calls.loadGlobal_global (by rw[I.ok.glob];exact I.mod.glob.keeps I.bk) hm h) hd
def zDq {E:Value->Shared->Prop} {pins:List (Addr × Obj)} {s:Shared} {σ:St} {H:Hp} {x:Str} {u:Value} {pos:Pos} {Q:Value->Shared->Prop} (I:Inv X pins σ H s) (hg:Gl X x) (hm:X.mg x=none) (hv:bootBuiltins x=some u) (h:Q u s)
  (hn:x≠"__name__":=by decide) (hd:(x == ("__debug__":Str))=false:=by decide):wpAny (model X.prog X.w) X.A (eval (.Name x pos) X.env) Q E s:=by
 obtain⟨mb,h1,h2⟩:=I.mod.blt;exact Calls.Name_function_global I.ok.kind hg (Calls.loadGlobal_builtin (by rw[I.ok.glob];exact I.mod.glob.keeps I.bk) hm (by rw[I.ok.blt];exact h1.keeps I.bk) ((h2 x hn).trans hv) h) hd
def zA2 {x:Str} {v:V} {u:Value} {pos:Pos} (hg:Gl X x) (hm:X.mg x=some u) (r:zBg v u) (hd:(x == ("__debug__":Str))=false:=by decide):PE X (.Name x pos) (tC v):=
 λ_ _ _ H _ I h=>zBP I hg hm ⟨v,H,I,r,h⟩ hd
def zBC {x:Str} {v:V} {u:Value} {pos:Pos} (hg:Gl X x) (hm:X.mg x=none) (hv:bootBuiltins x=some u) (r:zBg v u) (hn:x≠"__name__":=by decide) (hd:(x == ("__debug__":Str))=false:=by decide):PE X (.Name x pos) (tC v):=
 λ_ _ _ H _ I h=>zDq I hg hm hv ⟨v,H,I,r,h⟩ hn hd
variable {a b:Expr} {ta tb:TE} {pos:Pos}
inductive IsB (Q:Bool->Hp->Prop) (x:V) (H1:Hp):Prop
 | mk (c:_):(x=.bl c)->Q c H1->IsB Q x H1
def tB (t:TE):TT:=λσ H Q=>t σ H λx H1=>IsB Q x H1
def zA1 {e:Expr} {t:TE} (h:PE X e t) (he:∀whole,isTrue e X.env whole=(do let v ← whole;standAt e.pos;holding [v] (truthy v)):=by intro _;rfl):PT X e (tB t):=by intro pins s σ H Q I hw;refine isTrue_plain (thn (h pins s σ H _ I hw) λv s1 ⟨x,H1,I1,r1,q1⟩=>?_) (he _);obtain⟨d,rfl,q⟩:=q1;cases r1;exact wpAny_truthy_bool ⟨H1,I1,q⟩
variable {tA jx:TT} {rest:List Expr}
def zRL (t u:TT):TT:=λσ H Q=>t σ H λc H1=>if c=true then u σ H1 Q else Q false H1
def tOr (t u:TT):TT:=λσ H Q=>t σ H λc H1=>if c=true then Q true H1 else u σ H1 Q
def zRH (t:TT):TT:=λσ H Q=>t σ H λc H1=>Q (!c) H1
def zDC (ha:PT X a tA):PW X (.BoolOp .And [a] pos) tA:=by
 intro wh pins s σ H Q I h;refine isTrue_and (thn (ha pins s σ H Q I h) λc s1 e=>?_);cases c with
 | true=>exact isTrue_and_nil e
 | false=>exact e
def zCp (ha:PT X a tA):PW X (.BoolOp .Or [a] pos) tA:=by
 intro wh pins s σ H Q I h;refine isTrue_or (thn (ha pins s σ H Q I h) λc s1 e=>?_);cases c with
 | false=>exact isTrue_or_nil e
 | true=>exact e
def zEA (ha:PT X a tA) (hb:PW X (.BoolOp .And (b::rest) pos) jx):PW X (.BoolOp .And (a::b::rest) pos) (zRL tA jx):=by
 intro wh pins s σ H Q I h;refine isTrue_and (thn (ha pins s σ H _ I h) λc s1 aB=>?_);obtain⟨H1,I1,q1⟩:=aB;cases c with
 | true=>exact hb wh pins s1 σ H1 Q I1 q1
 | false=>exact⟨H1,I1,q1⟩
def zDB (ha:PT X a tA) (hb:PW X (.BoolOp .Or (b::rest) pos) jx):PW X (.BoolOp .Or (a::b::rest) pos) (tOr tA jx):=by
 intro wh pins s σ H Q I h;refine isTrue_or (thn (ha pins s σ H _ I h) λc s1 aB=>?_);obtain⟨H1,I1,q1⟩:=aB;cases c with
 | true=>exact⟨H1,I1,q1⟩
 | false=>exact hb wh pins s1 σ H1 Q I1 q1
def zAG (ha:PT X a tA):PT X (.UnaryOp .Not a pos) (zRH tA):=by intro pins s σ H Q I h;exact isTrue_not (ha pins s σ H (λc H1=>Q (!c) H1) I h)
def zQM (ta tb:TE):TE:=λσ H Q=>ta σ H λx H1=>∃c,x=.bl c/\if c=true then tb σ H1 Q else Q (.bl false) H1
def zQE (ta:TE):TE:=λσ H Q=>ta σ H λx H1=>∃c,x=.bl c/\Q (.bl (!c)) H1
def zI7 {op} {t:TE} (h:PE X a t):PE X (.BoolOp op [a] pos) t:=λpins s σ H Q I hw=>BoolOp_one (h pins s σ H Q I hw)
def zIB (ha:PE X a ta) (hb:PE X (.BoolOp .And (b::rest) pos) tb):PE X (.BoolOp .And (a::b::rest) pos) (zQM ta tb):=by
 intro pins s σ H Q I h;refine BoolOp_and (thn (ha pins s σ H _ I h) λv s1 aB=>?_);obtain⟨x,H1,I1,r1,q1⟩:=aB;obtain⟨c,rfl,q1⟩:=q1;cases r1;refine wpAny_truthy_bool ?_;cases c with
 | true=>exact hb pins s1 σ H1 Q I1 q1
 | false=>exact⟨.bl false,H1,I1,rfl,q1⟩
def zPF (ha:PE X a ta):PE X (.UnaryOp .Not a pos) (zQE ta):=by intro pins s σ H Q I h;refine UnaryOp_ (thn (ha pins s σ H _ I h) λv s1 aB=>?_);obtain⟨x,H1,I1,r1,q1⟩:=aB;obtain⟨c,rfl,q1⟩:=q1;cases r1;exact not_of (wpAny_truthy_bool ⟨.bl (!c),H1,I1,rfl,q1⟩)
end
def SqL (K:W.Frag) (H:Hp) (a:Addr) (xs:List V):Prop:=
 Rd H a (.lst xs)∨
  ∃(o:Obj) (its:Array Value) (n:Nat),K.lookup a=some o/\o.cls=.type "list"/\o.dict=none/\o.data=.seq its n/\its.size<=sizeLine/\zA4 xs its.toList
def SqT (K:W.Frag) (H:Hp) (a:Addr) (xs:List V):Prop:=
 Rd H a (.tup xs)∨
  ∃(o:Obj) (its:Array Value) (n:Nat),K.lookup a=some o/\o.cls=.type "tuple"/\o.data=.seq its n/\its.size<=sizeLine/\zA4 xs its.toList
def zSd:Value->Option V
 | .none=>some .non
 | .bool b=>some (.bl b)
 | .int i _=>some (.int i)
 | .str x _=>some (.str x)
 | .bytes b _=>some (.byt b)
 | .float b _=>some (.flt b)
 | .ref a=>some (.ref a)
 | .type n=>some (.ty n)
 | _=>none
def zBg.abs {x:V} {u:Value} (r:zBg x u):zSd u=some x:=by
 cases x with
 | non=>cases r;rfl
 | bl _=>cases r;rfl
 | int _=>obtain⟨t,rfl⟩:=r;rfl
 | str _=>obtain⟨t,rfl⟩:=r;rfl
 | byt _=>obtain⟨t,rfl⟩:=r;rfl
 | flt _=>obtain⟨t,rfl⟩:=r;rfl
 | ref _=>cases r;rfl
 | ty _=>cases r;rfl
def zBg.inj {x y:V} {u:Value} (r:zBg x u) (q:zBg y u):x=y:=wHo (r.abs.symm.trans q.abs)
theorem zA4.inj:∀{xs ys:List V} {us:List Value},zA4 xs us->zA4 ys us->xs=ys
 | _,_,_,.nil,.nil=>rfl
 | _,_,_,.cons r t,.cons r' t'=>by rw[r.inj r',zA4.inj t t']
section
variable {X:Cx} {pins:List (Addr × Obj)} {σ:St} {H:Hp} {s:Shared} {a:Addr} {xs ys:List V}
def SqL.of {K:W.Frag} (h:H a=some (.lst xs)):SqL K H a xs:=.inl (.inl h)
def SqT.of {K:W.Frag} (h:H a=some (.tup xs)):SqT K H a xs:=.inl (.inl h)
def Inv.list (I:Inv X pins σ H s) (h:SqL X.K H a xs):∃its:List Value,zA4 xs its/\PlainL s.heap a its.toArray/\xs.length<=sizeLine:=by
 rcases h with h | ⟨o,its,n,hk,hc,hd,hs,hz,r⟩
 ·obtain⟨z,its,n,r,e⟩:=h.ok I.hok;exact⟨its,r,⟨_,n,e,rfl,rfl,rfl⟩,z⟩
 refine⟨its.toList,r,⟨o,n,I.kIn a o hk,hc,hd,by simpa using hs⟩,?_⟩;have e:=r.length;simp only[wH3] at e;omega
def Inv.tuple (I:Inv X pins σ H s) (h:SqT X.K H a xs):∃its:List Value,zA4 xs its/\IsTup s.heap a its.toArray/\xs.length<=sizeLine:=by
 rcases h with h | ⟨o,its,n,hk,hc,hs,hz,r⟩
 ·obtain⟨z,its,r,p⟩:=h.ok I.hok;exact⟨its,r,p,z⟩
 refine⟨its.toList,r,⟨o,I.kIn a o hk,hc,n,by simpa using hs⟩,?_⟩;have e:=r.length;simp only[wH3] at e;omega
def Inv.list_inj (I:Inv X pins σ H s) (h:SqL X.K H a xs) (h':SqL X.K H a ys):xs=ys:=by
 obtain⟨its,r,⟨o,n,e,_,_,d⟩,_⟩:=I.list h;obtain⟨its',r',⟨o',n',e',_,_,d'⟩,_⟩:=I.list h';rw[e] at e';cases e';rw[d] at d'
 injection d' with d1 _
 have:its=its':=by simpa using congrArg Array.toList d1
 subst this;exact r.inj r'
end
abbrev Cx.wish (X:Cx) (E:Value->Shared->Prop):Cx:={ X with xe:=E }
abbrev Cx.nox (X:Cx):Cx:=X.wish λ_ _=>False
def Cx.Ok.wish {X:Cx} (ok:X.Ok) (E:Value->Shared->Prop):(X.wish E).Ok:=
 ⟨ok.mod,ok.kind,ok.glob,ok.blt,ok.above,ok.inj,ok.has,ok.cab,ok.hd,ok.frames,ok.stk,ok.exf,ok.bs,ok.bsz,ok.noex,ok.exfs,ok.funs,ok.frf⟩
def Cx.Ok.unwish {X:Cx} {E:Value->Shared->Prop} (ok:(X.wish E).Ok):X.Ok:=
 ⟨ok.mod,ok.kind,ok.glob,ok.blt,ok.above,ok.inj,ok.has,ok.cab,ok.hd,ok.frames,ok.stk,ok.exf,ok.bs,ok.bsz,ok.noex,ok.exfs,ok.funs,ok.frf⟩
section
variable {X:Cx} {pins:List (Addr × Obj)} {σ:St} {H:Hp} {s:Shared} {E:Value->Shared->Prop}
def Inv.wish (I:Inv X pins σ H s) (E:Value->Shared->Prop):Inv (X.wish E) pins σ H s:=⟨I.ok.wish E,I.os,I.bare,I.base,I.loc,I.cell,I.free,I.freeC,I.pin,I.hok,I.len⟩
def Inv.unwish (I:Inv (X.wish E) pins σ H s):Inv X pins σ H s:=⟨I.ok.unwish,I.os,I.bare,I.base,I.loc,I.cell,I.free,I.freeC,I.pin,I.hok,I.len⟩
def SP.unwish {D:Ends} {f:Flow} {s':Shared} (h:SP (X.wish E) pins D f s'):SP X pins D f s':=by
 cases f with
 | next=>obtain⟨σ',H',I,q⟩:=h;exact⟨σ',H',I.unwish,q⟩
 | brk=>obtain⟨σ',H',I,q⟩:=h;exact⟨σ',H',I.unwish,q⟩
 | cont=>obtain⟨σ',H',I,q⟩:=h;exact⟨σ',H',I.unwish,q⟩
 | ret u=>obtain⟨v,σ',H',I,r,q⟩:=h;exact⟨v,σ',H',I.unwish,r,q⟩
def PE.nox {e:Expr} {t:TE} (h:PE X.nox e t):PE X e t:=λpins s σ H Q I hw=>
 wHH (h pins s σ H Q (I.wish _) hw) (λ_ _ ⟨v,H',I',r,q⟩=>⟨v,H',I'.unwish,r,q⟩) λ_ _ z=>wHX z
def PT.nox {e:Expr} {t:TT} (h:PT X.nox e t):PT X e t:=λpins s σ H Q I hw=>
 wHH (h pins s σ H Q (I.wish _) hw) (λ_ _ ⟨H',I',q⟩=>⟨H',I'.unwish,q⟩) λ_ _ z=>wHX z
def PSs.nox {st:List Stmt} {t:TS} (h:PSs X.nox st t):PSs X st t:=λpins s σ H D I hw=>
 wHH (h pins s σ H D (I.wish _) hw) (λ_ _ q=>q.unwish) λ_ _ z=>wHX z
end
section
variable {X:Cx} {st:Stmt} {rest:List Stmt} {t u:TS} {e:Expr} {te:TE} {pos:Pos}
def zQF:TS:=λD σ H=>D.nx σ H
def zJN (t u:TS):TS:=λD σ H=>t { D with nx:=u D } σ H
def zZ:PSs X [] zQF:=λ_ _ σ H _ I h=>wpAny_execs_nil ⟨σ,H,I,h⟩
def zC (h1:PS X st t) (h2:PSs X rest u):PSs X (st::rest) (zJN t u):=by
 intro pins s σ H D I h;refine wpAny_execs_cons (thn (h1 pins s σ H { D with nx:=u D } I h) λf s1 q=>?_);cases f with
 | next=>
  obtain⟨σ',H',I',q⟩:=q;exact h2 pins s1 σ' H' D I' q
 | ret v=>exact q
 | brk=>exact q
 | cont=>exact q
def zF (h1:PS X st t):PSs X [st] t:=by
 intro pins s σ H D I h;refine wpAny_execs_cons (thn (h1 pins s σ H D I h) λf s1 q=>?_);cases f with
 | next=>exact wpAny_execs_nil q
 | ret v=>exact q
 | brk=>exact q
 | cont=>exact q
def Inv.quiet {pins:List (Addr × Obj)} {σ:St} {H:Hp} {s:Shared} (I:Inv X pins σ H s):interactive X.env=false:=by simp[interactive,I.ok.kind]
def zQI (te:TE):TS:=λD σ H=>te σ H λ_ H1=>D.nx σ H1
def zAm (he:PE X e te) (hs:swapsWith e none pos.line X.env=pure false:=by rfl):PS X (.Expr e pos) (zQI te):=by intro pins s σ H D I h;exact wpAny_Expr_any (thn (he pins s σ H _ I h) λv s1 ⟨x,H1,I1,r1,q1⟩=>⟨σ,H1,I1,q1⟩) I.quiet hs
def zRG (te:TE):TS:=λD σ H=>te σ H D.rt
def zT (he:PE X e te):PS X (.Return (some e) pos) (zRG te):=by intro pins s σ H D I h;exact wpAny_Return_some (thn (he pins s σ H _ I h) λv s1 ⟨x,H1,I1,r1,q1⟩=>⟨x,σ,H1,I1,r1,q1⟩)
def zRI (c:TT) (t u:TS):TS:=λD σ H=>c σ H λb H1=>if b=true then t D σ H1 else u D σ H1
def zAs {c:Expr} {a b:List Stmt} {tc:TT} (hc:PT X c tc) (ha:PSs X a t) (hb:PSs X b u):PS X (.If c a b pos) (zRI tc t u):=by
 intro pins s σ H D I h;refine wpAny_If (thn (hc pins s σ H _ I h) λd s1 aB=>?_);obtain⟨H1,I1,q1⟩:=aB;cases d with
 | true=>exact ha pins s1 σ H1 D I1 q1
 | false=>exact hb pins s1 σ H1 D I1 q1
end
abbrev TG:=V->St->Hp->(St->Hp->Prop)->Prop
abbrev TGs:=List V->St->Hp->(St->Hp->Prop)->Prop
def PG (X:Cx) (target:Expr) (t:TG):Prop:=
 ∀(pins:List (Addr × Obj)) (s:Shared) (σ:St) (H:Hp) (v:V) (u:Value) (Q:St->Hp->Prop),Inv X pins σ H s->zBg v u->t v σ H Q->
  wpAny (model X.prog X.w) X.A (assign target X.env u) (λ_ s'=>∃σ' H',Inv X pins σ' H' s'/\Q σ' H') X.xe s
def PGs (X:Cx) (ts:List Expr) (t:TGs):Prop:=
 ∀(pins:List (Addr × Obj)) (s:Shared) (σ:St) (H:Hp) (vs:List V) (us:List Value) (Q:St->Hp->Prop),Inv X pins σ H s->zA4 vs us->t vs σ H Q->
  wpAny (model X.prog X.w) X.A (assignInOrder ((assignEach ts X.env).map (·.2)) us) (λ_ s'=>∃σ' H',Inv X pins σ' H' s'/\Q σ' H') X.xe s
abbrev zQw:=V->V->V->Hp->(Hp->Prop)->Prop
def zRq (X:Cx) (t:zQw):Prop:=
 ∀(pins:List (Addr × Obj)) (s:Shared) (σ:St) (H:Hp) (o i v:V) (ov iv u:Value) (Q:Hp->Prop),Inv X pins σ H s->zBg o ov->zBg i iv->zBg v u->t o i v H Q->
  wpAny (model X.prog X.w) X.A (setItem ov iv u) (λ_ s'=>∃H',Inv X pins σ H' s'/\Q H') X.xe s
abbrev TIp:=V->V->Hp->VK->Prop
def PIp (X:Cx) (op:Operator) (t:TIp):Prop:=
 ∀(pins:List (Addr × Obj)) (s:Shared) (σ:St) (H:Hp) (x y:V) (v u:Value) (Q:VK),Inv X pins σ H s->zBg x v->zBg y u->t x y H Q->
  wpAny (model X.prog X.w) X.A (inplaceOp op v u) (EP X pins σ Q) X.xe s
section
variable {X:Cx} {pos:Pos}
def zIm (i:Nat):TG:=λv σ H Q=>Q (σ.set i (some v)) H
def zJ {i:Nat} {x:Str} (hN:X.N.Nodup) (hi:X.N[i]?=some x) (hx:Loc X.env.scope x) (hf:X.fn x=true∨X.env.scope.names.lookup x=some .local:=by first | exact .inl rfl | exact .inr rfl | assumption):PG X (.Name x pos) (zIm i):=by intro pins s σ H v u Q I r h;exact wpAny_assign_Name (zCY I hN hi hx r (λs' I'=>⟨_,H,I',h⟩) hf)
def zSa:TGs:=λvs σ H Q=>vs=[]/\Q σ H
inductive GCons (t:TG) (u:TGs) (vs:List V) (σ:St) (H:Hp) (Q:St->Hp->Prop):Prop
 | mk (v:_) (r:_):(vs=v::r)->(t v σ H λσ' H'=>u r σ' H' Q)->GCons t u vs σ H Q
def zRb (t:TG) (u:TGs):TGs:=λvs σ H Q=>GCons t u vs σ H Q
def zAp:PGs X [] zSa:=by intro pins s σ H vs us Q I r h;obtain⟨e,h⟩:=h;subst e;cases r;exact assignInOrder_nil ⟨σ,H,I,h⟩
def zP {e:Expr} {es:List Expr} {t:TG} {u:TGs} (h1:PG X e t) (h2:PGs X es u)
  (hs:(assignEach (e::es) X.env).map (·.2)=assign e X.env::(assignEach es X.env).map (·.2):=by rfl):PGs X (e::es) (zRb t u):=by
 intro pins s σ H vs us Q I r h;obtain⟨v,vr,e1,h⟩:=h;subst e1;cases r with
 | cons r rr=>
  rw[hs];refine assignInOrder_cons (thn (h1 pins s σ H _ _ _ I r h) λ_ s1 aB=>?_);obtain⟨σ1,H1,I1,q1⟩:=aB;exact h2 pins s1 σ1 H1 _ _ Q I1 rr q1
inductive GTup (K:W.Frag) (n:Nat) (t:TGs) (v:V) (σ:St) (H:Hp) (Q:St->Hp->Prop):Prop
 | mk (a:_) (xs:_):(v=.ref a)->SqT K H a xs->(xs.length=n)->t xs σ H Q->GTup K n t v σ H Q
def zR3 (K:W.Frag) (n:Nat) (t:TGs):TG:=λv σ H Q=>GTup K n t v σ H Q
def zPB {es:List Expr} {k:Nat} {t:TGs} {n:Nat} (hc:X.calm=true) (h:PGs X es t)
  (hn:(assignEach es X.env).length=n:=by rfl) (bF:(assignEach es X.env).findIdx? (·.1)=none:=by rfl):PG X (.Tuple es k pos) (zR3 X.K n t):=by
 intro pins s σ H v u Q I r hw;obtain⟨a,xs,e1,hq,hl,hw⟩:=hw;subst e1;cases r;obtain⟨its,rv,ht,hz⟩:=I.tuple hq;refine assign_Tuple_tuple (I.ok.hd hc) ht (by simp[hn,← hl,rv.length]) bF λh' hx=>?_;have I1:Inv X pins σ H { s with heap:=h' }:=I.kept (t':=s.toks) λb o e=>hx b o (wHu (wHq e)) e;exact h pins _ σ H xs _ Q I1 (by simpa using rv) hw
def zRZ (to ti:TE) (t:zQw):TG:=λv σ H Q=>to σ H λo H1=>ti σ H1 λi H2=>t o i v H2 λH3=>Q σ H3
def zFA {o i:Expr} {to ti:TE} {t:zQw} (ho:PE X o to) (hi:PE X i ti) (hs:zRq X t)
  (ha:∀v,assign (.Subscript o i pos) X.env v=(do
   let ov ← holding [v] (eval o X.env)
   let iv ← holding [v,ov] (eval i X.env)
   standAt pos
   holding [v,ov,iv] (setItem ov iv v)
   release [v,ov,iv] []):=by intro _;rfl):PG X (.Subscript o i pos) (zRZ to ti t):=by
 intro pins s σ H v u Q I r h;rw[ha];refine wHe (wHZ (thn (ho pins s σ H _ I h) λov s1 aB=>?_));obtain⟨x,H1,I1,r1,q1⟩:=aB;refine wHe (wHZ (thn (hi pins s1 σ H1 _ I1 q1) λiv s2 aB=>?_));obtain⟨y,H2,I2,r2,q2⟩:=aB;refine wHe (wpAny_standAt (wHe (wHZ (thn (hs pins s2 σ H2 x y v ov iv u _ I2 r1 r2 r q2) λ_ s3 aB=>?_))));obtain⟨H3,I3,q3⟩:=aB;exact wpAny_release ⟨σ,H3,I3,q3⟩
def zQL (te:TE) (g:TG):TS:=λD σ H=>te σ H λx H1=>g x σ H1 D.nx
def zDR {tg e:Expr} {te:TE} {g:TG} (he:PE X e te) (hg:PG X tg g) (hs:swapsWithSole [tg] e pos.line X.env=pure false:=by rfl) (hw:swappedStores [tg] e X.env=pure none:=by rfl)
  (h1:(assignEach [tg] X.env).map (·.2)=[assign tg X.env]:=by rfl):PS X (.Assign [tg] e pos) (zQL te g):=by
 intro pins s σ H D I h;refine wpAny_Assign_stores (thn (he pins s σ H _ I h) λv s1 ⟨x,H1,I1,r1,q1⟩=>?_) hs hw;rw[h1];exact thn (hg pins s1 σ H1 x v _ I1 r1 q1) λ_ s2 q=>q
def zBe {i:Nat} {x:Str} {e:Expr} {te:TE} {pos':Pos} (hN:X.N.Nodup) (hi:X.N[i]?=some x) (hx:Loc X.env.scope x) (he:PE X e te) (hs:swapsWith e (some (.Name x pos')) pos.line X.env=pure false:=by rfl) (hf:X.fn x=true∨X.env.scope.names.lookup x=some .local:=by first | exact .inl rfl | exact .inr rfl | assumption) :
  PS X (.Assign [.Name x pos'] e pos) (zQL te (zIm i)):=by
 intro pins s σ H D I h;refine wpAny_Assign_Name (thn (he pins s σ H _ I h) λv s1 ⟨y,H1,I1,r1,q1⟩=>?_) hs;exact zCY I1 hN hi hx r1 (λs2 I2=>⟨_,H1,I2,q1⟩) hf
def zQK (to ti te:TE) (dU:V->V->Hp->VK->Prop) (jt:TIp) (dS:zQw):TS:=λD σ H=>to σ H λo H1=>ti σ H1 λi H2=>dU o i H2 λx H3=>te σ H3 λy H4=>jt x y H4 λz H5=>dS o i z H5 λH6=>D.nx σ H6
def zRA (X:Cx) (t:V->V->Hp->VK->Prop):Prop:=
 ∀(pins:List (Addr × Obj)) (s:Shared) (σ:St) (H:Hp) (o i:V) (ov iv:Value) (Q:VK),Inv X pins σ H s->zBg o ov->zBg i iv->t o i H Q->
  wpAny (model X.prog X.w) X.A (getItem ov iv) (EP X pins σ Q) X.xe s
def zDD {o i e:Expr} {to ti te:TE} {dU:V->V->Hp->VK->Prop} {jt:TIp} {dS:zQw} {op:Operator} {gJ:Pos} (ho:PE X o to) (hi:PE X i ti) (hg:zRA X dU) (he:PE X e te) (hp:PIp X op jt) (hs:zRq X dS)
  (ha:∀ov iv new,augStore i ov iv new=(do holding [new,ov,iv] (setItem ov iv new);release [new,ov,iv] [];pure .next):=by intros;rfl):PS X (.AugAssign (.Subscript o i gJ) op e pos) (zQK to ti te dU jt dS):=by
 intro pins s σ H D I h;refine wpAny_AugAssign_SubscriptAny (thn (ho pins s σ H _ I h) λov s1 ⟨x1,H1,I1,r1,q1⟩=>?_) ha;refine thn (hi pins s1 σ H1 _ I1 q1) λiv s2 aB=>?_;obtain⟨x2,H2,I2,r2,q2⟩:=aB;refine thn (hg pins s2 σ H2 x1 x2 ov iv _ I2 r1 r2 q2) λold s3 aB=>?_;obtain⟨x3,H3,I3,r3,q3⟩:=aB;refine thn (he pins s3 σ H3 _ I3 q3) λv s4 aB=>?_;obtain⟨x4,H4,I4,r4,q4⟩:=aB;refine thn (hp pins s4 σ H4 x3 x4 old v _ I4 r3 r4 q4) λnew s5 aB=>?_;obtain⟨x5,H5,I5,r5,q5⟩:=aB;exact thn (hs pins s5 σ H5 x1 x2 x5 ov iv new _ I5 r1 r2 r5 q5) λ_ s6 ⟨H6,I6,q6⟩=>⟨σ,H6,I6,q6⟩
def ipI (f:Int->Int->Int):TIp:=λx y H Q=>∃i j,x=.int i/\y=.int j/\Q (.int (f i j)) H
def zKY:PIp X .Add (ipI λi j=>i+j):=by intro pins s σ H x y v u Q I r1 r2 h;obtain⟨i,j,e1,e2,q⟩:=h;subst e1;subst e2;obtain⟨t,rfl⟩:=r1;obtain⟨t',rfl⟩:=r2;exact iadd_int ⟨.int _,H,I.tok _,⟨_,rfl⟩,q⟩
def zKX:PIp X .Sub (ipI λi j=>i-j):=by intro pins s σ H x y v u Q I r1 r2 h;obtain⟨i,j,e1,e2,q⟩:=h;subst e1;subst e2;obtain⟨t,rfl⟩:=r1;obtain⟨t',rfl⟩:=r2;exact isub_int ⟨.int _,H,I.tok _,⟨_,rfl⟩,q⟩
def zPl (c:TT) (tb:TS):TS:=λD σ H=>∃W:Nat->St->Hp->Prop,(∃m,W m σ H)/\∀m σ H,W m σ H->
 c σ H λb H1=>if b=true then ∃N:St->Hp->Prop,(∀σ' H',N σ' H'->∃m',m' < m/\W m' σ' H')/\tb { D with nx:=N,ct:=N,bk:=D.nx } σ H1 else D.nx σ H1
def zGd {c:Expr} {body:List Stmt} {tc:TT} {tb:TS} (hp:PassesOwn (model X.prog X.w) X.A X.env X.xe) (hc:PT X c tc) (hb:PSs X body tb):PS X (.While c body [] pos) (zPl tc tb):=by
 intro pins s σ H D I h;obtain⟨W,⟨m0,w0⟩,turn⟩:=h;refine wpAny_While (codeAny_whileLoop (λn s'=>∃σ' H',Inv X pins σ' H' s'/\W n σ' H') ?_ m0 ⟨σ,H,I,w0⟩);rintro n s1 ⟨σ1,H1,I1,w1⟩;refine wpAny_passesOwn hp (thn (hc pins s1 σ1 H1 _ I1 (turn n σ1 H1 w1)) λb s2 aB=>?_);obtain⟨H2,I2,q2⟩:=aB;cases b with
 | true=>
  obtain⟨N,hN,q2⟩:=q2;rw[wHl rfl];refine wpAny_passesOwn hp (thn (hb pins s2 σ1 H2 _ I2 q2) λf s3 q3=>?_);cases f with
  | next=>
   obtain⟨σ3,H3,I3,n3⟩:=q3;obtain⟨m',hm,w3⟩:=hN σ3 H3 n3;exact⟨m',hm,σ3,H3,I3,w3⟩
  | cont=>
   obtain⟨σ3,H3,I3,n3⟩:=q3;obtain⟨m',hm,w3⟩:=hN σ3 H3 n3;exact⟨m',hm,σ3,H3,I3,w3⟩
  | brk=>exact q3
  | ret v=>exact q3
 | false=>
  rw[wHj wHx];exact wpAny_execs_nil ⟨σ1,H2,I2,q2⟩
end
structure It where
 go:Nat->Hp->Prop
 yld:Nat->Hp->V->Hp->Prop
 stop:Nat->Hp->Prop
def zEk (X:Cx) (pins:List (Addr × Obj)) (H:Hp) (b:Addr):Prop:=
 H b=none/\b≠X.env.locals/\b∉X.fs/\(b∈X.ex∨X.s₀.heap.objs.size<=b)/\(∀x c,X.env.cells.lookup x=some c->c≠b)/\∀p∈X.pn++pins,p.1≠b
def Inv.fpOk {X:Cx} {pins:List (Addr × Obj)} {σ:St} {H H':Hp} {s:Shared} {b:Addr} (I:Inv X pins σ H s) (hb:s.heap.objs.size<=b) (hn:H' b=none):zEk X pins H' b:=by
 refine⟨hn,Nat.ne_of_gt (wHy I.lt hb),I.nofs hb,.inr (wHv I.sz hb),λx c e z=>?_,λp hp z=>?_⟩
 ·obtain⟨v,q⟩:=I.cell x c e;exact absurd (wHy q.lt (by rw[z];exact hb)) (Nat.lt_irrefl _)
 exact absurd (wHy (wHq (I.pin p hp).1) (by rw[z];exact hb)) (Nat.lt_irrefl _)
structure Turn (P:Program) (w:World) (K:W.Frag) (tg:Expr) (J:It) (fp:List Addr) (it:Addr) (tn:Nat->Heap->Prop):Prop where
 mem:it∈fp
 obj:∀i h,tn i h->∀b∈fp,∃o,h.get? b=some o/\∀v,o.data≠.cell v
 keep:∀i h h',tn i h->(∀b∈fp,∀o,h.get? b=some o->h'.get? b=some o)->tn i h'
 item:∀(X:Cx),X.prog=P->X.w=w->X.K=K->X.calm=true->∀(i:Nat) (pins:List (Addr × Obj)) (s:Shared) (σ:St) (H:Hp) (E:Value->Shared->Prop),Inv X pins σ H s->(∀b∈fp,zEk X pins H b)->tn i s.heap->J.go i H->
  wpAny (model P w) X.A (pyNext (.ref it)) (λr s1=>∃u,r=some u/\
   wpAny (model P w) X.A (letOwnedTupleGo tg (.ref it) u) (λ_ s2=>∃x H',Inv X pins σ H' s2/\zBg x u/\J.yld i H x H'/\tn (i+1) s2.heap/\∀b∈fp,H' b=none) E s1) E s
 done:∀(X:Cx),X.prog=P->X.w=w->X.K=K->X.calm=true->∀(i:Nat) (pins:List (Addr × Obj)) (s:Shared) (σ:St) (H:Hp) (E:Value->Shared->Prop),Inv X pins σ H s->(∀b∈fp,zEk X pins H b)->tn i s.heap->J.stop i H->
  wpAny (model P w) X.A (pyNext (.ref it)) (λr s1=>r=none/\Inv X pins σ H s1) E s
 self:∀(A:Around) (i:Nat) (s:Shared) (Q:Value->Shared->Prop) (E:Value->Shared->Prop),tn i s.heap->Q (.ref it) s->wpAny (model P w) A (pyIter (.ref it)) Q E s
abbrev TI:=St->Hp->(It->Hp->Prop)->Prop
def PIE (X:Cx) (pins:List (Addr × Obj)) (σ:St) (tg:Expr) (R:It->Hp->Prop) (fT:Value) (s2:Shared):Prop:=
 ∃(it:Addr) (fp:List Addr) (tn:Nat->Heap->Prop) (J:It) (H':Hp),fT=.ref it/\Inv X pins σ H' s2/\Turn X.prog X.w X.K tg J fp it tn/\tn 0 s2.heap/\(∀b∈fp,zEk X pins H' b)/\R J H'
def PI (X:Cx) (tg iter:Expr) (wi:TI):Prop:=
 ∀(pins:List (Addr × Obj)) (s:Shared) (σ:St) (H:Hp) (R:It->Hp->Prop),Inv X pins σ H s->wi σ H R->
  wpAny (model X.prog X.w) X.A (eval iter X.env) (λv s1=>wpAny (model X.prog X.w) X.A (pyIter v) (PIE X pins σ tg R) X.xe s1) X.xe s
def zLf {M:Model} {A:Around} {E:Value->Shared->Prop} {s:Shared} {tg:Expr} {it:Addr} {u:Value} {o:Obj} {n:String} {vs:Array Value} {Q:Unit->Shared->Prop} (ho:s.heap.get? it=some o) (hc:o.cls=.type n) (hd:o.data=.fields vs)
  (hn:["enumerate","zip","dict_itemiterator","dict_reverseitemiterator","odict_iterator","itertools.zip_longest","itertools.pairwise"].contains n=false) (hQ:Q PUnit.unit s):wpAny M A (letOwnedTupleGo tg (.ref it) u) Q E s:=by
 unfold letOwnedTupleGo;cases tg<;>first
  | exact wHk hQ
  | (cases u<;>first
    | exact wHk hQ
    | (refine wHe (wpAny_load ho ?_)
       rw[hc,hd];show wpAny M A (if (["enumerate","zip","dict_itemiterator","dict_reverseitemiterator","odict_iterator","itertools.zip_longest","itertools.pairwise"].contains n && vs[0]? == some (rawInt _))=true then _ else _) Q E s;rw[wHj (by intro h;rw[hn,Bool.false_and] at h;cases h)];exact wHk hQ))
def Itl (K:W.Frag) (a:Addr):It:=
 ⟨λi H=>∃xs x,SqL K H a xs/\xs[i]?=some x,λi H x H'=>H'=H/\∀xs,SqL K H a xs->xs[i]?=some x,λi H=>∃xs,SqL K H a xs/\xs.length<=i⟩
def Itr (lo:Int) (n:Nat):It:=⟨λi _=>i < n,λi H x H'=>H'=H/\x=.int (lo+i),λi _=>n<=i⟩
def zJK {P:Program} {w:World} {K:W.Frag} {tg:Expr} (a it:Addr):Turn P w K tg (Itl K a) [it] it (λi h=>h.IsListIter it a i) where
 mem:=by simp
 obj:=λi h st b hb=>by
  have e:b=it:=by simpa using hb
  subst e;obtain⟨o,e,c,d⟩:=st;exact⟨o,e,λv z=>by rw[d] at z;cases z⟩
 keep:=λi h h' st k=>st.at λo e=>k it (by simp) o e
 item:=by intro X hP hw hK hc i pins s σ H E I hf st hg;subst hP hw hK;obtain⟨xs,x,hq,hx⟩:=hg;obtain⟨its,rv,p,hz⟩:=I.list hq;obtain⟨u,hu,ru⟩:=rv.get hx;obtain⟨f0,f1,f2,f3,f4,f5⟩:=hf it (by simp);refine wpAny_pyNext_list_item st p.isList (x:=u) (by simpa using hu) λh' aV sb=>?_;have I1:Inv X pins σ H { s with heap:=h' }:=I.turned (t':=s.toks) (λb o hb e=>(sb.2 b hb).trans e) f0 f1 f3 f4 f5;obtain⟨o,e,c,d⟩:=id aV;exact⟨u,rfl,zLf (s:={ s with heap:=h' }) e c d ⋯ ⟨x,H,I1,ru,⟨rfl,λys hy=>by rw[I.list_inj hy hq];exact hx⟩,aV,λb hb=>(hf b hb).1⟩⟩
 done:=by intro X hP hw hK hc i pins s σ H E I hf st hg;subst hP hw hK;obtain⟨xs,hq,hx⟩:=hg;obtain⟨its,rv,p,hz⟩:=I.list hq;obtain⟨f0,f1,f2,f3,f4,f5⟩:=hf it (by simp);have hl:=rv.length;exact wpAny_pyNext_list_end (I.ok.hd hc) st p.isList (by simp;omega) λh' eb=>⟨rfl,I.turned (t':=s.toks) (λb o hb e=>eb b o hb e) f0 f1 f3 f4 f5⟩
 self:=λ_ _ _ _ _ st h=>wpAny_pyIter_listiter st h
def zIW {P:Program} {w:World} {K:W.Frag} {tg:Expr} (it:Addr) (lo:Int) (n:Nat):Turn P w K tg (Itr lo n) [it] it (λi h=>IsRangeIter h it (lo+(i:Nat)*1) ((n:Int)-(i:Nat)) 1) where
 mem:=by simp
 obj:=λi h st b hb=>by
  have e:b=it:=by simpa using hb
  subst e;exact⟨_,st,λv z=>by have z':Data.fields _=Data.cell v:=z;cases z'⟩
 keep:=λi h h' st k=>k it (by simp) _ st
 item:=by intro X hP hw hK hc i pins s σ H E I hf st hg;subst hP hw hK;obtain⟨f0,f1,f2,f3,f4,f5⟩:=hf it (by simp);have W:=Walks.range (prog:=X.prog) (w:=X.w) (I.ok.hd hc) it lo 1 n;refine W.item i s _ _ hg st λv h' tk hv aV kk=>?_;obtain⟨t,rfl⟩:=hv;have I1:Inv X pins σ H { s with heap:=h',toks:=tk }:=I.turned (λb o hb e=>kk b o (by simpa using hb) e) f0 f1 f3 f4 f5;refine⟨_,rfl,zLf (s:={ s with heap:=h',toks:=tk }) (n:="range_iterator") aV rfl rfl ⋯ ⟨.int (lo+i),H,I1,⟨t,?_⟩,⟨rfl,rfl⟩,aV,λb hb=>(hf b hb).1⟩⟩;rw[Int.mul_one]
 done:=by intro X hP hw hK hc i pins s σ H E I hf st hg;subst hP hw hK;obtain⟨f0,f1,f2,f3,f4,f5⟩:=hf it (by simp);exact wpAny_pyNext_range_end (I.ok.hd hc) st (by have:n<=i:=hg;omega) λh' eb=>⟨rfl,I.turned (t':=s.toks) (λb o hb e=>eb b o hb e) f0 f1 f3 f4 f5⟩
 self:=λ_ _ _ _ _ st h=>wpAny_pyIter_rangeiter st h
section
variable {X:Cx} {tg:Expr}
inductive IList (K:W.Frag) (x:V) (H1:Hp) (R:It->Hp->Prop):Prop
 | mk (a:_):(x=.ref a)->((∃xs,SqL K H1 a xs))->(R (Itl K a) H1)->IList K x H1 R
def zQf (K:W.Frag) (tl:TE):TI:=λσ H R=>tl σ H λx H1=>IList K x H1 R
def zKy {l:Expr} {tl:TE} (hl:PE X l tl):PI X tg l (zQf X.K tl):=by
 intro pins s σ H R I h;refine thn (hl pins s σ H _ I h) λv s1 aB=>?_;obtain⟨x,H1,I1,r1,q1⟩:=aB;obtain⟨a,e,⟨xs,hq⟩,q⟩:=q1;subst e;cases r1;obtain⟨its,rv,p,hz⟩:=I1.list hq;refine wpAny_pyIter_list p.isList ?_;refine⟨s1.heap.objs.size,[s1.heap.objs.size],_,_,H1,rfl,I1.kept (t':=s1.toks) λb o e=>wHi _ e,zJK a _,⟨_,wHs _ rfl,rfl,rfl⟩,λb hb=>?_,q⟩;have e:b=s1.heap.objs.size:=by simpa using hb
 subst e;exact I1.fpOk (wHm _) (I1.hok.fresh (wHm _))
def zMa {pins:List (Addr × Obj)} {σ:St} {H:Hp} {s:Shared} {R:It->Hp->Prop} {E:Value->Shared->Prop} {lo hi:Int} {t u v:Tok} {tk:Nat} (I:Inv X pins σ H s) (h1:-(2 ^ 62)<=lo) (h2:lo < 2 ^ 62) (h3:-(2 ^ 62)<=hi) (h4:hi < 2 ^ 62)
  (q:R (Itr lo (hi-lo).toNat) H):wpAny (model X.prog X.w) X.A (pyIter (.ref s.heap.objs.size)) (PIE X pins σ tg R) E { s with heap:=s.heap.push { cls:=.type "range",data:=.fields #[.int lo t,.int hi u,.int 1 v] },toks:=tk }:=by
 refine wpAny_pyIter_range (IsRange.new ..) (small_one h1 h2 h3 h4) ?_;have I1:Inv X pins σ H { s with heap:=s.heap.push { cls:=.type "range",data:=.fields #[.int lo t,.int hi u,.int 1 v] },toks:=tk }:=I.kept λb o e=>wHi _ e;refine⟨(s.heap.push { cls:=.type "range",data:=.fields #[.int lo t,.int hi u,.int 1 v] }).objs.size,[(s.heap.push { cls:=.type "range",data:=.fields #[.int lo t,.int hi u,.int 1 v] }).objs.size],_,_,H,rfl,
  I1.kept (t':=tk) λb o e=>wHi _ e,zIW _ lo (hi-lo).toNat,?_,λb hb=>?_,q⟩
 ·have e1:lo+((0:Nat):Int)*1=lo:=by simp
  have e2:(((hi-lo).toNat:Nat):Int)-((0:Nat):Int)=Builtin.Range.rangeSize lo hi 1:=by rw[rangeSize_one];split<;>omega
  show IsRangeIter _ _ (lo+((0:Nat):Int)*1) ((((hi-lo).toNat:Nat):Int)-((0:Nat):Int)) 1;rw[e1,e2];exact wHs _ rfl
 have e:b=(s.heap.push { cls:=.type "range",data:=.fields #[.int lo t,.int hi u,.int 1 v] }).objs.size:=by simpa using hb
 subst e;exact I1.fpOk (wHm _) (I1.hok.fresh (wHm _))
inductive IRng1 (vs:List V) (H1:Hp) (R:It->Hp->Prop):Prop
 | mk (j:Int):(vs=[.int j])->(-(2 ^ 62)<=j)->(j < 2 ^ 62)->(R (Itr 0 j.toNat) H1)->IRng1 vs H1 R
def zQX (ta:TA):TI:=λσ H R=>ta σ H λvs H1=>IRng1 vs H1 R
def zAi {a:Expr} {ta:TA} {p pos:Pos} (hg:Gl X "range") (hm:X.mg "range"=none) (ha:PA X [a] ta) (hs:starEach [a] X.env=[(false,eval a X.env)]:=by rfl):PI X tg (.Call (.Name "range" p) [a] [] pos) (zQX ta):=by
 intro pins s σ H R I h;refine Call_ (zDq I hg hm boot_range (PyProof.Rows.callWith_type1 (thn (ha pos pins s σ H _ I h) λus s1 ⟨vs,H1,I1,r1,q1⟩=>?_) hs rfl));obtain⟨j,e,q1,q2,q⟩:=q1;subst e;cases r1 with
 | cons r rr=>
  cases rr;obtain⟨t,rfl⟩:=r;exact call_range_1 (zMa I1 ∅ ∅ q1 q2 (by simpa using q))
def zRJ (wi:TI) (g:TG) (tb:TS):TS:=λD σ H=>wi σ H λJ H1=>∃W:Nat->Nat->St->Hp->Prop,(∃m,W 0 m σ H1)/\∀i m σ H,W i m σ H->
 (J.stop i H/\D.nx σ H)∨(J.go i H/\∃N:St->Hp->Prop,(∀σ' H',N σ' H'->∃m',m' < m/\W (i+1) m' σ' H')/\∀x H',J.yld i H x H'->g x σ H' λσ2 H2=>tb { D with nx:=N,ct:=N,bk:=D.nx } σ2 H2)
def zF9 (fp:List Addr) (h:Heap):List (Addr × Obj):=fp.filterMap λb=>(h.get? b).map λo=>(b,o)
def zC5 {fp:List Addr} {h:Heap} {b:Addr} {o:Obj} (hb:b∈fp) (e:h.get? b=some o):(b,o)∈zF9 fp h:=List.mem_filterMap.mpr ⟨b,hb,by rw[e];rfl⟩
def zKE {fp:List Addr} {h:Heap} {p:Addr × Obj} (hp:p∈zF9 fp h):p.1∈fp/\h.get? p.1=some p.2:=by
 obtain⟨b,hb,e⟩:=List.mem_filterMap.mp hp;cases q:h.get? b with
 | none=>rw[q] at e;cases e
 | some o=>
  rw[q] at e;have e':(b,o)=p:=wHo e;subst e';exact⟨hb,q⟩
def Inv.pinned {pins:List (Addr × Obj)} {σ:St} {H:Hp} {s:Shared} {fp:List Addr} (I:Inv X pins σ H s) (hf:∀b∈fp,zEk X pins H b) (ho:∀b∈fp,∃o,s.heap.get? b=some o/\∀v,o.data≠.cell v):Inv X (pins++zF9 fp s.heap) σ H s:=
 I.pins_of λp hp=>(wIC hp).elim (λz=>I.pin p (wHI _ z)) λz=>by obtain⟨hb,e⟩:=zKE z;obtain⟨f0,f1,f2,_⟩:=hf p.1 hb;obtain⟨o,e',d⟩:=ho p.1 hb;rw[e] at e';cases e';exact⟨e,f0,f1,f2,d⟩
def Inv.unpinned {pins pl:List (Addr × Obj)} {σ:St} {H:Hp} {s:Shared} (I:Inv X (pins++pl) σ H s):Inv X pins σ H s:=I.pins_of λp hp=>I.pin p (wHI _ (List.mem_append_left _ hp))
def zAr {iter:Expr} {body:List Stmt} {wi:TI} {g:TG} {tb:TS} {pos:Pos} (hp:PassesOwn (model X.prog X.w) X.A X.env X.xe) (hc:X.calm=true) (hi:PI X tg iter wi) (hg:PG X tg g) (hb:PSs X body tb)
  (hs:∀x,foldedSetIterable iter X.env x=pure x:=by intro _;rfl):PS X (.For tg iter body [] pos) (zRJ wi g tb):=by
 intro pins s σ H D I h;refine wpAny_For (thn (hi pins s σ H _ I h) λv s1 h1=>thn h1 λfT s2 h2=>?_) hs;obtain⟨it,fp,tn,J,H2,e,I2,T,cL,f2,W,⟨m0,w0⟩,turn⟩:=h2;subst e;have fk:∀{H':Hp},(∀b∈fp,H' b=none)->∀b∈fp,zEk X pins H' b:=λhn b hb=>⟨hn b hb,(f2 b hb).2⟩;refine codeAny_forLoop_any (λn s'=>∃i σ' H',Inv X pins σ' H' s'/\tn i s'.heap/\(∀b∈fp,H' b=none)/\W i n σ' H') ?_ m0 ⟨0,σ,H2,I2,cL,λb hb=>(f2 b hb).1,w0⟩;rintro n s3 ⟨i,σ3,H3,I3,st3,fr3,w3⟩;rcases turn i n σ3 H3 w3 with ⟨stop,qn⟩ | ⟨go,N,hN,step⟩
 ·refine wpAny_passesOwn hp (thn (T.done X rfl rfl rfl hc i pins s3 σ3 H3 X.xe I3 (fk fr3) st3 stop) λr s4 aB=>?_);obtain⟨hr,I4⟩:=aB;subst hr;exact wpAny_execs_nil ⟨σ3,H3,I4,qn⟩
 refine wpAny_passesOwn hp (thn (T.item X rfl rfl rfl hc i pins s3 σ3 H3 X.xe I3 (fk fr3) st3 go) λr s4 aB=>?_);obtain⟨u,hr,h4⟩:=aB;subst hr;refine wpAny_passesOwn hp (thn h4 λ_ s5 aB=>?_);obtain⟨x,H5,I5,r5,y5,lM,fr5⟩:=aB;have I5':=I5.pinned (fk fr5) (T.obj _ _ lM);refine wpAny_passesOwn hp (thn (hg _ s5 σ3 H5 x u _ I5' r5 (step x H5 y5)) λ_ s6 aB=>?_);obtain⟨σ6,H6,I6,q6⟩:=aB;refine wpAny_passesOwn hp (thn (hb _ s6 σ6 H6 _ I6 q6) λf s7 q7=>?_);have again:∀{σ7:St} {H7:Hp},Inv X (pins++zF9 fp s5.heap) σ7 H7 s7->N σ7 H7->∃m,m < n/\∃i σ' H',Inv X pins σ' H' s7/\tn i s7.heap/\(∀b∈fp,H' b=none)/\W i m σ' H':=λ{σ7 H7} I7 n7=>by obtain⟨m',hm,w7⟩:=hN σ7 H7 n7;refine⟨m',hm,i+1,σ7,H7,I7.unpinned,T.keep _ _ _ lM λb hb o e=>(I7.pin (b,o) (wHI _ (wHI _ (zC5 hb e)))).1,λb hb=>?_,w7⟩;obtain⟨o,e,d⟩:=T.obj _ _ lM b hb;exact (I7.pin (b,o) (wHI _ (wHI _ (zC5 hb e)))).2.1
 cases f with
 | next=>obtain⟨σ7,H7,I7,n7⟩:=q7;exact again I7 n7
 | cont=>obtain⟨σ7,H7,I7,n7⟩:=q7;exact again I7 n7
 | brk=>obtain⟨σ7,H7,I7,q7⟩:=q7;exact⟨σ7,H7,I7.unpinned,q7⟩
 | ret v=>obtain⟨x7,σ7,H7,I7,r7,q7⟩:=q7;exact⟨x7,σ7,H7,I7.unpinned,r7,q7⟩
end
def zAx {K:W.Frag} {a:Addr} {xs:List V} {g:TG} {tb:TS} {D:Ends} {σ:St} {H:Hp} (Pv:Nat->St->Hp->Prop) (h0:Pv 0 σ H) (hl:∀i σ H,i<=xs.length->Pv i σ H->SqL K H a xs)
  (hs:∀i x σ H,xs[i]?=some x->Pv i σ H->g x σ H λσ2 H2=>tb { D with nx:=Pv (i+1),ct:=Pv (i+1),bk:=D.nx } σ2 H2) (hd:∀σ H,Pv xs.length σ H->D.nx σ H) :
  ∃W:Nat->Nat->St->Hp->Prop,(∃m,W 0 m σ H)/\∀i m σ H,W i m σ H->
   ((Itl K a).stop i H/\D.nx σ H)∨((Itl K a).go i H/\∃N:St->Hp->Prop,(∀σ' H',N σ' H'->∃m',m' < m/\W (i+1) m' σ' H')/\∀x H',(Itl K a).yld i H x H'->g x σ H' λσ2 H2=>tb { D with nx:=N,ct:=N,bk:=D.nx } σ2 H2):=by
 refine⟨λi m σ H=>m=xs.length-i/\i<=xs.length/\Pv i σ H,⟨xs.length,by simp,wHQ _,h0⟩,?_⟩;rintro i m σ H ⟨rfl,hi,p⟩;have q:=hl i σ H hi p;by_cases aF:i < xs.length
 ·refine .inr ⟨⟨xs,xs[i],q,by simp[aF]⟩,Pv (i+1),λσ' H' p'=>⟨xs.length-(i+1),by omega,rfl,aF,p'⟩,λx H' y=>?_⟩;obtain⟨e,y⟩:=y;subst e;exact hs i x σ _ (y xs q) p
 have e:i=xs.length:=by omega
 subst e;exact .inl ⟨⟨xs,q,wHm _⟩,hd σ H p⟩
def zA9 {lo:Int} {n:Nat} {g:TG} {tb:TS} {D:Ends} {σ:St} {H:Hp} (Pv:Nat->St->Hp->Prop) (h0:Pv 0 σ H)
  (hs:∀i σ H,i < n->Pv i σ H->g (.int (lo+i)) σ H λσ2 H2=>tb { D with nx:=Pv (i+1),ct:=Pv (i+1),bk:=D.nx } σ2 H2) (hd:∀σ H,Pv n σ H->D.nx σ H) :
  ∃W:Nat->Nat->St->Hp->Prop,(∃m,W 0 m σ H)/\∀i m σ H,W i m σ H->
   ((Itr lo n).stop i H/\D.nx σ H)∨((Itr lo n).go i H/\∃N:St->Hp->Prop,(∀σ' H',N σ' H'->∃m',m' < m/\W (i+1) m' σ' H')/\∀x H',(Itr lo n).yld i H x H'->g x σ H' λσ2 H2=>tb { D with nx:=N,ct:=N,bk:=D.nx } σ2 H2):=by
 refine⟨λi m σ H=>m=n-i/\i<=n/\Pv i σ H,⟨n,by simp,wHQ _,h0⟩,?_⟩;rintro i m σ H ⟨rfl,hi,p⟩;by_cases aF:i < n
 ·refine .inr ⟨aF,Pv (i+1),λσ' H' p'=>⟨n-(i+1),by omega,rfl,aF,p'⟩,λx H' y=>?_⟩;obtain⟨e,y⟩:=y;subst e y;exact hs i σ _ aF p
 have e:i=n:=by omega
 subst e;exact .inl ⟨wHm _,hd σ H p⟩
abbrev R2:=V->V->Hp->VK->Prop
def OpR (X:Cx) (f:Value->Value->Sem Value) (r:R2):Prop:=
 ∀(pins:List (Addr × Obj)) (s:Shared) (σ:St) (H:Hp) (x y:V) (v u:Value) (Q:VK),Inv X pins σ H s->zBg x v->zBg y u->r x y H Q->
  wpAny (model X.prog X.w) X.A (f v u) (EP X pins σ Q) X.xe s
def UnR (X:Cx) (f:Value->Sem Value) (r:V->Hp->VK->Prop):Prop:=
 ∀(pins:List (Addr × Obj)) (s:Shared) (σ:St) (H:Hp) (x:V) (v:Value) (Q:VK),Inv X pins σ H s->zBg x v->r x H Q->
  wpAny (model X.prog X.w) X.A (f v) (EP X pins σ Q) X.xe s
def zB7 (X:Cx) (f:Value) (r:List V->Hp->VK->Prop):Prop:=
 ∀(pins:List (Addr × Obj)) (s:Shared) (σ:St) (H:Hp) (xs:List V) (us:List Value) (Q:VK),Inv X pins σ H s->zA4 xs us->r xs H Q->
  wpAny (model X.prog X.w) X.A (call f us) (EP X pins σ Q) X.xe s
def zSf (X:Cx) (r:V->Hp->(Bool->Hp->Prop)->Prop):Prop:=
 ∀(pins:List (Addr × Obj)) (s:Shared) (σ:St) (H:Hp) (x:V) (v:Value) (Q:Bool->Hp->Prop),Inv X pins σ H s->zBg x v->r x H Q->
  wpAny (model X.prog X.w) X.A (truthy v) (TP X pins σ Q) X.xe s
def tOp (r:R2) (ta tb:TE):TE:=λσ H Q=>ta σ H λx H1=>tb σ H1 λy H2=>r x y H2 Q
def tUn (r:V->Hp->VK->Prop) (ta:TE):TE:=λσ H Q=>ta σ H λx H1=>r x H1 Q
inductive RI (C:Int->Int->Prop) (g:Int->Int->V) (x:V) (y:V) (H:Hp) (Q:VK):Prop
 | mk (i:_) (j:_):(x=.int i)->(y=.int j)->C i j->(Q (g i j) H)->RI C g x y H Q
def rI (C:Int->Int->Prop) (g:Int->Int->V):R2:=λx y H Q=>RI C g x y H Q
inductive RI0 (g:Int->Int->V) (x:V) (y:V) (H:Hp) (Q:VK):Prop
 | mk (i:_) (j:_):(x=.int i)->(y=.int j)->(Q (g i j) H)->RI0 g x y H Q
def rI0 (g:Int->Int->V):R2:=λx y H Q=>RI0 g x y H Q
inductive RU (g:Int->V) (x:V) (H:Hp) (Q:VK):Prop
 | mk (i:_):(x=.int i)->(Q (g i) H)->RU g x H Q
def rU (g:Int->V):V->Hp->VK->Prop:=λx H Q=>RU g x H Q
section
variable {X:Cx} {a b:Expr} {ta tb:TE} {pos:Pos}
def zRf (ha:PE X a ta) (hb:PE X b tb) {pins:List (Addr × Obj)} {s:Shared} {σ:St} {H:Hp} {R:V->V->Hp->Prop} (I:Inv X pins σ H s)
  (h:ta σ H λx H1=>tb σ H1 λy H2=>R x y H2) {Q:Value->Shared->Prop} {f:Value->Value->Sem Value}
  (hf:∀v u s2 x y H2,Inv X pins σ H2 s2->zBg x v->zBg y u->R x y H2->wpAny (model X.prog X.w) X.A (f v u) Q X.xe s2) :
  wpAny (model X.prog X.w) X.A (eval a X.env) (λv s₁=>wpAny (model X.prog X.w) X.A (eval b X.env) (λu s₂=>wpAny (model X.prog X.w) X.A (f v u) Q X.xe s₂) X.xe s₁) X.xe s:=by
 refine thn (ha pins s σ H _ I h) λv s1 aB=>?_;obtain⟨x,H1,I1,r1,q1⟩:=aB;refine thn (hb pins s1 σ H1 _ I1 q1) λu s2 aB=>?_;obtain⟨y,H2,I2,r2,q2⟩:=aB;exact hf v u s2 x y H2 I2 r1 r2 q2
def zV {op:Operator} {r:R2} (ho:OpR X (binaryOp op) r) (ha:PE X a ta) (hb:PE X b tb):PE X (.BinOp a op b pos) (tOp r ta tb):=by intro pins s σ H Q I h;exact wpAny_BinOp (zRf ha hb I h λv u s2 x y H2 I2 rx ry q=>ho pins s2 σ H2 x y v u Q I2 rx ry q)
def zPE {op:UnaryOp} {r:V->Hp->VK->Prop} (ho:UnR X (unaryOp op) r) (ha:PE X a ta):PE X (.UnaryOp op a pos) (tUn r ta):=by intro pins s σ H Q I h;exact UnaryOp_ (thn (ha pins s σ H _ I h) λv s1 ⟨x,H1,I1,r1,q1⟩=>ho pins s1 σ H1 x v Q I1 r1 q1)
def opI {f:Value->Value->Sem Value} {C:Int->Int->Prop} {g:Int->Int->Int}
  (rule:∀(i j:Int) (t u:Tok) (s:Shared) (Q:Value->Shared->Prop) (E:Value->Shared->Prop),C i j->Q (.int (g i j) s.toks) { s with toks:=s.toks+1 }->wpAny (model X.prog X.w) X.A (f (.int i t) (.int j u)) Q E s) :
  OpR X f (rI C λi j=>.int (g i j)):=by
 intro pins s σ H x y v u Q I rx ry h;obtain⟨i,j,rfl,rfl,hc,q⟩:=h;obtain⟨t,rfl⟩:=rx;obtain⟨t',rfl⟩:=ry;exact rule i j t t' s _ _ hc ⟨.int (g i j),H,I.tok _,⟨_,rfl⟩,q⟩
def zR1 {f:Value->Value->Sem Value} {g:Int->Int->Int}
  (rule:∀(i j:Int) (t u:Tok) (s:Shared) (Q:Value->Shared->Prop) (E:Value->Shared->Prop),Q (.int (g i j) s.toks) { s with toks:=s.toks+1 }->wpAny (model X.prog X.w) X.A (f (.int i t) (.int j u)) Q E s) :
  OpR X f (rI0 λi j=>.int (g i j)):=by
 intro pins s σ H x y v u Q I rx ry h;obtain⟨i,j,rfl,rfl,q⟩:=h;obtain⟨t,rfl⟩:=rx;obtain⟨t',rfl⟩:=ry;exact rule i j t t' s _ _ ⟨.int (g i j),H,I.tok _,⟨_,rfl⟩,q⟩
def zQ3 {f:Value->Value->Sem Value} {g:Int->Int->Bool}
  (rule:∀(i j:Int) (t u:Tok) (s:Shared) (Q:Value->Shared->Prop) (E:Value->Shared->Prop),Q (.bool (g i j)) s->wpAny (model X.prog X.w) X.A (f (.int i t) (.int j u)) Q E s) :
  OpR X f (rI0 λi j=>.bl (g i j)):=by
 intro pins s σ H x y v u Q I rx ry h;obtain⟨i,j,rfl,rfl,q⟩:=h;obtain⟨t,rfl⟩:=rx;obtain⟨t',rfl⟩:=ry;exact rule i j t t' s _ _ ⟨.bl (g i j),H,I,rfl,q⟩
def zSj (i j:Int):Prop:=0 < j/\j < 1073741824
def zSi (i j:Int):Prop:=0<=j/\j<=1000000/\i.natAbs < 2 ^ 64
def zRt (i j:Int):Prop:=(-(2 ^ 64) < i/\i < 2 ^ 64)∨(-(2 ^ 64) < j/\j < 2 ^ 64)
def zRt.ok {i j:Int} (h:zRt i j):IntMulOk i j:=by
 rcases h with ⟨h1,h2⟩ | ⟨h1,h2⟩
 ·exact .of_left (intBits_le_64 h1 h2)
 exact .of_right (intBits_le_64 h1 h2)
def zBn:OpR X (binaryOp .Add) (rI0 λi j=>.int (i+j)):=zR1 λ_ _ _ _ _ _ _ q=>add_int q
def zEI:OpR X (binaryOp .Sub) (rI0 λi j=>.int (i-j)):=zR1 λ_ _ _ _ _ _ _ q=>sub_int q
def zDT:OpR X (binaryOp .Mult) (rI zRt λi j=>.int (i*j)):=opI λ_ _ _ _ _ _ _ hc q=>mul_int q hc.ok
def zBM:OpR X (binaryOp .FloorDiv) (rI zSj λi j=>.int (i / j)):=opI λi j _ _ _ _ _ hc q=>by have h1:(0:Int) < j:=hc.1;have h2:j < 1073741824:=hc.2;exact floordiv_int ∅ (by rw[Int.fdiv_eq_ediv_of_nonneg i ∅];exact q) (.inl (PyProof.noPylong_small ∅))
def zAu:OpR X (binaryOp .Mod) (rI (λ_ j=>0 < j) λi j=>.int (i%j)):=opI λi j _ _ _ _ _ hc q=>by have h1:(0:Int) < j:=hc;exact mod_int' ∅ (by rw[Int.fmod_eq_emod_of_nonneg i ∅];exact q)
def zNg:OpR X (binaryOp .Pow) (rI zSi λi j=>.int (i ^ j.toNat)):=opI λ_ _ _ _ _ _ _ hc q=>pow_int_small hc.1 hc.2.1 hc.2.2 q
def unI {f:Value->Sem Value} {g:Int->Int}
  (rule:∀(i:Int) (t:Tok) (s:Shared) (Q:Value->Shared->Prop) (E:Value->Shared->Prop),Q (.int (g i) s.toks) { s with toks:=s.toks+1 }->wpAny (model X.prog X.w) X.A (f (.int i t)) Q E s) :
  UnR X f (rU λi=>.int (g i)):=by
 intro pins s σ H x v Q I rx h;obtain⟨i,rfl,q⟩:=h;obtain⟨t,rfl⟩:=rx;exact rule i t s _ _ ⟨.int (g i),H,I.tok _,⟨_,rfl⟩,q⟩
def zMV:UnR X (unaryOp .USub) (rU λi=>.int (-i)):=unI λ_ _ _ _ _ q=>neg_int q
end
def zRx:V->V->Bool
 | .non,.non=>true | .non,.int _=>true | .int _,.non=>true | .non,.bl _=>true | .bl _,.non=>true | .non,.str _=>true | .str _,.non=>true
 | .int _,.int _=>true | .bl _,.bl _=>true | .str _,.str _=>true | .byt _,.byt _=>true
 | .int _,.str _=>true | .str _,.int _=>true | .bl _,.str _=>true | .str _,.bl _=>true
 | _,_=>false
def rEq:R2:=λx y H Q=>zRx x y=true/\Q (.bl (decide (x=y))) H
def rNe:R2:=λx y H Q=>zRx x y=true/\Q (.bl (!decide (x=y))) H
def zLs {i j:Int}:decide (V.int i=V.int j)=(i == j):=by rw[Bool.eq_iff_iff];simp
def zNu {i j:Bool}:decide (V.bl i=V.bl j)=(i == j):=by rw[Bool.eq_iff_iff];simp
def zLr {i j:Str}:decide (V.str i=V.str j)=(i == j):=by rw[Bool.eq_iff_iff];simp
def zLt {i j:Array UInt8}:decide (V.byt i=V.byt j)=(i.toList == j.toList):=by rw[Bool.eq_iff_iff];cases i;cases j;simp
section
variable {X:Cx} {a b c:Expr} {ta tb tc:TE} {pos:Pos}
def zAv {pins:List (Addr × Obj)} {σ:St} {H:Hp} {s:Shared} {Q:VK} {k k':Bool} (I:Inv X pins σ H s) (q:Q (.bl k) H) (e:k=k'):EP X pins σ Q (.bool k') s:=by subst e;exact⟨.bl k,H,I,rfl,q⟩
def zCB:OpR X (compareOp .Eq) rEq:=by
 intro pins s σ H x y v u Q I rx ry h;obtain⟨hs,q⟩:=h;cases x with
 | non=>
  cases rx;cases y with
  | non=>cases ry;exact PySem.EqNone.eq_none_none (zAv I q (by simp))
  | bl j=>cases ry;exact PySem.EqNone.eq_none_bool (zAv I q (by simp))
  | int j=>obtain⟨t',rfl⟩:=ry;exact PySem.EqNone.eq_none_int (zAv I q (by simp))
  | str j=>obtain⟨t',rfl⟩:=ry;exact PySem.EqNone.eq_none_str (zAv I q (by simp))
  | _=>exact absurd (show false=true from hs) wHx
 | bl i=>
  cases rx;cases y with
  | non=>cases ry;exact PySem.EqNone.eq_bool_none (zAv I q (by simp))
  | bl j=>cases ry;exact eq_bool (zAv I q zNu)
  | str j=>obtain⟨t',rfl⟩:=ry;exact PySem.EqMixed.eq_bool_str (zAv I q (by simp))
  | _=>exact absurd (show false=true from hs) wHx
 | int i=>
  obtain⟨t,rfl⟩:=rx;cases y with
  | non=>cases ry;exact PySem.EqNone.eq_int_none (zAv I q (by simp))
  | int j=>obtain⟨t',rfl⟩:=ry;exact eq_int (zAv I q zLs)
  | str j=>obtain⟨t',rfl⟩:=ry;exact PySem.EqMixed.eq_int_str (zAv I q (by simp))
  | _=>exact absurd (show false=true from hs) wHx
 | str i=>
  obtain⟨t,rfl⟩:=rx;cases y with
  | non=>cases ry;exact PySem.EqNone.eq_str_none (zAv I q (by simp))
  | bl j=>cases ry;exact PySem.EqMixed.eq_str_bool (zAv I q (by simp))
  | int j=>obtain⟨t',rfl⟩:=ry;exact PySem.EqMixed.eq_str_int (zAv I q (by simp))
  | str j=>obtain⟨t',rfl⟩:=ry;exact eq_str (zAv I q zLr)
  | _=>exact absurd (show false=true from hs) wHx
 | byt i=>
  obtain⟨t,rfl⟩:=rx;cases y with
  | byt j=>obtain⟨t',rfl⟩:=ry;exact W.eq_bytes (zAv I q zLt)
  | _=>exact absurd (show false=true from hs) wHx
 | _=>cases y<;>exact absurd (show false=true from hs) wHx
def zDF:OpR X (compareOp .NotEq) rNe:=by
 intro pins s σ H x y v u Q I rx ry h;obtain⟨hs,q⟩:=h;cases x with
 | non=>
  cases rx;cases y with
  | non=>cases ry;exact PySem.EqNone.ne_none_none (zAv I q (by simp))
  | bl j=>cases ry;exact PySem.EqNone.ne_none_bool (zAv I q (by simp))
  | int j=>obtain⟨t',rfl⟩:=ry;exact PySem.EqNone.ne_none_int (zAv I q (by simp))
  | str j=>obtain⟨t',rfl⟩:=ry;exact PySem.EqNone.ne_none_str (zAv I q (by simp))
  | _=>exact absurd (show false=true from hs) wHx
 | bl i=>
  cases rx;cases y with
  | non=>cases ry;exact PySem.EqNone.ne_bool_none (zAv I q (by simp))
  | bl j=>cases ry;exact ne_bool (zAv I q (congrArg not zNu))
  | str j=>obtain⟨t',rfl⟩:=ry;exact PySem.EqMixed.ne_bool_str (zAv I q (by simp))
  | _=>exact absurd (show false=true from hs) wHx
 | int i=>
  obtain⟨t,rfl⟩:=rx;cases y with
  | non=>cases ry;exact PySem.EqNone.ne_int_none (zAv I q (by simp))
  | int j=>obtain⟨t',rfl⟩:=ry;exact ne_int (zAv I q (congrArg not zLs))
  | str j=>obtain⟨t',rfl⟩:=ry;exact PySem.EqMixed.ne_int_str (zAv I q (by simp))
  | _=>exact absurd (show false=true from hs) wHx
 | str i=>
  obtain⟨t,rfl⟩:=rx;cases y with
  | non=>cases ry;exact PySem.EqNone.ne_str_none (zAv I q (by simp))
  | bl j=>cases ry;exact PySem.EqMixed.ne_str_bool (zAv I q (by simp))
  | int j=>obtain⟨t',rfl⟩:=ry;exact PySem.EqMixed.ne_str_int (zAv I q (by simp))
  | str j=>obtain⟨t',rfl⟩:=ry;exact ne_str (zAv I q (congrArg not zLr))
  | _=>exact absurd (show false=true from hs) wHx
 | byt i=>
  obtain⟨t,rfl⟩:=rx;cases y with
  | byt j=>obtain⟨t',rfl⟩:=ry;exact W.ne_bytes (zAv I q (congrArg not zLt))
  | _=>exact absurd (show false=true from hs) wHx
 | _=>cases y<;>exact absurd (show false=true from hs) wHx
def zFr:OpR X (compareOp .Lt) (rI0 λi j=>.bl (decide (i < j))):=zQ3 λ_ _ _ _ _ _ _ q=>lt_int q
def zDG:OpR X (compareOp .LtE) (rI0 λi j=>.bl (decide (i<=j))):=zQ3 λ_ _ _ _ _ _ _ q=>le_int q
def zOs:OpR X (compareOp .Gt) (rI0 λi j=>.bl (decide (j < i))):=zQ3 λ_ _ _ _ _ _ _ q=>gt_int q
def zPN:OpR X (compareOp .GtE) (rI0 λi j=>.bl (decide (j<=i))):=zQ3 λ_ _ _ _ _ _ _ q=>ge_int q
def zK5:OpR X (compareOp .In) (λx y H Q=>∃i j,x=.str i/\y=.str j/\Q (.bl (!(Builtin.Str.occurrences j i 0 j.length 1).isEmpty)) H):=by intro pins s σ H x y v u Q I rx ry h;obtain⟨i,j,rfl,rfl,q⟩:=h;obtain⟨t,rfl⟩:=rx;obtain⟨t',rfl⟩:=ry;exact in_str (zAv I q rfl)
def zPM:OpR X (compareOp .Is) (λx y H Q=>y=.non/\Q (.bl (decide (x=.non))) H):=by
 intro pins s σ H x y v u Q I rx ry h;obtain⟨rfl,q⟩:=h;cases ry;refine is_none_gen (zAv I q ?_);cases x<;>first
  | (cases rx;rfl)
  | (obtain⟨t,rfl⟩:=rx;rfl)
def zOr:OpR X (compareOp .IsNot) (λx y H Q=>y=.non/\Q (.bl (!decide (x=.non))) H):=by
 intro pins s σ H x y v u Q I rx ry h;obtain⟨rfl,q⟩:=h;cases ry;refine isnot_none_gen (zAv I q ?_);cases x<;>first
  | (cases rx;rfl)
  | (obtain⟨t,rfl⟩:=rx;rfl)
def zAg (b:Expr) {op:CmpOp} (h:op≠.In:=by decide) (h2:op≠.NotIn:=by decide):behindInMarks op b=false:=by
 have e1:(op == CmpOp.In)=false:=by cases op<;>first | rfl | exact absurd rfl h
 have e2:(op == CmpOp.NotIn)=false:=by cases op<;>first | rfl | exact absurd rfl h2
 cases b<;>simp[behindInMarks,e1,e2]
theorem zBL {op:CmpOp} {r:R2} (ho:OpR X (compareOp op) r) (ha:PE X a ta) (hb:PE X b tb) (hm:behindInMarks op b=false):PE X (.Compare a [op] [b] pos) (tOp r ta tb):=by intro pins s σ H Q I h;exact wpAny_Compare1 (zRf ha hb I h λv u s2 x y H2 I2 rx ry q=>ho pins s2 σ H2 x y v u Q I2 rx ry q) hm
inductive IsT (Q:Bool->Hp->Prop) (x:V) (H':Hp):Prop
 | mk (k:_):(x=.bl k)->Q k H'->IsT Q x H'
def zPm (t:TE):TT:=λσ H Q=>t σ H λx H'=>IsT Q x H'
def zAb {op:CmpOp} {r:R2} (ho:OpR X (compareOp op) r) (ha:PE X a ta) (hb:PE X b tb) (hm:behindInMarks op b=false):PT X (.Compare a [op] [b] pos) (zPm (tOp r ta tb)):=by
 intro pins s σ H Q I h;refine wpAny_isTrue_Compare1 (thn (ha pins s σ H _ I h) λv s1 ⟨x,H1,I1,r1,q1⟩=>thn (hb pins s1 σ H1 _ I1 q1) λu s2 ⟨y,H2,I2,r2,q2⟩=>
  thn (ho pins s2 σ H2 x y v u _ I2 r1 r2 q2) λc s3 ⟨z,H3,I3,r3,k,e,q3⟩=>?_) hm
 subst e;cases r3;exact wpAny_truthy_bool ⟨H3,I3,q3⟩
def zPp (r r':R2) (ta tb tc:TE):TE:=λσ H Q=>ta σ H λx H1=>tb σ H1 λy H2=>r x y H2 λz H3=>∃k,z=.bl k/\
 (if k=true then tc σ H3 λw' H4=>r' y w' H4 Q else Q (.bl false) H3)
def zDe {op lV:CmpOp} {r r':R2} (ho:OpR X (compareOp op) r) (bQ:OpR X (compareOp lV) r') (ha:PE X a ta) (hb:PE X b tb) (hc:PE X c tc)
  (hm:lastMarks [op,lV] [b,c]=false:=by with_unfolding_all rfl):PT X (.Compare a [op,lV] [b,c] pos) (zPm (zPp r r' ta tb tc)):=by
 intro pins s σ H Q I h;refine isTrue_chain (thn (ha pins s σ H _ I h) λv s1 ⟨x,H1,I1,r1,q1⟩=>test_link (thn (hb pins s1 σ H1 _ I1 q1) λu s2 ⟨y,H2,I2,r2,q2⟩=>
  thn (ho pins s2 σ H2 x y v u _ I2 r1 r2 q2) λd s3 ⟨z,H3,I3,r3,k,e,q3⟩=>?_)) hm
 subst e;cases r3;refine wpAny_truthy_bool ?_;cases k with
 | false=>
  obtain⟨k',e',q'⟩:=q3;cases e';exact ite_ff ⟨H3,I3,q'⟩
 | true=>
  refine ite_tt (test_last (thn (hc pins s3 σ H3 _ I3 q3) λw' s4 ⟨z',H4,I4,r4,q4⟩=>thn (bQ pins s4 σ H4 y z' u w' _ I4 r2 r4 q4) λd' s5 aB=>?_));obtain⟨z2,H5,I5,r5,k2,e2,q5⟩:=aB;subst e2;cases r5;exact wpAny_truthy_bool ⟨H5,I5,q5⟩
def zR6 (K:W.Frag) (x:V) (H:Hp) (k:Bool):Prop:=
 match x with
 | .non=>k=false
 | .bl b=>k=b
 | .int i=>k=(i != 0)
 | .str y=>y.length<=sizeLine/\k=((y.length:Int) != 0)
 | .byt y=>y.size<=sizeLine/\k=((y.size:Int) != 0)
 | .ref p=>(∃xs,SqL K H p xs/\k=!xs.isEmpty)∨(∃xs,SqT K H p xs/\k=!xs.isEmpty)∨∃aJ,H p=some (.dK aJ)/\k=!aJ.isEmpty
 | _=>False
def zJx {κ:Type} {aJ:List (κ × V)} {vs:List (κ × Value)} (r:KV aJ vs):(!vs.isEmpty)=!aJ.isEmpty:=by cases r<;>rfl
def zFH {xs:List V} {its:List Value} (r:zA4 xs its):(!its.toArray.isEmpty)=!xs.isEmpty:=by cases r<;>simp
def zDY:(sizeLine:Nat) < 2 ^ 63:=by rw[sizeLine_eq];decide
def zPi:zSf X (λx H Q=>∃k,zR6 X.K x H k/\Q k H):=by
 intro pins s σ H x v Q I rx h;obtain⟨k,e,q⟩:=h;have hl:=zDY;have hs:sizeLine=16777216:=sizeLine_eq;cases x with
 | non=>
  cases rx;have e':k=false:=e;subst e';exact truthy_none ⟨H,I,q⟩
 | bl b=>
  cases rx;have e':k=b:=e;subst e';exact wpAny_truthy_bool ⟨H,I,q⟩
 | int i=>
  obtain⟨t,rfl⟩:=rx;have e':k=(i != 0):=e;subst e';exact PySem.P.truthy_int ⟨H,I,q⟩
 | str y=>
  obtain⟨t,rfl⟩:=rx;obtain⟨hy,e'⟩:y.length<=sizeLine/\k=((y.length:Int) != 0):=e;subst e';exact PySem.P.truthy_str ∅ ⟨H,I.tok _,q⟩
 | byt y=>
  obtain⟨t,rfl⟩:=rx;obtain⟨hy,e'⟩:y.size<=sizeLine/\k=((y.size:Int) != 0):=e;subst e';exact W.truthy_bytes ∅ ⟨H,I.tok _,q⟩
 | ref p=>
  cases rx;have e':(∃xs,SqL X.K H p xs/\k=!xs.isEmpty)∨(∃xs,SqT X.K H p xs/\k=!xs.isEmpty)∨∃aJ,H p=some (.dK aJ)/\k=!aJ.isEmpty:=e;rcases e' with ⟨xs,hx,e'⟩ | ⟨xs,hx,e'⟩ | ⟨aJ,hx,e'⟩
  ·subst e';obtain⟨its,r,pl,hz⟩:=I.list hx;have aG:=r.length;exact wpAny_truthy_list pl.isList (by simp only[wHz];omega) ⟨H,I.tok _,by rw[zFH r];exact q⟩
  ·subst e';obtain⟨its,r,pl,hz⟩:=I.tuple hx;have aG:=r.length;exact truthy_tuple pl (by simp only[wHz];omega) ⟨H,I.tok _,by rw[zFH r];exact q⟩
  subst e';obtain⟨hz,hS,vs,r,m⟩:aJ.length<=sizeLine/\(p == sysModules)=false/\∃vs,KV aJ vs/\s.heap.DictOf (zIg X.prog X.w) p vs:=I.hok p _ hx;have aG:aJ.length=vs.length:=Paired.length r;exact wpAny_truthy_dict hS m ∅ ⟨H,I.tok _,by rw[zJx r];exact q⟩
 | _=>exact (show False from e).elim
def zMb (ha:PE X a ta) (he:∀whole,isTrue a X.env whole=(do let v ← whole;standAt a.pos;holding [v] (truthy v))) :
  PT X a (λσ H Q=>ta σ H λx H'=>∃k,zR6 X.K x H' k/\Q k H'):=by
 intro pins s σ H Q I h;exact isTrue_plain (thn (ha pins s σ H _ I h) λv s1 ⟨x,H1,I1,r1,q1⟩=>zPi pins s1 σ H1 x v Q I1 r1 q1) (he _)
inductive RAddS (x:V) (y:V) (H:Hp) (Q:VK):Prop
 | mk (i:_) (j:_):(x=.str i)->(y=.str j)->(i.length+j.length<=sizeLine)->(Q (.str (i++j)) H)->RAddS x y H Q
def zDH:OpR X (binaryOp .Add) (λx y H Q=>RAddS x y H Q):=by intro pins s σ H x y v u Q I rx ry h;obtain⟨i,j,rfl,rfl,hz,q⟩:=h;obtain⟨t,rfl⟩:=rx;obtain⟨t',rfl⟩:=ry;exact add_str (λt' tk=>⟨.str (i++j),H,I.tok _,⟨_,rfl⟩,q⟩) hz
def zIV {x:V} {us:List Value} (r:zA4 [x] us):∃u,us=[u]/\zBg x u:=by
 cases r with
 | cons r1 r2=>cases r2;exact⟨_,rfl,r1⟩
def zLE {x y:V} {us:List Value} (r:zA4 [x,y] us):∃u w',us=[u,w']/\zBg x u/\zBg y w':=by
 cases r with
 | cons r1 r2=>
  cases r2 with
  | cons r3 r4=>cases r4;exact⟨_,_,rfl,r1,r3⟩
inductive RAbs (xs:List V) (H:Hp) (Q:VK):Prop
 | mk (i:_):(xs=[.int i])->(Q (.int (if i < 0 then -i else i)) H)->RAbs xs H Q
def zDu:zB7 X (.builtin "abs") (λxs H Q=>RAbs xs H Q):=by intro pins s σ H xs us Q I r h;obtain⟨i,rfl,q⟩:=h;obtain⟨u,rfl,t,rfl⟩:=zIV r;exact call_abs_int λu tk=>⟨.int (if i < 0 then -i else i),H,I.tok _,⟨_,rfl⟩,q⟩
inductive RMax2 (xs:List V) (H:Hp) (Q:VK):Prop
 | mk (i:_) (j:_):(xs=[.int i,.int j])->(Q (.int (if j > i then j else i)) H)->RMax2 xs H Q
def zHr (hc:X.calm=true):zB7 X (.builtin "max") (λxs H Q=>RMax2 xs H Q):=by
 intro pins s σ H xs us Q I r h;obtain⟨i,j,rfl,q⟩:=h;obtain⟨u,w',rfl,⟨t,rfl⟩,⟨t',rfl⟩⟩:=zLE r;refine max_two_ints (I.ok.hd hc) λh' tk k=>⟨_,H,I.kept k,?_,q⟩;by_cases hj:j > i
 ·rw[wHl hj,wHl hj];exact⟨_,rfl⟩
 rw[wHj hj,wHj hj];exact⟨_,rfl⟩
inductive RMin2 (xs:List V) (H:Hp) (Q:VK):Prop
 | mk (i:_) (j:_):(xs=[.int i,.int j])->(Q (.int (if j < i then j else i)) H)->RMin2 xs H Q
def zHq (hc:X.calm=true):zB7 X (.builtin "min") (λxs H Q=>RMin2 xs H Q):=by
 intro pins s σ H xs us Q I r h;obtain⟨i,j,rfl,q⟩:=h;obtain⟨u,w',rfl,⟨t,rfl⟩,⟨t',rfl⟩⟩:=zLE r;refine min_two_ints (I.ok.hd hc) λh' tk k=>⟨_,H,I.kept k,?_,q⟩;by_cases hj:j < i
 ·rw[wHl hj,wHl hj];exact⟨_,rfl⟩
 rw[wHj hj,wHj hj];exact⟨_,rfl⟩
def zLy:zB7 X (.type "int") (λxs H Q=>(∃i,xs=[.int i]/\Q (.int i) H)∨∃k,xs=[.bl k]/\Q (.int (if k then 1 else 0)) H):=by
 intro pins s σ H xs us Q I r h;rcases h with ⟨i,rfl,q⟩ | ⟨k,rfl,q⟩
 ·obtain⟨u,rfl,t,rfl⟩:=zIV r;exact call_int_int ⟨.int i,H,I,⟨_,rfl⟩,q⟩
 obtain⟨u,rfl,r1⟩:=zIV r;cases r1;exact call_int_bool ⟨.int (if k then 1 else 0),H,I.tok _,⟨_,rfl⟩,q⟩
end
structure ObjM (h:Heap) (x dx C:Addr) (mA:Str->Option Value):Prop where
 obj:h.get? x=some (W.instObj C dx)
 ns:h.Ns1 dx mA
 ne:dx≠x
def zGZ {h:Heap} {dx:Addr} {mA:Str->Option Value} (n:h.Ns1 dx mA):∃od,h.get? dx=some od/\∀name,W.lookIn name od=some (mA name):=by
 obtain⟨o,es,ep,ho,hd,hk,_,hm⟩:=n;refine⟨o,ho,λname=>?_⟩;have e:=hm name;unfold nsFind findBy at e;rw[← Array.find?_toList] at e;unfold W.lookIn;rw[hd];dsimp only
 split
 ·rename_i y q
  rw[q] at e;exact congrArg some e
 rename_i q
 rw[q] at e;have a:es.toList.any (·.refKey)=false:=by rw[List.any_eq_false];intro y hy;obtain⟨z,t,mZ⟩:=hk y (Array.mem_toList_iff.mp hy);simp[DictEntry.refKey,mZ]
 have a':¬es.toList.any (·.refKey)=true:=by rw[a];exact wHx
 rw[wHj a'];exact congrArg some e
def ObjM.look {h:Heap} {x dx C:Addr} {mA:Str->Option Value} (I:ObjM h x dx C mA):∃od,W.InstAt h x (W.instObj C dx) C (some od)/\∀name,W.lookIn name od=some (mA name):=
 let ⟨od,ho,hl⟩:=zGZ I.ns
 ⟨od,⟨I.obj,rfl,rfl,ho⟩,hl⟩
section
variable {prog:Program} {w:World} {A:Around} {E:Value->Shared->Prop} {s:Shared} {K:W.Frag} {x dx C f:Addr} {mA:Str->Option Value} {name:Str} {v:Value}
def zOC {expr:Bool} {Q:Value->Shared->Prop} (X:K.In s.heap) (I:ObjM s.heap x dx C mA) (hg:W.plainGet K C name=true) (hh:W.hasDictIn K C=true)
  (ha:W.findIn K (.ref C) name=some none) (hv:mA name=some v) (eX:W.handedIn v=true) (h:Q v { s with toks:=s.toks+1 }) :
  wpAny (model prog w) A (getAttr (.ref x) name expr) Q E s:=by
 obtain⟨od,J,hl⟩:=I.look;exact W.get_value X J (W.plainGet_of hg).1 (W.findObj_own hh ha rfl (by rw[hl,hv])) eX h
def zME {pl:Sem Bool} {Q:Value × List Value->Shared->Prop} (X:K.In s.heap) (I:ObjM s.heap x dx C mA) (hg:W.plainGet K C name=true)
  (hf:W.findIn K (.ref C) name=some (some (.ref f))) (ht:W.isFn K (.ref f)=true) (hv:mA name=none) (h:Q (.ref f,[.ref x]) s) :
  wpAny (model prog w) A (getMethod (.ref x) name pl) Q E s:=by
 obtain⟨od,J,hl⟩:=I.look;exact W.method_fn X J (W.plainGet_of hg).1 (W.plainGet_of hg).2 hf (beq_iff_eq.mp ht) (by show (W.lookIn name od).map (·.isSome)=some false;rw[hl,hv];rfl) h
def zNR {ns:List Str} {Q:Unit->Shared->Prop} (X:K.In s.heap) (I:ObjM s.heap x dx C mA)
  (hs:W.findIn K (.ref C) "__setattr__"=some (some (.builtin "object.__setattr__"))) (hp:W.plainOver K C=true) (ht:W.takerIn K C name=some none) (hh:W.hasDictIn K C=true)
  (hw:PySem.Within mA ns) (eY:ns.length<=sizeLine)
  (h:∀h',ObjM h' x dx C (λy=>if y=name then some v else mA y)->Heap.SameBut dx s.heap h'->Q PUnit.unit { s with heap:=h',toks:=s.toks+2 }) :
  wpAny (model prog w) A (setAttr (.ref x) name v) Q E s:=by
 obtain⟨od,J,hl⟩:=I.look;refine W.set_plain X J hs (W.osa_open (s:={ s with toks:=s.toks+1 }) (r:=none) X J hp ht λb=>?_);obtain⟨cd,hc,bS⟩:=W.any_some hh;have hx:s.heap.get? x=some ⟨.ref C,some dx,.plain,#[]⟩:=I.obj;refine wHe (wHk (wHe (wHe (wpAny_loadPart hx (wHe (PySem.W.Looks.here (s:={ s with toks:=s.toks+1 }) (W.looks_clsIn X hc) ?_))))));rw[bS];refine wHk (a:=some dx) (wHe (wHk (wHe ?_)));refine wpAny_nsSet1 (s:={ s with toks:=s.toks+1 }) I.ns λh' jN eZ=>?_;obtain⟨oD,esD,epD,hX,iI,iM⟩:=jN.count (PySem.Within.cons name v hw);refine wHe (wpAny_lookBehind hX (by rw[iI];exact pastItsLine_dict (wHv iM (by rw[wIe];omega))) ?_);exact wHk (h _ ⟨(eZ.2 _ (Ne.symm I.ne)).trans I.obj,jN,I.ne⟩ eZ)
def zM4 {R:Result->Shared->Prop} {vs:List Value} {kw:List (Str × Value)} (X:K.In s.heap) (hm:W.makesIn K C=true)
  (hi:W.findIn K (.ref C) "__init__"=some (some (.ref f))) (hf:W.typeIn K (.ref f)=some (.type "function"))
  (h:codeAny (model prog w) (A.under (.builtin "type.__call__" ⟨.ref C::vs,kw⟩)) (.call (.ref f) ⟨.ref (s.heap.objs.size+1)::vs,kw⟩) (W.InitBack (s.heap.objs.size+1) R)
   { s with heap:=(s.heap.push W.emptyDict).push (W.instObj C s.heap.objs.size) }) :
  codeAny (model prog w) A (.call (.ref C) ⟨vs,kw⟩) R s:=by
 obtain⟨hh,g,d,t,os⟩:=s;exact W.make_core (W.makes_of X hm) (W.looks_findIn X hi) (λself=>W.bind_fn X self hf) (.inl rfl) h
end
def zH6 (f:Str) (v:V):List (Str × V)->List (Str × V)
 | []=>[(f,v)]
 | (g,x)::r=>if g=f then (g,v)::r else (g,x)::zH6 f v r
theorem zEQ (f g:Str) (v:V):∀fs:List (Str × V),(zH6 f v fs).lookup g=if g=f then some v else fs.lookup g
 | []=>by
  show List.lookup g [(f,v)]=_;by_cases h:g=f
  ·have hb:(g == f)=true:=beq_iff_eq.mpr h;simp only[List.lookup,hb,wHl h]
  have hb:(g == f)=false:=beq_eq_false_iff_ne.mpr h;simp only[List.lookup,hb,wHj h]
 | (k,x)::r=>by
  have ih:=zEQ f g v r;rw[show zH6 f v ((k,x)::r)=(if k=f then (k,v)::r else (k,x)::zH6 f v r) from rfl];by_cases hk:k=f
  ·rw[wHl hk];by_cases h:g=k
   ·have hb:(g == k)=true:=beq_iff_eq.mpr h;simp only[List.lookup,hb,wHl (h.trans hk)]
   have hb:(g == k)=false:=beq_eq_false_iff_ne.mpr h;simp only[List.lookup,hb,wHj (λe:g=f=>h (e.trans hk.symm))]
  rw[wHj hk];by_cases h:g=k
  ·have hb:(g == k)=true:=beq_iff_eq.mpr h;simp only[List.lookup,hb,wHj (λe:g=f=>hk (h.symm.trans e))]
  have hb:(g == k)=false:=beq_eq_false_iff_ne.mpr h;simp only[List.lookup,hb];exact ih
theorem zET (f:Str) (v:V):∀fs:List (Str × V),f∈(zH6 f v fs).map (·.1)/\∀g,g∈fs.map (·.1)->g∈(zH6 f v fs).map (·.1)
 | []=>⟨by simp[zH6],λg h=>by simp at h⟩
 | (k,x)::r=>by
  obtain⟨i1,i2⟩:=zET f v r;rw[show zH6 f v ((k,x)::r)=(if k=f then (k,v)::r else (k,x)::zH6 f v r) from rfl];by_cases hk:k=f
  ·rw[wHl hk];subst hk;exact⟨by simp,λg h=>by simpa using h⟩
  rw[wHj hk];refine⟨?_,λg h=>?_⟩
  ·rw[wIg];exact wHP _ i1
  rw[wIg] at h ⊢;rcases wID h with e | e
  ·exact List.mem_cons.mpr (.inl e)
  exact wHP _ (i2 g e)
theorem zES (f:Str) (v:V):∀fs:List (Str × V),(zH6 f v fs).length<=fs.length+1
 | []=>by simp[zH6]
 | (k,x)::r=>by
  have ih:=zES f v r;rw[show zH6 f v ((k,x)::r)=(if k=f then (k,v)::r else (k,x)::zH6 f v r) from rfl];by_cases hk:k=f
  ·rw[wHl hk,wIe,wIe];omega
  rw[wHj hk,wIe,wIe];omega
def zH3.some_of {v:V} {o:Option Value} (r:zH3 (some v) o):∃u,o=some u/\zBg v u:=by
 cases o with
 | none=>exact (show False from r).elim
 | some u=>exact⟨u,rfl,r⟩
def zH3.none_of {o:Option Value} (r:zH3 none o):o=none:=by
 cases o with
 | none=>rfl
 | some u=>exact (show False from r).elim
def zHh {v:V} {u:Value} (r:zBg v u):W.handedIn u=true:=by
 cases v with
 | non=>cases (show u=Value.none from r);rfl
 | bl b=>cases (show u=Value.bool b from r);rfl
 | int i=>obtain⟨t,e⟩:=(show ∃t,u=Value.int i t from r);cases e;rfl
 | str x=>obtain⟨t,e⟩:=(show ∃t,u=Value.str x t from r);cases e;rfl
 | byt b=>obtain⟨t,e⟩:=(show ∃t,u=Value.bytes b t from r);cases e;rfl
 | flt b=>obtain⟨t,e⟩:=(show ∃t,u=Value.float b t from r);cases e;rfl
 | ref a=>cases (show u=Value.ref a from r);rfl
 | ty n=>cases (show u=Value.type n from r);rfl
section
variable {P:Program} {w:World} {H:Hp} {h:Heap} {a C dx:Addr} {fs:List (Str × V)}
def zGo (hok:HOk P w H h) (e:H a=some (.ins C dx fs)):∃mA,ObjM h a dx C mA/\(∀f,zH3 (fs.lookup f) (mA f))/\PySem.Within mA (fs.map (·.1))/\fs.length<=1000/\H dx=some (.own a):=by obtain⟨d,z,ne,ob,mA,n,r,q⟩:=(show ObjOk P w H h a (.ins C dx fs) from hok a _ e);exact⟨mA,⟨ob,n,ne⟩,r,q,z,d⟩
end
structure Cls (K:W.Frag) (C:Addr):Prop where
 pg:W.plainGet K C Str.empty=true
 hd:W.hasDictIn K C=true
 po:W.plainOver K C=true
 sa:W.findIn K (.ref C) "__setattr__"=some (some (.builtin "object.__setattr__"))
def Cls.get {K:W.Frag} {C:Addr} (c:Cls K C) (f:Str):W.plainGet K C f=true:=c.pg
def zFj (K:W.Frag) (C:Addr) (f:Str):Prop:=W.findIn K (.ref C) f=some none
def zFj.taker {K:W.Frag} {C:Addr} {f:Str} (n:zFj K C f):W.takerIn K C f=some none:=by
 unfold W.takerIn;rw[show W.findIn K (.ref C) f=some none from n]
 rfl
structure Meth (K:W.Frag) (C:Addr) (m:Str) (f:Addr):Prop where
 at_:W.findIn K (.ref C) m=some (some (.ref f))
 fn:W.isFn K (.ref f)=true
 kp:W.keepIn K (.ref f)=true
section
variable {X:Cx} {pins:List (Addr × Obj)} {σ:St} {H:Hp} {s:Shared} {a C dx:Addr} {fs:List (Str × V)} {f:Str} {v:V} {A:Around} {E:Value->Shared->Prop}
def zJz {b:Bool} {Q:Value->Shared->Prop} (I:Inv X pins σ H s) (e:H a=some (.ins C dx fs)) (c:Cls X.K C) (n:zFj X.K C f) (l:fs.lookup f=some v)
  (h:∀u s',Inv X pins σ H s'->zBg v u->Q u s'):wpAny (model X.prog X.w) A (getAttr (.ref a) f b) Q E s:=by
 obtain⟨mA,O,r,_,_,_⟩:=zGo I.hok e;obtain⟨u,hu,ru⟩:=zH3.some_of (v:=v) (o:=mA f) (by rw[← l];exact r f);exact zOC I.kIn O (c.get f) c.hd n hu (zHh ru) (h u _ (I.tok _) ru)
def zFJ {m:Str} {g:Addr} {pl:Sem Bool} {Q:Value × List Value->Shared->Prop} (I:Inv X pins σ H s) (e:H a=some (.ins C dx fs)) (c:Cls X.K C) (k:Meth X.K C m g) (l:fs.lookup m=none)
  (h:Q (.ref g,[.ref a]) s):wpAny (model X.prog X.w) A (getMethod (.ref a) m pl) Q E s:=by
 obtain⟨mA,O,r,_,_,_⟩:=zGo I.hok e;have hn:mA m=none:=zH3.none_of (by rw[← l];exact r m);exact zME I.kIn O (c.get m) k.at_ k.fn hn h
def zJb {y:V} {u:Value} {Q:Unit->Shared->Prop} (I:Inv X pins σ H s) (e:H a=some (.ins C dx fs)) (c:Cls X.K C) (n:zFj X.K C f) (hl:fs.length < 1000) (ry:zBg y u)
  (h:∀s',Inv X pins σ (upd H a (.ins C dx (zH6 f y fs))) s'->Q PUnit.unit s'):wpAny (model X.prog X.w) A (setAttr (.ref a) f u) Q E s:=by
 obtain⟨mA,O,r,wi,_,ho⟩:=zGo I.hok e;have hz:(fs.map (·.1)).length<=sizeLine:=by rw[wHf,sizeLine_eq];omega
 refine zNR I.kIn O c.sa c.po n.taker c.hd wi hz λh' O' sb=>h _ ?_;have hd:∃o,h'.get? dx=some o:=let ⟨o,_,_,e',_⟩:=O'.ns;⟨o,e'⟩;refine I.write (x:=a) (e:=dx) (by rw[e];exact True.intro) (.inr ho) (λb q hb z=>(sb.2 b hb).trans z) hd ?_;refine⟨by rw[zO O.ne];exact ho,?_,O.ne,O'.obj,_,O'.ns,λg=>?_,λg hg=>?_⟩
 ·have:=zES f y fs;omega
 ·show zH3 ((zH6 f y fs).lookup g) (if g=f then some u else mA g);rw[zEQ];by_cases q:g=f
  ·rw[wHl q,wHl q];exact ry
  rw[wHj q,wHj q];exact r g
 by_cases q:g=f
 ·rw[q];exact (zET f y fs).1
 refine (zET f y fs).2 g (wi g λz=>hg ?_);show (if g=f then some u else mA g)=none;rw[wHj q];exact z
def Inv.made (I:Inv X pins σ H s):Inv X pins σ (upd (upd H s.heap.objs.size (.own (s.heap.objs.size+1))) (s.heap.objs.size+1) (.ins C s.heap.objs.size []))
  { s with heap:=(s.heap.push W.emptyDict).push (W.instObj C s.heap.objs.size) }:=by
 have e1:(s.heap.push W.emptyDict).get? s.heap.objs.size=some W.emptyDict:=wHs s.heap rfl;have e2:((s.heap.push W.emptyDict).push (W.instObj C s.heap.objs.size)).get? (s.heap.objs.size+1)=some (W.instObj C s.heap.objs.size):=by
  have:=wHs (s.heap.push W.emptyDict) (o:=W.instObj C s.heap.objs.size) rfl
  rwa [wIa] at this
 have e3:(s.heap.push W.emptyDict).Ns s.heap.objs.size (λ_=>none):=⟨W.emptyDict,#[],_,e1,rfl,(λe he=>absurd he (by simp)),λ_=>rfl⟩;have I1:=I.laid (a:=s.heap.objs.size) (o:=.own (s.heap.objs.size+1)) (h':=s.heap.push W.emptyDict) (t':=s.toks) (λb u q=>wHi _ q) (wHm _) ⟨_,e1⟩;refine I1.laid (a:=s.heap.objs.size+1) (o:=.ins C s.heap.objs.size []) (t':=s.toks) (λb u q=>wHi _ q) (wIx (wIa _ _)) ?_;have ne:s.heap.objs.size≠s.heap.objs.size+1:=wHu (wIh _);refine⟨by rw[zO ne,zB],wHQ _,ne,e2,λ_=>none,(Heap.Ns1.of_empty e3).at λo q=>wHi _ q,λ_=>True.intro,λy hy=>absurd rfl hy⟩
def zL3 {prog:Program} {w:World} {env:Env} {e:Expr} {f:Str} {pos:Pos} {s:Shared} {Q:Value->Shared->Prop} (hb:attributeBase e f env (eval e env)=eval e env)
  (h:wpAny (model prog w) A (eval e env) (λo s₁=>wpAny (model prog w) A (getAttr o f true) Q E s₁) E s):wpAny (model prog w) A (eval (.Attribute e f pos) env) Q E s:=
 Attribute_any_ h (by rw[arm_eval_Attribute,hb])
end
def zRK (K:W.Frag) (ta:TE) (f:Str):TE:=λσ H Q=>ta σ H λx H1=>∃a C dx fs v,x=.ref a/\H1 a=some (.ins C dx fs)/\Cls K C/\zFj K C f/\fs.lookup f=some v/\Q v H1
def zRM (K:W.Frag) (ta tv:TE) (f:Str):TS:=λD σ H=>tv σ H λy H1=>ta σ H1 λx H2=>∃a C dx fs,x=.ref a/\H2 a=some (.ins C dx fs)/\Cls K C/\zFj K C f/\fs.length < 1000/\
 D.nx σ (upd H2 a (.ins C dx (zH6 f y fs)))
section
variable {X:Cx} {o e value:Expr} {f:Str} {pos pos':Pos} {ta tv:TE}
def zI9 (he:PE X e ta) (hb:attributeBase e f X.env (eval e X.env)=eval e X.env):PE X (.Attribute e f pos) (zRK X.K ta f):=by intro pins s σ H Q I h;refine zL3 hb (thn (he pins s σ H _ I h) λu s1 aB=>?_);obtain⟨x,H1,I1,rx,a,C,dx,fs,v,ex,ea,c,n,l,q⟩:=aB;subst ex;obtain rfl:u=Value.ref a:=rx;exact zJz I1 ea c n l λu' s2 I2 ru=>⟨v,H1,I2,ru,q⟩
def zP8 (ha:PE X o ta) (hv:PE X value tv) (hs:swapsWith value (some (.Attribute o f pos')) pos.line X.env=pure false):PS X (.Assign [.Attribute o f pos'] value pos) (zRM X.K ta tv f):=by intro pins s σ H D I h;refine plainObj_wpAny_Assign_Attribute (thn (hv pins s σ H _ I h) λu s1 ⟨y,H1,I1,ry,q⟩=>thn (ha pins s1 σ H1 _ I1 q) λov s2 ⟨x,H2,I2,rx,a,C,dx,fs,ex,ea,c,n,l,q2⟩=>?_) hs;subst ex;obtain rfl:ov=Value.ref a:=rx;exact zJb I2 ea c n l ry λs3 I3=>⟨σ,_,I3,q2⟩
end
section
variable {X:Cx} {pins:List (Addr × Obj)} {σ:St} {H:Hp} {s:Shared} {A:Around} {E:Value->Shared->Prop} {Q:Value->Shared->Prop} {c:Value} {b:Bool}
inductive TyOf (K:W.Frag) (H:Hp):V->Value->Prop where
 | non:TyOf K H .non (.type "NoneType")
 | bl (x:Bool):TyOf K H (.bl x) (.type "bool")
 | int (i:Int):TyOf K H (.int i) (.type "int")
 | str (x:Str):TyOf K H (.str x) (.type "str")
 | flt (x:UInt64):TyOf K H (.flt x) (.type "float")
 | lst {a:Addr} {xs:List V} (e:H a=some (.lst xs)):TyOf K H (.ref a) (.type "list")
 | frz {a:Addr} {o:Obj} {xs:List V} (e:H a=some (.frz o (.lst xs))):TyOf K H (.ref a) (.type "list")
 | tup {a:Addr} {xs:List V} (e:H a=some (.tup xs)):TyOf K H (.ref a) (.type "tuple")
 | dK {a:Addr} {aJ:List (Key × V)} (e:H a=some (.dK aJ)):TyOf K H (.ref a) (.type "dict")
 | dT {a:Addr} {aJ:List (List Key × V)} (e:H a=some (.dT aJ)):TyOf K H (.ref a) (.type "dict")
 | ins {a C dx:Addr} {fs:List (Str × V)} (e:H a=some (.ins C dx fs)) (cl:Cls K C) (ha:W.findIn K (.ref C) "__class__"=some (some (.builtin "object.__class__")))
   (hn:W.specialIn K (.builtin "object.__class__") "__get__"=some (some (.builtin "getset_descriptor.__get__"))) (htk:W.takesIn K (.builtin "object.__class__")=some true)
   (hm:W.mroIn K C (.type "object")=some true):TyOf K H (.ref a) (.ref C)
def zKV {x:V} {u t:Value} (I:Inv X pins σ H s) (rx:zBg x u) (ty:TyOf X.K H x t) (e:W.kitOne X.K t c=some b) (h:∀tk,Q (.bool b) { s with toks:=tk }) :
  wpAny (model X.prog X.w) A (call (.builtin "isinstance") [u,c]) Q E s:=by
 cases ty with
 | non=>cases (show u=Value.none from rx);exact W.kia_one W.kitx_none I.kIn True.intro e (λz=>nomatch z) h
 | bl y=>cases (show u=Value.bool y from rx);exact W.kia_one W.kitx_bool I.kIn True.intro e (λz=>nomatch z) h
 | int i=>obtain⟨t,q⟩:=(show ∃t,u=Value.int i t from rx);cases q;exact W.kia_one W.kitx_int I.kIn True.intro e (λz=>nomatch z) h
 | str y=>obtain⟨t,q⟩:=(show ∃t,u=Value.str y t from rx);cases q;exact W.kia_one W.kitx_str I.kIn True.intro e (λz=>nomatch z) h
 | flt y=>obtain⟨t,q⟩:=(show ∃t,u=Value.float y t from rx);cases q;exact W.kia_one W.kitx_float I.kIn True.intro e (λz=>nomatch z) h
 | @lst a xs ea=>
  cases (show u=Value.ref a from rx);obtain⟨_,_,n,_,h1⟩:=(show ObjOk X.prog X.w H s.heap a (.lst xs) from I.hok a _ ea);exact W.kia_one W.kitx_list I.kIn ⟨_,h1,rfl⟩ e (λz=>nomatch z) h
 | @frz a ob xs ea=>
  cases (show u=Value.ref a from rx);obtain⟨_,_,_,n,_,h1⟩:=(show ObjOk X.prog X.w H s.heap a (.frz ob (.lst xs)) from I.hok a _ ea);exact W.kia_one W.kitx_list I.kIn ⟨_,h1,rfl⟩ e (λz=>nomatch z) h
 | @tup a xs ea=>
  cases (show u=Value.ref a from rx);obtain⟨_,_,_,p⟩:=(show ObjOk X.prog X.w H s.heap a (.tup xs) from I.hok a _ ea);obtain⟨o,h1,h2,_⟩:=p;exact W.kia_one W.kitx_tuple I.kIn ⟨o,h1,h2⟩ e (λz=>nomatch z) h
 | @dK a aJ ea=>
  cases (show u=Value.ref a from rx);obtain⟨_,_,vs,_,p⟩:=(show ObjOk X.prog X.w H s.heap a (.dK aJ) from I.hok a _ ea);obtain⟨o,es,ep,h1,h2,_⟩:=p;exact W.kia_one W.kitx_dict I.kIn ⟨o,h1,h2.1⟩ e (λz=>nomatch z) h
 | @dT a aJ ea=>
  cases (show u=Value.ref a from rx);obtain⟨_,_,xs,_,o,es,ep,h1,h2,_⟩:=(show ObjOk X.prog X.w H s.heap a (.dT aJ) from I.hok a _ ea);exact W.kia_one W.kitx_dict I.kIn ⟨o,h1,h2.1⟩ e (λz=>nomatch z) h
 | @ins a C dx fs ea cl ha hn htk hm=>
  cases (show u=Value.ref a from rx);obtain⟨mA,O,_⟩:=zGo I.hok ea;obtain⟨od,J,_⟩:=O.look;exact W.kia_one (W.kitx_own (cl.get _) cl.hd ha hn htk hm) I.kIn J e (λz=>nomatch z) h
end
structure Room (k:Nat) (A:Around):Prop where
 hd:A.handled=none
 dp:A.depth+3*k+5 < recursionLimit
 un:A.units+16*k+200 < cLine
def Room.mono {j k:Nat} {A:Around} (r:Room k A) (h:j<=k):Room j A:=⟨r.hd,by have:=r.dp;omega,by have:=r.un;omega⟩
def Room.deeper {k:Nat} {A:Around} (r:Room (k+1) A) (env:Env):Room k (A.deeper env):=
 ⟨r.hd,by have:=r.dp;show A.depth+1+3*k+5 < _;omega,by have:=r.un;show A.units+3+16*k+200 < _;omega⟩
def Room.in1 {k:Nat} {A:Around} (r:Room (k+1) A):Room k A.in1:=
 ⟨r.hd,by have:=r.dp;show A.depth+3*k+5 < _;omega,by have:=r.un;show A.units+1+16*k+200 < _;omega⟩
def zJu {A:Around} {C:Addr} {us:List Value} {kw:List (Str × Value)}:(A.under (.builtin "type.__call__" ⟨.ref C::us,kw⟩)).depth=A.depth+1:=by first | rfl | simp[Around.under,Code.weight,Code.isCreation,Code.isGuard,Code.isCaller,Code.frames,Code.isFrame,guardIds]
theorem zJt {A:Around} {C:Addr} {us:List Value} {kw:List (Str × Value)}:(A.under (.builtin "type.__call__" ⟨.ref C::us,kw⟩)).units=A.units+1:=by first | rfl | simp[Around.under,Code.cUnits,Code.frames,Code.isFrame]
theorem Room.make {k:Nat} {A:Around} (r:Room (k+1) A) (C:Addr) (us:List Value) (kw:List (Str × Value)):Room k (A.under (.builtin "type.__call__" ⟨.ref C::us,kw⟩)):=
 ⟨r.hd,by have:=r.dp;rw[zJu];omega,by have:=r.un;rw[zJt];omega⟩
def Room.depth {k:Nat} {A:Around} (r:Room k A):A.depth < recursionLimit:=by have:=r.dp;omega
def Room.units {k:Nat} {A:Around} (r:Room k A):A.units+64 < cLine:=by have:=r.un;omega
def zLH:TA:=λ_ H Q=>Q [] H
def zA6 (ta:TE) (tr:TA):TA:=λσ H Q=>ta σ H λx H1=>tr σ H1 λxs H2=>Q (x::xs) H2
section
variable {X:Cx} {e:Expr} {es:List Expr} {te:TE} {t:TA} {pos:Pos}
def zE:PA X [] zLH:=λ_ _ _ _ H Q I h=>Calls.spliced_nil ⟨[],H,I,.nil,h⟩
def zG (ha:PE X e te) (hr:PA X es t) (hs:starEach (e::es) X.env=(false,eval e X.env)::starEach es X.env:=by rfl):PA X (e::es) (zA6 te t):=by intro pos pins s σ H Q I h;rw[hs];show wpAny _ _ (spliced ((false,eval e X.env)::backTo pos (starEach es X.env))) _ _ s;refine Calls.spliced_cons (thn (ha pins s σ H _ I h) λu s1 aB=>?_);obtain⟨x,H1,I1,r1,q1⟩:=aB;exact thn (hr pos pins s1 σ H1 _ I1 q1) λus s2 ⟨xs,H2,I2,r2,q2⟩=>⟨x::xs,H2,I2,.cons r1 r2,q2⟩
def zRF (t:TA):TE:=λσ H Q=>t σ H λxs H1=>xs.length<=sizeLine/\∀p,H1 p=none->Q (.ref p) (upd H1 p (.tup xs))
def zPo (t:TA):TE:=λσ H Q=>t σ H λxs H1=>xs.length<=sizeLine/\∀p,H1 p=none->Q (.ref p) (upd H1 p (.lst xs))
def zAS {x1} (h:PA X es t):PE X (.Tuple es x1 pos) (zRF t):=by intro pins s σ H Q I hq;refine wpAny_Tuple_spliced (thn (h pos pins s σ H _ I hq) λus s1 ⟨xs,H1,I1,r,z,q⟩=>⟨by rw[← r.length];exact z,?_⟩);have hf:H1 s1.heap.objs.size=none:=I1.hok.fresh (wHm _);refine⟨.ref s1.heap.objs.size,upd H1 s1.heap.objs.size (.tup xs),I1.laid (t':=s1.toks) (λb u e=>wHi _ e) (wHm _) ?_,rfl,q _ hf⟩;exact⟨z,us,r,⟨_,wHs _ rfl,rfl,_,rfl⟩⟩
def zAo (h:PA X es t):PE X (.List es pos) (zPo t):=by intro pins s σ H Q I hq;refine wpAny_List_spliced (thn (h pos pins s σ H _ I hq) λus s1 ⟨xs,H1,I1,r,z,q⟩=>⟨by rw[← r.length];exact z,?_⟩);have hf:H1 s1.heap.objs.size=none:=I1.hok.fresh (wHm _);refine⟨.ref s1.heap.objs.size,upd H1 s1.heap.objs.size (.lst xs),I1.laid (t':=s1.toks) (λb u e=>wHi _ e) (wHm _) ?_,rfl,q _ hf⟩;exact⟨z,us,0,r,wHs _ rfl⟩
end
abbrev Sp:=List V->Hp->VK->XK->Prop
abbrev CXT:=List Env->Hp->Shared->XK->Value->Shared->Prop
structure Env0 (P:Program) (w:World) (K:W.Frag) (mg:Str->Option Value) (base:Heap) (A:Around) (outer:List Env) (s:Shared) (H:Hp):Prop where
 frames:A.frames=some outer
 mod:Mod K mg base
 bs:∀b o,base.get? b=some o->s.heap.get? b=some o/\H b=none
 bsz:base.objs.size<=s.heap.objs.size
 funs:s.heap.FunFrames base outer
 frf:∀b∈frs outer,H b=none
 hok:HOk P w H s.heap
 bare:AllBare s.gens
def CE (outer:List Env) (P:Program) (w:World) (H:Hp) (s:Shared) (Q:VK) (u:Value) (s':Shared):Prop:=
 ∃v H',s'.os=s.os/\AllBare s'.gens/\Un (frs outer) [] H H' s.heap s'.heap/\HOk P w H' s'.heap/\zBg v u/\Q v H'
def CR (CX:CXT) (outer:List Env) (P:Program) (w:World) (H:Hp) (s:Shared) (Q:VK) (E:XK) (r:Result) (s':Shared):Prop:=
 match r with
 | .ok (.ret u)=>CE outer P w H s Q u s'
 | .ok _=>False
 | .error e=>CX outer H s E e s'
structure FnOk (P:Program) (w:World) (K:W.Frag) (mg:Str->Option Value) (base:Heap) (CX:CXT) (k:Nat) (f:Addr) (fd:FuncData) (ps:List Str) (sp:Sp):Prop where
 len:∀vs H Q E,sp vs H Q E->vs.length=ps.length
 run:∀(A:Around) (outer:List Env) (s:Shared) (H:Hp) (args:Args) (us:List Value) (vs:List V) (Q:VK) (E:XK),Room k A->Env0 P w K mg base A outer s H->BindsTo s fd args (ps.zip us)->zA4 vs us->sp vs H Q E->
  codeAny (model P w) A (.call (.ref f) args) (CR CX outer P w H s Q E) s
def FnOk.mono {P:Program} {w:World} {K:W.Frag} {mg:Str->Option Value} {base:Heap} {CX:CXT} {j k:Nat} {f:Addr} {fd:FuncData} {ps:List Str} {sp:Sp} (F:FnOk P w K mg base CX j f fd ps sp) (h:j<=k) :
  FnOk P w K mg base CX k f fd ps sp:=⟨F.len,λA outer s H args us vs Q E hr=>F.run A outer s H args us vs Q E (hr.mono h)⟩
def FnOk.imp {P:Program} {w:World} {K:W.Frag} {mg:Str->Option Value} {base:Heap} {CX:CXT} {k:Nat} {f:Addr} {fd:FuncData} {ps:List Str} {sp sp':Sp} (F:FnOk P w K mg base CX k f fd ps sp)
  (h:∀vs H Q E,sp' vs H Q E->sp vs H Q E):FnOk P w K mg base CX k f fd ps sp':=
 ⟨λvs H Q E q=>F.len vs H Q E (h _ _ _ _ q),λA outer s H args us vs Q E hr he hb hv hs=>F.run A outer s H args us vs Q E hr he hb hv (h _ _ _ _ hs)⟩
def Env0.make {P:Program} {w:World} {K:W.Frag} {mg:Str->Option Value} {base:Heap} {A:Around} {outer:List Env} {s:Shared} {H:Hp} (e:Env0 P w K mg base A outer s H) (C:Addr) (us:List Value) (kw:List (Str × Value)) :
  Env0 P w K mg base (A.under (.builtin "type.__call__" ⟨.ref C::us,kw⟩)) outer s H:=⟨by first | exact e.frames | (simpa [Around.under,Code.envs,Code.isFrame,pushEnvs] using e.frames),e.mod,e.bs,e.bsz,e.funs,e.frf,e.hok,e.bare⟩
def Env0.in1 {P:Program} {w:World} {K:W.Frag} {mg:Str->Option Value} {base:Heap} {A:Around} {outer:List Env} {s:Shared} {H:Hp} (e:Env0 P w K mg base A outer s H) :
  Env0 P w K mg base A.in1 outer s H:=⟨e.frames,e.mod,e.bs,e.bsz,e.funs,e.frf,e.hok,e.bare⟩
section
variable {X:Cx} {pins:List (Addr × Obj)} {σ:St} {H:Hp} {s s':Shared}
def Inv.env0 (I:Inv X pins σ H s):Env0 X.prog X.w X.K X.mg X.base X.A X.stack s H:=
 ⟨I.ok.frames,I.ok.mod,I.bs,wHv I.ok.bsz I.sz,I.stack,I.stkFree,I.hok,I.bare⟩
def Inv.after {Q:VK} {u:Value} (I:Inv X pins σ H s) (h:CE X.stack X.prog X.w H s Q u s'):EP X pins σ Q u s':=by obtain⟨v,H',os,bare,un,hok,r,q⟩:=h;obtain⟨hh,g,d,t,lU⟩:=s';obtain rfl:lU=s.os:=os;exact⟨v,H',I.call (h':=hh) (g':=g) (d':=d) (t':=t) (ch:=[]) un hok bare (λb z=>absurd z (by simp)),r,q⟩
end
def zPr (sp:Sp) (aL:List V) (E:XK) (t:TA):TE:=λσ H Q=>t σ H λvs H1=>sp (vs++aL) H1 Q E
inductive TMeth (C:Addr) (m:Str) (sp:Sp) (aL:List V) (E:XK) (t:TA) (σ:St) (Q:VK) (x:V) (H1:Hp):Prop
 | mk (a:_) (dx:_) (fs:_):(x=.ref a)->(H1 a=some (.ins C dx fs))->(fs.lookup m=none/\
 t σ H1 λvs H2=>sp (x::(vs++aL)) H2 Q E)->TMeth C m sp aL E t σ Q x H1
def zPn (C:Addr) (m:Str) (sp:Sp) (aL:List V) (E:XK) (ta:TE) (t:TA):TE:=λσ H Q=>ta σ H λx H1=>TMeth C m sp aL E t σ Q x H1
def zQG (C:Addr) (sp:Sp) (aL:List V) (E:XK) (t:TA):TE:=λσ H Q=>t σ H λvs H1=>∀x dx,H1 x=none->H1 dx=none->dx≠x->
 sp (.ref x::(vs++aL)) (upd (upd H1 dx (.own x)) x (.ins C dx [])) (λv H2=>v=.non/\Q (.ref x) H2) E
def zAc (K:W.Frag) (fd:FuncData) (ps:List Str) (ds:List Value):Prop:=
 ∀(s:Shared) (us:List Value),K.In s.heap->(us++ds).length=ps.length->BindsTo s fd ⟨us,[]⟩ (ps.zip (us++ds))
def zAc.all {K:W.Frag} {fd:FuncData} {ps:List Str} (h:∀us:List Value,us.length=ps.length->bindArgs fd ⟨us,[]⟩=pure (ps.zip us)):zAc K fd ps []:=λs us _ hl=>by rw[wHR] at hl ⊢;exact .of_eq (h us hl)
def zDx (CX:CXT) (X:Cx) (E:XK):Prop:=∀(pins:List (Addr × Obj)) (σ:St) (H:Hp) (s:Shared) (e:Value) (s':Shared),Inv X pins σ H s->CX X.stack H s E e s'->X.xe e s'
section
variable {X:Cx} {CX:CXT} {k:Nat} {f C:Addr} {fd:FuncData} {ps:List Str} {sp:Sp} {aL:List V} {ds:List Value} {E:XK} {x m:Str} {p pos apos:Pos} {e o:Expr} {es:List Expr} {ta:TE} {t:TA}
def zKi {pins:List (Addr × Obj)} {σ:St} {H:Hp} {s:Shared} {Q:VK} {us:List Value} {vs:List V} (F:FnOk X.prog X.w X.K X.mg X.base CX k f fd ps sp) (hr:Room k X.A) (hb:zAc X.K fd ps ds) (hd:zA4 aL ds) (hx:zDx CX X E)
  (I:Inv X pins σ H s) (r:zA4 vs us) (h:sp (vs++aL) H Q E):wpAny (model X.prog X.w) X.A (call (.ref f) us) (EP X pins σ Q) X.xe s:=by
 have r2:zA4 (vs++aL) (us++ds):=r.append hd;have hl:(us++ds).length=ps.length:=by rw[← r2.length];exact F.len _ _ _ _ h
 refine wpAny_call (codeAny_mono (F.run X.A X.stack s H ⟨us,[]⟩ (us++ds) (vs++aL) Q E hr I.env0 (hb s us I.kIn hl) r2 h) λr s' hq=>?_);cases r with
 | error e=>exact hx pins σ H s e s' I hq
 | ok fl=>
  cases fl with
  | ret u=>exact I.after hq
  | next=>exact wHX hq
  | brk=>exact wHX hq
  | cont=>exact wHX hq
def zAR (F:FnOk X.prog X.w X.K X.mg X.base CX k f fd ps sp) (hr:Room k X.A) (hg:Gl X x) (hm:X.mg x=some (.ref f)) (hk:W.keepIn X.K (.ref f)=true) (hb:zAc X.K fd ps ds) (hd:zA4 aL ds) (hx:zDx CX X E)
  (ha:PA X (e::es) t) (cA:(x == ("__debug__":Str))=false:=by decide) (he:starEach (e::es) X.env=(false,eval e X.env)::starEach es X.env:=by rfl) (aM:(backTo pos (starEach es X.env)).any (·.1)=false:=by rfl) :
  PE X (.Call (.Name x p) (e::es) [] pos) (zPr sp aL E t):=by
 intro pins s σ H Q I h;refine wpAny_Call_Name_kw (zBP I hg hm ?_ cA);refine W.callWith_K (h₀:=X.base) I.ok.mod.kin hk (thn (ha pos pins s σ H _ I h) λus s1 ⟨vs,H1,I1,r,q⟩=>⟨I1.kIn,?_⟩) he aM;exact zKi F hr hb hd hx I1 r q
def zCl {pl:Sem Bool} (he:PE X o ta) (c:Cls X.K C) (hm:Meth X.K C m f) (F:FnOk X.prog X.w X.K X.mg X.base CX k f fd ps sp) (hr:Room k X.A) (hb:zAc X.K fd ps ds) (hd:zA4 aL ds) (hx:zDx CX X E) (ha:PA X (e::es) t)
  (bF:starEach (e::es) X.env=(false,eval e X.env)::starEach es X.env:=by rfl) (aM:(backTo pos (starEach es X.env)).any (·.1)=false:=by rfl)
  (ht:eval (.Call (.Attribute o m apos) (e::es) [] pos) X.env=(do
   let ov ← eval o X.env
   standAt apos.atName
   let (f,first) ← holding [ov] (getMethod ov m pl)
   callWith pos f first (backTo pos (starEach (e::es) X.env)) (backToKw pos (keywordEach [] X.env))):=by rfl) :
  PE X (.Call (.Attribute o m apos) (e::es) [] pos) (zPn C m sp aL E ta t):=by
 intro pins s σ H Q I h;refine W.methodCall_KW (pl:=pl) (thn (he pins s σ H _ I h) λu s1 ⟨x,H1,I1,rx,a,dx,fs,ex,ea,l,q⟩=>?_) ht;subst ex;obtain rfl:u=Value.ref a:=rx;refine zFJ I1 ea c hm l ?_;refine W.callWith_K (first:=[.ref a]) (h₀:=X.base) I.ok.mod.kin hm.kp (thn (ha pos pins s1 σ H1 _ I1 q) λus s2 ⟨vs,H2,I2,r,q2⟩=>⟨I2.kIn,?_⟩) bF aM;exact zKi (us:=.ref a::us) (vs:=.ref a::vs) F hr hb hd hx I2 (.cons rfl r) q2
def zBu {pl:Sem Bool} (he:PE X o ta) (c:Cls X.K C) (hm:Meth X.K C m f) (F:FnOk X.prog X.w X.K X.mg X.base CX k f fd ps sp) (hr:Room k X.A) (hb:zAc X.K fd ps ds) (hd:zA4 aL ds) (hx:zDx CX X E)
  (ht:eval (.Call (.Attribute o m apos) [] [] pos) X.env=(do
   let ov ← eval o X.env
   standAt apos.atName
   let (f,first) ← holding [ov] (getMethod ov m pl)
   callWith pos f first (backTo pos (starEach [] X.env)) (backToKw pos (keywordEach [] X.env))):=by rfl) :
  PE X (.Call (.Attribute o m apos) [] [] pos) (zPn C m sp aL E ta zLH):=by
 intro pins s σ H Q I h;refine W.methodCall_KW (pl:=pl) (thn (he pins s σ H _ I h) λu s1 ⟨x,H1,I1,rx,a,dx,fs,ex,ea,l,q⟩=>?_) ht;subst ex;obtain rfl:u=Value.ref a:=rx;refine zFJ I1 ea c hm l ?_;exact W.callWith_K0 (first:=[.ref a]) I1.kIn hm.kp (zKi (us:=[.ref a]) (vs:=[.ref a]) F hr hb hd hx I1 (.cons rfl .nil) q)
structure Mk (K:W.Frag) (C f:Addr):Prop where
 makes:W.makesIn K C=true
 init:W.findIn K (.ref C) "__init__"=some (some (.ref f))
 fn:W.isFn K (.ref f)=true
 kp:W.keepIn K (.ref C)=true
def zLV {pins:List (Addr × Obj)} {σ:St} {H:Hp} {s:Shared} {Q:VK} {us:List Value} {vs:List V} (M:Mk X.K C f) (F:FnOk X.prog X.w X.K X.mg X.base CX k f fd ps sp) (hr:Room (k+1) X.A) (hb:zAc X.K fd ps ds) (hd:zA4 aL ds)
  (hx:zDx CX X E) (I:Inv X pins σ H s) (r:zA4 vs us)
  (h:∀x dx,H x=none->H dx=none->dx≠x->sp (.ref x::(vs++aL)) (upd (upd H dx (.own x)) x (.ins C dx [])) (λv H2=>v=.non/\Q (.ref x) H2) E) :
  wpAny (model X.prog X.w) X.A (call (.ref C) us) (EP X pins σ Q) X.xe s:=by
 have hq:=h (s.heap.objs.size+1) s.heap.objs.size (I.hok.fresh (Nat.le_succ _)) (I.hok.fresh (wHm _)) (wHu (wIh _));have I2:=Inv.made (C:=C) I;have r2:zA4 (V.ref (s.heap.objs.size+1)::(vs++aL)) (Value.ref (s.heap.objs.size+1)::(us++ds)):=.cons rfl (r.append hd);have hl:(Value.ref (s.heap.objs.size+1)::us++ds).length=ps.length:=by have e:=r2.length;rw[F.len _ _ _ _ hq] at e;exact e.symm
 refine wpAny_call (zM4 (f:=f) I.kIn M.makes M.init (beq_iff_eq.mp M.fn) (codeAny_mono (F.run _ X.stack _ _ ⟨Value.ref (s.heap.objs.size+1)::us,[]⟩ (Value.ref (s.heap.objs.size+1)::(us++ds)) _ _ E (hr.make C us [])
  (I2.env0.make C us []) (hb _ (Value.ref (s.heap.objs.size+1)::us) I2.kIn hl) r2 hq) λr s' cS=>?_))
 cases r with
 | error e=>exact hx pins σ _ _ e s' I2 cS
 | ok fl=>
  cases fl with
  | ret u=>
   obtain⟨v,H',I3,rv,ev,q3⟩:=I2.after cS;subst ev;exact⟨rv,⟨V.ref (s.heap.objs.size+1),H',I3,rfl,q3⟩⟩
  | next=>exact wHX cS
  | brk=>exact wHX cS
  | cont=>exact wHX cS
def zMh (M:Mk X.K C f) (F:FnOk X.prog X.w X.K X.mg X.base CX k f fd ps sp) (hr:Room (k+1) X.A) (hg:Gl X x) (hm:X.mg x=some (.ref C)) (hb:zAc X.K fd ps ds) (hd:zA4 aL ds) (hx:zDx CX X E)
  (cA:(x == ("__debug__":Str))=false:=by decide):PE X (.Call (.Name x p) [] [] pos) (zQG C sp aL E zLH):=by
 intro pins s σ H Q I h;refine wpAny_Call_Name_kw (zBP I hg hm ?_ cA);exact W.callWith_K0 I.kIn M.kp (zLV (us:=[]) M F hr hb hd hx I .nil h)
end
structure FnScope (N P:List Str) (sc:Scope):Prop where
 kind:sc.kind=.function
 co:sc.isCoroutine=false
 gen:sc.isGenerator=false
 nd:N.Nodup
 pre:N.take P.length=P
 par:∀x∈P,sc.names.lookup x=some .local∨sc.names.lookup x=some .cell
 nofree:∀y∈sc.names,y.2≠.free
theorem zHw {kindOf:Str->Option NameKind} {x:Str}:∀{binds:List (Str × Value)} {m:Str->Option Value},(∀v,(x,v)∉binds)->bindL kindOf binds m x=m x
 | [],_,_=>rfl
 | (n,v)::r,m,h=>by
  unfold bindL;rw[zHw λw hw=>h w (wHP _ hw)]
  split
  ·have:x≠n:=by rintro rfl;exact h v wH5
   simp[this]
  rfl
theorem zHy {kindOf:Str->Option NameKind} {x:Str}:∀{binds:List (Str × Value)} {m:Str->Option Value},(∀v,(x,v)∉binds)->bindC kindOf binds m x=m x
 | [],_,_=>rfl
 | (n,v)::r,m,h=>by
  unfold bindC;rw[zHy λw hw=>h w (wHP _ hw)]
  split
  ·rfl
  have:x≠n:=by rintro rfl;exact h v wH5
  simp[this]
theorem zHx {kindOf:Str->Option NameKind} {x:Str} {v:Value}:∀{P:List Str} {vs:List Value} {i:Nat} {m:Str->Option Value},P.Nodup->P[i]?=some x->vs[i]?=some v->kindOf x=some .local->
  bindL kindOf (P.zip vs) m x=some v
 | [],_,_,_,_,h,_,_=>by simp at h
 | _::_,[],_,_,_,_,h,_=>by simp at h
 | p::P,w::vs,0,m,nd,h1,h2,hk=>by simp at h1 h2;subst h1;subst h2;show bindL kindOf ((p,w)::P.zip vs) m p=_;unfold bindL;rw[zHw λv hv=>(List.nodup_cons.mp nd).1 (List.of_mem_zip hv).1,wHl hk];simp
 | p::P,w::vs,i+1,m,nd,h1,h2,hk=>by show bindL kindOf ((p,w)::P.zip vs) m x=_;unfold bindL;exact zHx (i:=i) (List.nodup_cons.mp nd).2 (by simpa using h1) (by simpa using h2) hk
theorem zHz {kindOf:Str->Option NameKind} {x:Str} {v:Value}:∀{P:List Str} {vs:List Value} {i:Nat} {m:Str->Option Value},P.Nodup->P[i]?=some x->vs[i]?=some v->kindOf x≠some .local->
  bindC kindOf (P.zip vs) m x=some v
 | [],_,_,_,_,h,_,_=>by simp at h
 | _::_,[],_,_,_,_,h,_=>by simp at h
 | p::P,w::vs,0,m,nd,h1,h2,hk=>by simp at h1 h2;subst h1;subst h2;show bindC kindOf ((p,w)::P.zip vs) m p=_;unfold bindC;rw[zHy λv hv=>(List.nodup_cons.mp nd).1 (List.of_mem_zip hv).1,wHj hk];simp
 | p::P,w::vs,i+1,m,nd,h1,h2,hk=>by show bindC kindOf ((p,w)::P.zip vs) m x=_;unfold bindC;exact zHz (i:=i) (List.nodup_cons.mp nd).2 (by simpa using h1) (by simpa using h2) hk
def zD2 (N:List Str) (vs:List V):St:=vs.map some++List.replicate (N.length-vs.length) none
def zEa (CX:CXT) (P:Program) (w:World) (K:W.Frag) (mg:Str->Option Value) (base:Heap) (N:List Str) (qual:Str) (scope:Scope) (f:Addr) (cd:Value) (A:Around) (outer:List Env) (s:Shared) (H:Hp) (E:XK):Cx where
 prog:=P
 w:=w
 K:=K
 mg:=mg
 base:=base
 A:=A.deeper (envOfC qual scope s.heap.objs.size f cd)
 N:=N
 s₀:=s
 H₀:=H
 env:=envOfC qual scope s.heap.objs.size f cd
 outer:=outer
 stack:=envOfC qual scope s.heap.objs.size f cd::outer
 ex:=[]
 calm:=true
 fn:=λ_=>true
 pn:=[]
 xe:=λe s'=>wpAny (model P w) (A.deeper (envOfC qual scope s.heap.objs.size f cd)) (leaving (envOfC qual scope s.heap.objs.size f cd) e) (λ_ s''=>CX outer H s E e s'') (λe' s''=>CX outer H s E e' s'') s'
def zIR {sc:Scope} {n:Nat} {x:Str} (h:sc.names.lookup x=some .cell):∃c,(cellsFrom n sc.names []).lookup x=some c:=by have q:=W.cellsFrom_some sc.names n [] (.inl h);exact Option.isSome_iff_exists.mp q
def zHf {CX:CXT} {P:Program} {w:World} {K:W.Frag} {mg:Str->Option Value} {base:Heap} {N ps:List Str} {qual:Str} {scope:Scope} {f:Addr} {cd:Value} {A:Around} {outer:List Env} {s s1:Shared} {H:Hp} {E:XK} {us:List Value} {vs:List V}
  (S:FnScope N ps scope) (hd:A.handled=none) (e0:Env0 P w K mg base A outer s H) (hl:vs.length=ps.length) (r:zA4 vs us)
  (x:InCallC s s.heap.objs.size (bindL (envOfC qual scope s.heap.objs.size f cd).kindOf (ps.zip us) λ_=>none) (cellsFrom (s.heap.objs.size+1) scope.names []) (bindC (envOfC qual scope s.heap.objs.size f cd).kindOf (ps.zip us) λ_=>none) s1) :
  Inv (zEa CX P w K mg base N qual scope f cd A outer s H E) [] (zD2 N vs) H s1:=by
 have aM:ps.length<=N.length:=by have:=congrArg List.length S.pre;rw[wHD] at this;omega
 obtain⟨h1,tk,rfl,hk⟩:=x.done;have gU:∀b:Addr,b∉(zEa CX P w K mg base N qual scope f cd A outer s H E).ex:=λb z=>absurd (show b∈([]:List Addr) from z) (by simp);refine⟨⟨e0.mod,S.kind,rfl,rfl,wHm _,λy z c h1 h2=>?_,λy hy=>?_,λy c _ h=>?_,λ_=>hd,Around.frames_deeper e0.frames,.inr ⟨rfl,rfl⟩,λb z=>absurd z (gU b),e0.bs,e0.bsz,λb _ _=>gU b,λb z=>absurd z (gU b),e0.funs,e0.frf⟩,
  rfl,e0.bare,Un.kept hk,⟨_,x.toInCall.ns,λi y v h1 h2 h3=>?_⟩,λy c h=>⟨_,x.cell y c h⟩,e0.hok.fresh (wHm _),λy c h=>?_,λp hp=>absurd (show p∈([]:List (Addr × Obj)) from hp) (by simp),e0.hok.kept hk,?_⟩
 ·exact name_of_addr x.apart (PySem.mem_of_lookup h1) (PySem.mem_of_lookup h2)
 ·have hy:scope.names.lookup y=some .cell∨scope.names.lookup y=some .free:=hy;rcases hy with hy | hy
  ·exact zIR hy
  exact absurd rfl (S.nofree _ (PySem.mem_of_lookup hy))
 ·exact wIm (x.above y c (PySem.mem_of_lookup h))
 ·have hi:i < vs.length:=by
   unfold zD2 at h2;by_cases hi:i < vs.length
   ·exact hi
   rw[wHC (by simpa using hi)] at h2;rw[List.getElem?_replicate] at h2
   split at h2<;>cases h2
  have ha:vs[i]?=some v:=by
   unfold zD2 at h2;rw[wHE (by simpa using hi),wHn] at h2;cases e:vs[i]? with
   | none=>rw[e] at h2;cases h2
   | some a=>rw[e] at h2;cases h2;rfl
  obtain⟨u,hu,rv⟩:=r.get ha;have hp:ps[i]?=some y:=by rw[← S.pre,List.getElem?_take_of_lt ∅];exact h1
  have ndP:ps.Nodup:=by rw[← S.pre];exact S.nd.sublist (List.take_sublist _ _)
  refine⟨u,rv,?_⟩;rcases S.par y (wHO hp) with k | k
  ·exact .inl ⟨k,zHx ndP hp hu k⟩
  obtain⟨c,e⟩:=zIR (n:=s.heap.objs.size+1) k;refine .inr ⟨.inl k,c,e,?_⟩;have q:=x.cell y c e;rw[zHz ndP hp hu (by show scope.names.lookup y≠_;rw[k];decide)] at q;exact q
 ·exact e0.hok.fresh (wIm (x.above y c (PySem.mem_of_lookup h)))
 unfold zD2;show _=N.length;rw[wHp,wHf,wIp];omega
def zQj {CX:CXT} {P:Program} {w:World} {K:W.Frag} {mg:Str->Option Value} {base:Heap} {k:Nat} {f:Addr} {name qual:Str} {params:Arguments} {body:List Stmt} {scope:Scope} {dV kV doc pm cdv ct oc:Value} {an od:Option Addr}
  {dG:Array (Option Value)} {N ps:List Str} {sp:Sp} (lk:K.lookup f=some ⟨oc,od,.func (W.fnOf name qual params body scope dV kV doc pm an cdv ct),dG⟩) (aQ:W.codeIn K cdv qual=true) (S:FnScope N ps scope)
  (len:∀vs H Q E,sp vs H Q E->vs.length=ps.length)
  (aS:∀(A:Around) (outer:List Env) (s:Shared) (H:Hp) (vs:List V) (Q:VK) (E:XK),Room k (A.deeper (envOfC qual scope s.heap.objs.size f cdv))->sp vs H Q E->
   ∃t,PSs (zEa CX P w K mg base N qual scope f cdv A outer s H E) body t/\t { nx:=λ_ H'=>Q .non H',rt:=Q } (zD2 N vs) H) :
  FnOk P w K mg base CX (k+1) f (W.fnOf name qual params body scope dV kV doc pm an cdv ct) ps sp:=by
 refine⟨len,λA outer s H args us vs Q E hr e0 hb r bX=>?_⟩;have hl:=len _ _ _ _ bX;have KX:K.In s.heap:=e0.mod.kin.keeps λb o e=>(e0.bs b o e).1;have lim:s.heap.NoLimit:=e0.mod.nolimit.keeps λb o e=>(e0.bs b o e).1;have iB:∀y∈ps.zip us,scope.names.lookup y.1=some .local∨(scope.names.lookup y.1=some .cell/\((cellsFrom (s.heap.objs.size+1) scope.names []).lookup y.1).isSome=true):=λ⟨n,v⟩ hy=>by
  rcases S.par n (List.of_mem_zip hy).1 with q | q
  ·exact .inl q
  exact .inr ⟨q,W.cellsFrom_some _ _ _ (.inl q)⟩
 refine codeAny_call_function hr.depth (KX _ _ lk) rfl S.co S.gen rfl (W.codeRec_of KX aQ) (hb _ _ _ _ ?_);refine wpAny_newFunctionEnv_cells S.kind iB λenv he s1 x=>?_;subst he;refine⟨lim.keeps x.toInCall.keep,codeAny_func ?_⟩;obtain⟨t,ht,hq⟩:=aS A outer s H vs Q E (hr.deeper _) bX;have I:Inv (zEa CX P w K mg base N qual scope f cdv A outer s H E) [] (zD2 N vs) H s1:=zHf S hr.hd e0 hl r x;refine wHH (ht [] s1 (zD2 N vs) H _ I hq) (λfl s' hs=>?_) λe s' hs=>hs;have fin:∀{σ':St} {H':Hp} {v:V} {u:Value},Inv (zEa CX P w K mg base N qual scope f cdv A outer s H E) [] σ' H' s'->zBg v u->Q v H'->CE outer P w H s Q u s':=
  λ{σ' H' v u} J rv q=>⟨v,H',J.os,J.bare,J.base,J.hok,rv,q⟩
 cases fl with
 | ret u=>
  obtain⟨v,σ',H',J,rv,q⟩:=hs;exact fin J rv q
 | next=>
  obtain⟨σ',H',J,q⟩:=hs;exact fin (v:=V.non) (u:=Value.none) J rfl q
 | brk=>
  obtain⟨_,_,_,q⟩:=hs;exact wHX q
 | cont=>
  obtain⟨_,_,_,q⟩:=hs;exact wHX q
section
variable {X:Cx} {x:Str} {p pos:Pos} {e:Expr} {es:List Expr} {t:TA} {id T:String} {r:List V->Hp->VK->Prop}
def tCB (r:List V->Hp->VK->Prop) (t:TA):TE:=λσ H Q=>t σ H λvs H1=>r vs H1 Q
def zR (hc:zB7 X (.builtin id) r) (hg:Gl X x) (hm:X.mg x=none) (hv:bootBuiltins x=some (.builtin id)) (ha:PA X (e::es) t) (hn:x≠"__name__":=by decide) (cA:(x == ("__debug__":Str))=false:=by decide)
  (he:starEach (e::es) X.env=(false,eval e X.env)::starEach es X.env:=by rfl) (aM:(backTo pos (starEach es X.env)).any (·.1)=false:=by rfl):PE X (.Call (.Name x p) (e::es) [] pos) (tCB r t):=by
 intro pins s σ H Q I h;refine wpAny_Call_Name_kw (zDq I hg hm hv ?_ hn cA);exact PyProof.Rows.callWith_builtin1 (thn (ha pos pins s σ H _ I h) λus s1 ⟨vs,H1,I1,r1,q1⟩=>hc pins s1 σ H1 vs us Q I1 r1 q1) he aM
def zDi (hc:zB7 X (.type T) r) (hg:Gl X x) (hm:X.mg x=none) (hv:bootBuiltins x=some (.type T)) (ha:PA X (e::es) t) (hn:x≠"__name__":=by decide) (cA:(x == ("__debug__":Str))=false:=by decide)
  (he:starEach (e::es) X.env=(false,eval e X.env)::starEach es X.env:=by rfl) (aM:(backTo pos (starEach es X.env)).any (·.1)=false:=by rfl):PE X (.Call (.Name x p) (e::es) [] pos) (tCB r t):=by
 intro pins s σ H Q I h;refine wpAny_Call_Name_kw (zDq I hg hm hv ?_ hn cA);exact PyProof.Rows.callWith_type1 (thn (ha pos pins s σ H _ I h) λus s1 ⟨vs,H1,I1,r1,q1⟩=>hc pins s1 σ H1 vs us Q I1 r1 q1) he aM
end
end L2
namespace HT
open PySem PyProof.Rows
section
open PySem.SeqAt
open PySem.AutoSeq1 (wpAny_loadPart')
open PySem.MeetsSeq PySem.MeetsSeq2 PySem.MeetsSeq3
end
section
variable {prog:Program} {w:World} {A:Around} {E:Value->Shared->Prop} {s:Shared}
def sIx (n d:Nat):Option Int->Nat
 | none=>d
 | some v=>if v < 0 then (v+(n:Int)).toNat else min v.toNat n
def sIx_none (n d:Nat):sIx n d none=d:=rfl
def sIx_nat (n d k:Nat):sIx n d (some (k:Int))=min k n:=by show (if (k:Int) < 0 then ((k:Int)+(n:Int)).toNat else min (k:Int).toNat n)=min k n;rw[wHj ∅,wHS]
theorem zP1 (n d:Nat) (hd:d<=n) (o:Option Int):sIx n d o<=n:=by
 cases o with
 | none=>exact hd
 | some v=>
  show (if v < 0 then (v+(n:Int)).toNat else min v.toNat n)<=n;by_cases hv:v < 0
  ·rw[wHl hv];omega
  rw[wHj hv];exact Nat.min_le_right _ _
def zLx (v:Int) (n d:Nat):(if v < 0 then max (v+(n:Int)) 0 else min v (n:Int))=((sIx n d (some v):Nat):Int):=by
 show (if v < 0 then max (v+(n:Int)) 0 else min v (n:Int))=(((if v < 0 then (v+(n:Int)).toNat else min v.toNat n):Nat):Int);by_cases hv:v < 0
 ·simp only[wHl hv];omega
 simp only[wHj hv];omega
def zJ4 (lo hi:Option Int) (n:Nat):Builtin.Slice.sliceAdjust lo hi 1 (n:Int)=(((sIx n 0 lo:Nat):Int),((sIx n n hi:Nat):Int)):=by
 have h1:¬((1:Int) < 0):=by omega
 unfold Builtin.Slice.sliceAdjust;simp only[h1,if_false];refine Prod.ext ?_ ?_
 ·cases lo with
  | none=>rfl
  | some v=>exact zLx v n 0
 cases hi with
 | none=>rfl
 | some v=>exact zLx v n n
def zJi (i j:Nat):Builtin.Slice.slicePlaces (i:Int) (j:Int) 1=j-i:=by
 unfold Builtin.Slice.slicePlaces;have h1:(1:Int) > 0:=by omega
 simp only[h1,if_true,Int.ediv_one]
 split<;>omega
def zF2 {v:Value} {o:Option Int} {Q:Option Int->Shared->Prop} (p:IsPart v o) (h:Q o s):wpAny (model prog w) A (Builtin.Slice.slicePartIndex v) Q E s:=by
 cases p with
 | none=>exact slicePart_none h
 | int i t=>exact slicePart_int h
def zEe {sl:Addr} {vl vu:Value} {lo hi:Option Int} {n:Nat} {Q:Int × Int × Nat->Shared->Prop} (hs:s.heap.IsSliceOf sl vl vu .none) (pl:IsPart vl lo) (pu:IsPart vu hi)
  (h:Q (((sIx n 0 lo:Nat):Int),1,sIx n n hi-sIx n 0 lo) s):wpAny (model prog w) A (Builtin.Slice.sliceApplied (.ref sl) (pure (n:Int))) Q E s:=by
 obtain⟨os,hW,hcs,jU⟩:=id hs;unfold Builtin.Slice.sliceApplied Builtin.Slice.sliceFields;refine wHe (wHe (wIu hW jU (x:=vl) rfl (wHe (wIu hW jU (x:=vu) rfl (wHe (wIu hW jU (x:=.none) rfl (wHk ?_)))))));refine wHe (slicePart_none ?_);show wpAny _ _ (if ((1:Int) == 0)=true then _ else _) _ _ s;rw[wHj ⋯];refine wHe (zF2 pl (wHe (zF2 pu (wHe (wHk ?_)))));show wpAny _ _ (match Builtin.Slice.sliceAdjust lo hi 1 (n:Int) with | (lo,hi)=>pure (lo,(1:Int),Builtin.Slice.slicePlaces lo hi 1)) _ _ s;rw[zJ4 lo hi n];show wpAny _ _ (pure (((sIx n 0 lo:Nat):Int),(1:Int),Builtin.Slice.slicePlaces ((sIx n 0 lo:Nat):Int) ((sIx n n hi:Nat):Int) 1)) _ _ s;rw[zJi];exact wHk h
def zMe (xs:Array Value) (i k:Nat):((List.range k).filterMap λ(m:Nat)=>xs[((i:Int)+(m:Int)*1).toNat]?).toArray=((xs.toList.drop i).take k).toArray:=by
 have e:(λ(m:Nat)=>xs[((i:Int)+(m:Int)*1).toNat]?)=λm=>xs[i+m]?:=by
  funext m
  have:((i:Int)+(m:Int)*1).toNat=i+m:=by omega
  rw[this]
 rw[e];have:=pick_run xs i k;rw[List.filterMap_map] at this;have e2:((λx=>xs[x]?)∘λx=>i+x)=λm=>xs[i+m]?:=rfl;rw[e2] at this;rw[this]
theorem getItem_tuple_cut {t sl:Addr} {items:Array Value} {vl vu:Value} {lo hi:Option Int} {Q:Value->Shared->Prop} (ht:IsTup s.heap t items) (hs:s.heap.IsSliceOf sl vl vu .none) (pl:IsPart vl lo) (pu:IsPart vu hi)
  (hw:¬(sIx items.size 0 lo=0/\sIx items.size items.size hi=items.size))
  (h:Q (.ref s.heap.objs.size) { s with heap:=s.heap.push { cls:=.type "tuple",data:=.seq ((items.toList.drop (sIx items.size 0 lo)).take (sIx items.size items.size hi-sIx items.size 0 lo)).toArray } })
  (eY:items.size<=sizeLine):wpAny (model prog w) A (getItem (.ref t) (.ref sl)) Q E s:=by
 have bO:sizeOk (.seq ((items.toList.drop (sIx items.size 0 lo)).take (sIx items.size items.size hi-sIx items.size 0 lo)).toArray):=by show ((items.toList.drop (sIx items.size 0 lo)).take (sIx items.size items.size hi-sIx items.size 0 lo)).toArray.size<=sizeLine;rw[wHz,wHD,wIj,wH3];omega
 have hj:sIx items.size items.size hi<=items.size:=zP1 _ _ (wHm _) hi;obtain⟨os,hW,hcs,jU⟩:=id hs;have hTs:s.TypeIs (.ref sl) "slice":=⟨os,hW,hcs⟩;unfold getItem
 try with_reducible refine wHZ ?_
 first | refine wHe (wHk ?_) | skip
 refine wHe (wpAny_sequenceKey ht.typeIs ⋯ ?_);refine wHe (wpAny_callSpecial?_slot (name:=Str.ofString "__getitem__") ht.typeIs PyProof.Rows.slot_tuple_getitem
  (wpAny_call_entry PyProof.Rows.slot_tuple_getitem ht.typeIs entry_tuple_getitem ?_ (args_tuple_getitem _ _)))
 show wpAny _ _ (Builtin.Tuple.tupleItemsOf (.ref t) >>= _) _ _ s;refine wHe (tupleItemsOf_ ht ?_);refine wHe (wpAny_typeOf hTs ?_);rw[wHl ⋯];refine wHe (zEe hs pl pu ?_);have mO:¬((((sIx items.size 0 lo:Nat):Int) == 0 && (1:Int) == 1 && (sIx items.size items.size hi-sIx items.size 0 lo) == items.size)=true):=by intro q;rw[wHN,wHN] at q;have q1:((sIx items.size 0 lo:Nat):Int)=0:=eq_of_beq q.1.1;have q2:sIx items.size items.size hi-sIx items.size 0 lo=items.size:=eq_of_beq q.2;exact hw ⟨by omega,by omega⟩
 show wpAny _ _ (if (((sIx items.size 0 lo:Nat):Int) == 0 && (1:Int) == 1 && (sIx items.size items.size hi-sIx items.size 0 lo) == items.size)=true then _ else _) _ _ s;rw[wHj mO,zMe]
 first
  | exact wHe (m:=Builtin.Tuple.tupleExact _) (wH0 (wHk ⟨_,rfl,wHk h⟩) bO)
  | exact wHe (m:=Builtin.Tuple.tupleExact _) (wH0 (wHe (wHk (wHk ⟨_,rfl,wHk h⟩))) bO)
  | exact wHe (wHe (m:=Builtin.Tuple.tupleExact _) (wH0 (wHk (wHk ⟨_,rfl,wHk h⟩)) bO))
  | exact wHe (wHe (m:=Builtin.Tuple.tupleExact _) (wH0 (wHk ⟨_,rfl,wHk h⟩) bO))
end
end HT
namespace L2
open PySem PySem.Spec PyProof.Rows
abbrev TO:=St->Hp->(Option Int->Hp->Prop)->Prop
def PO (X:Cx) (e:Option Expr) (t:TO):Prop:=
 ∀(pins:List (Addr × Obj)) (s:Shared) (σ:St) (H:Hp) (Q:Option Int->Hp->Prop),Inv X pins σ H s->t σ H Q->
  wpAny (model X.prog X.w) X.A (evalPart e X.env) (λu s'=>∃o H',Inv X pins σ H' s'/\IsPart u o/\Q o H') X.xe s
def zNF:TO:=λ_ H Q=>Q none H
inductive TPart (Q:Option Int->Hp->Prop) (x:V) (H1:Hp):Prop
 | mk (i:_):(x=.int i)->(Q (some i) H1)->TPart Q x H1
def zQD (t:TE):TO:=λσ H Q=>t σ H λx H1=>TPart Q x H1
def zC6 {ns:List Int}:∀{us:List Value},zA4 (ns.map V.int) us->IntsAre us ns:=by
 induction ns with
 | nil=>intro us r;rw[List.map_nil] at r;cases r;exact .nil
 | cons n ns ih=>
  intro us r;rw[wIg] at r;cases r with
  | cons r1 r2=>
   obtain⟨t,e⟩:=r1;subst e;exact .cons n t (ih r2)
section
variable {X:Cx} {e:Expr} {te:TE} {lo hi:Option Expr} {tl th:TO} {pos p2:Pos}
def zED:PO X none zNF:=by intro pins s σ H Q I h;rw[evalPart_none];exact wHk ⟨none,H,I,.none,h⟩
def zEC (h:PE X e te):PO X (some e) (zQD te):=by intro pins s σ H Q I hw;rw[evalPart_some];refine thn (h pins s σ H _ I hw) λu s1 aB=>?_;obtain⟨x,H1,I1,r1,q1⟩:=aB;obtain⟨i,rfl,q⟩:=q1;obtain⟨t,rfl⟩:=r1;exact⟨some i,H1,I1,.int i t,q⟩
def SlR (X:Cx) (r:V->Option Int->Option Int->Hp->VK->Prop):Prop:=
 ∀(pins:List (Addr × Obj)) (s:Shared) (σ:St) (H:Hp) (x:V) (v vl vu:Value) (lo hi:Option Int) (sl:Addr) (Q:VK),Inv X pins σ H s->zBg x v->s.heap.IsSliceOf sl vl vu .none->IsPart vl lo->IsPart vu hi->r x lo hi H Q->
  ∃T id,typeLookup (.type T) "__getitem__"=pure (some (.builtin id))/\s.TypeIs v T/\wpAny (model X.prog X.w) X.A (getItem v (.ref sl)) (EP X pins σ Q) X.xe s
def tSl (r:V->Option Int->Option Int->Hp->VK->Prop) (te:TE) (tl th:TO):TE:=λσ H Q=>te σ H λx H1=>tl σ H1 λl H2=>th σ H2 λu H3=>r x l u H3 Q
def zDh {r:V->Option Int->Option Int->Hp->VK->Prop} (hr:SlR X r) (he:PE X e te) (hl:PO X lo tl) (hu:PO X hi th):PE X (.Subscript e (.Slice lo hi none p2) pos) (tSl r te tl th):=by intro pins s σ H Q I h;refine Subscript_ (thn (he pins s σ H _ I h) λv s1 aB=>?_);obtain⟨x,H1,I1,r1,q1⟩:=aB;refine wpAny_Slice (thn (hl pins s1 σ H1 _ I1 q1) λvl s2 ⟨l,H2,I2,pl,q2⟩=>thn (hu pins s2 σ H2 _ I2 q2) λvu s3 aB=>?_);obtain⟨u,H3,I3,pu,q3⟩:=aB;rw[evalPart_none];refine wHk ?_;have I4:Inv X pins σ H3 { s3 with heap:=s3.heap.push { cls:=.type "slice",data:=.fields #[vl,vu,.none] } }:=I3.kept (t':=s3.toks) λb ob q=>wHi _ q;obtain⟨T,id,hT,ht,hg⟩:=hr pins { s3 with heap:=s3.heap.push { cls:=.type "slice",data:=.fields #[vl,vu,.none] } } σ H3 x v vl vu l u s3.heap.objs.size Q I4 r1 (Heap.IsSliceOf.new ..) pl pu q3;show wpAny (model X.prog X.w) X.A (subscriptTail e (.Slice lo hi none p2) v (.ref s3.heap.objs.size)) (EP X pins σ Q) X.xe { s3 with heap:=s3.heap.push { cls:=.type "slice",data:=.fields #[vl,vu,.none] } };exact tail_any (ops:=[.ref s3.heap.objs.size,v]) ht hT hg (by with_unfolding_all rfl)
def zHm (xs:List V) (lo hi:Option Int):List V:=(xs.drop (HT.sIx xs.length 0 lo)).take (HT.sIx xs.length xs.length hi-HT.sIx xs.length 0 lo)
def zEY (xs:List V) (lo hi:Option Int):(zHm xs lo hi).length<=xs.length:=by unfold zHm;rw[wHD,wIj];omega
def zRy (K:W.Frag):V->Option Int->Option Int->Hp->VK->Prop:=λx lo hi H Q=>∃a xs,x=.ref a/\SqT K H a xs/\
 ¬(HT.sIx xs.length 0 lo=0/\HT.sIx xs.length xs.length hi=xs.length)/\∀p,H p=none->Q (.ref p) (upd H p (.tup (zHm xs lo hi)))
def zPt:SlR X (zRy X.K):=by
 intro pins s σ H x v vl vu lo hi sl Q I rx hs pl pu h;obtain⟨a,xs,rfl,hx,hw,q⟩:=h;cases rx;obtain⟨its,r,ht,hz⟩:=I.tuple hx;have aG:its.toArray.size=xs.length:=by rw[wHz];exact r.length.symm
 refine⟨"tuple",_,PyProof.Rows.slot_tuple_getitem.lookup,ht.typeIs,?_⟩;refine HT.getItem_tuple_cut ht hs pl pu (by rw[aG];exact hw) ?_ (by rw[aG];exact hz);rw[aG];refine⟨.ref s.heap.objs.size,_,I.laid (t':=s.toks) (o:=.tup (zHm xs lo hi)) (λb ob q=>wHi _ q) (wHm _) ?_,rfl,q _ (I.hok.fresh (wHm _))⟩;exact⟨wHv (zEY xs lo hi) hz,_,(r.drop (HT.sIx xs.length 0 lo)).take (HT.sIx xs.length xs.length hi-HT.sIx xs.length 0 lo),IsTup.new _ _⟩
end
def ixN (n:Nat) (i:Int):Option Nat:=if 0<=i then (if i < n then some i.toNat else none) else if -(n:Int)<=i then some (i+n).toNat else none
def atI {α:Type} (xs:List α) (i:Int):Option α:=(ixN xs.length i).bind λj=>xs[j]?
def zKS {n:Nat} {i:Int} {j:Nat} (h:ixN n i=some j):seqIndex? i n=some j/\j < n/\-(n:Int)<=i/\i < n:=by
 unfold ixN at h;by_cases h0:0<=i
 ·rw[wHl h0] at h;by_cases h1:i < n
  ·rw[wHl h1] at h;have e:i.toNat=j:=wHo h;exact⟨by rw[seqIndex_of h0 h1,e],by omega,by omega,h1⟩
  rw[wHj h1] at h;cases h
 rw[wHj h0] at h;by_cases h1:-(n:Int)<=i
 ·rw[wHl h1] at h;have e:(i+n).toNat=j:=wHo h;exact⟨by rw[seqIndex_neg ∅ h1,e],by omega,h1,by omega⟩
 rw[wHj h1] at h;cases h
def zG1 {α:Type} {xs:List α} {i:Int} {v:α} (h:atI xs i=some v):∃j,seqIndex? i xs.length=some j/\xs[j]?=some v/\j < xs.length/\-(xs.length:Int)<=i/\i < xs.length:=by
 unfold atI at h;cases e:ixN xs.length i with
 | none=>rw[e] at h;cases h
 | some j=>
  rw[e] at h;obtain⟨h1,h2,h3,h4⟩:=zKS e;exact⟨j,h1,h,h2,h3,h4⟩
def zDL {α:Type} {xs:List α} {j:Nat} {v:α} (h:xs[j]?=some v):atI xs (j:Int)=some v:=by
 have hj:j < xs.length:=(wIy h).1;have e:ixN xs.length (j:Int)=some j:=by unfold ixN;rw[wHl ∅,wHl ∅];simp
 unfold atI;rw[e];exact h
def zIt (b:Expr):Prop:=∀o i,subscripted b false o i=operate [o,i] (getItem o i)
def IxR (X:Cx) (r:R2):Prop:=
 ∀(value slice:Expr) (pins:List (Addr × Obj)) (s:Shared) (σ:St) (H:Hp) (x y:V) (v u:Value) (Q:VK),Inv X pins σ H s->zBg x v->zBg y u->r x y H Q->
  subscripted slice false v u=operate [v,u] (getItem v u)->wpAny (model X.prog X.w) X.A (subscriptTail value slice v u) (EP X pins σ Q) X.xe s
def MtR (X:Cx) (id:String) (r:V->List V->Hp->VK->Prop):Prop:=
 ∀(pins:List (Addr × Obj)) (s:Shared) (σ:St) (H:Hp) (x:V) (xs:List V) (v:Value) (us:List Value) (Q:VK),Inv X pins σ H s->zBg x v->zA4 xs us->r x xs H Q->
  wpAny (model X.prog X.w) X.A (call (.builtin id) (v::us)) (EP X pins σ Q) X.xe s
section
variable {X:Cx} {a b:Expr} {ta tb:TE} {pos:Pos}
def zJj {r:R2} (hr:IxR X r) (ha:PE X a ta) (hb:PE X b tb) (hs:zIt b):PE X (.Subscript a b pos) (tOp r ta tb):=by intro pins s σ H Q I h;exact Subscript_ (zRf ha hb I h λv u s2 x y H2 I2 rx ry q=>hr a b pins s2 σ H2 x y v u Q I2 rx ry q (hs _ _))
inductive RIxL (K:W.Frag) (x:V) (y:V) (H:Hp) (Q:VK):Prop
 | mk (p:_) (xs:_) (i:_) (v:_):(x=.ref p)->(y=.int i)->SqL K H p xs->(atI xs i=some v)->Q v H->RIxL K x y H Q
def zQ1 (K:W.Frag):R2:=λx y H Q=>RIxL K x y H Q
inductive RIxT (K:W.Frag) (x:V) (y:V) (H:Hp) (Q:VK):Prop
 | mk (p:_) (xs:_) (i:_) (v:_):(x=.ref p)->(y=.int i)->SqT K H p xs->(atI xs i=some v)->Q v H->RIxT K x y H Q
def zQR (K:W.Frag):R2:=λx y H Q=>RIxT K x y H Q
inductive RIxS (x:V) (y:V) (H:Hp) (Q:VK):Prop
 | mk (z:_) (i:_) (c:_):(x=.str z)->(y=.int i)->(z.length<=sizeLine)->(atI z.cps.toList i=some c)->(Q (.str ⟨#[c]⟩) H)->RIxS x y H Q
def zRP:R2:=λx y H Q=>RIxS x y H Q
def zO6:IxR X (zQ1 X.K):=by
 intro value slice pins s σ H x y v u Q I rx ry h hs;obtain⟨p,xs,i,z,rfl,rfl,hq,he,q⟩:=h;cases rx;obtain⟨t,rfl⟩:=ry;obtain⟨its,r,pl,hz⟩:=I.list hq;obtain⟨j,h1,h2,h3,h4,h5⟩:=zG1 he;obtain⟨w,ew,fR⟩:=r.get h2;have hl:=r.length;have hn:=zDY;have fin:EP X pins σ Q w s:=⟨z,H,I,fR,q⟩;by_cases h0:0<=i
 ·have hj:i.toNat=j:=by rw[seqIndex_of h0 h5] at h1;exact wHo h1
  exact item_listR pl.isList h0 ∅ (by rw[hj];simpa using ew) fin hs
 have hj:(i+(its.toArray.size:Int)).toNat=j:=by rw[seqIndex_neg ∅ h4] at h1;rw[wHz,← hl];exact wHo h1
 exact subscriptTail_builtinR (x:=w) pl.isList.typeIs slot_list_getitem.lookup
  (wpAny_getItem_list_neg (Q:=λr s'=>r=w/\EP X pins σ Q r s') pl.isList ∅ (by rw[wHz]<;>omega) ∅ (by rw[hj];simpa using ew) ⟨rfl,fin⟩) hs
def zNh:IxR X (zQR X.K):=by
 intro value slice pins s σ H x y v u Q I rx ry h hs;obtain⟨p,xs,i,z,rfl,rfl,hq,he,q⟩:=h;cases rx;obtain⟨t,rfl⟩:=ry;obtain⟨its,r,pl,hz⟩:=I.tuple hq;obtain⟨j,h1,h2,h3,h4,h5⟩:=zG1 he;obtain⟨w,ew,fR⟩:=r.get h2;have hl:=r.length;have hn:=zDY;have fin:EP X pins σ Q w s:=⟨z,H,I,fR,q⟩;exact subscriptTail_builtinR (x:=w) pl.typeIs slot_tuple_getitem.lookup
  (getItem_tuple (j:=j) (Q:=λr s'=>r=w/\EP X pins σ Q r s') pl ∅ ∅ (by rw[wHz,← hl];exact h1) (by simpa using ew) ⟨rfl,fin⟩) hs
def zKR:IxR X zRP:=by
 intro value slice pins s σ H x y v u Q I rx ry h hs;obtain⟨z,i,c,rfl,rfl,hz,he,q⟩:=h;obtain⟨t,rfl⟩:=rx;obtain⟨t',rfl⟩:=ry;obtain⟨j,h1,h2,h3,h4,h5⟩:=zG1 he;have hl:z.cps.toList.length=z.length:=by simp[Str.length]
 rw[hl] at h1 h4 h5;have hn:=zDY;exact tail_any (typeIs_str s z t) slot_str_getitem.lookup (getItem_str (c:=c) (by have e1:decide (i < -(2 ^ 63:Int))=false:=wHJ ∅;have e2:decide (i≥2 ^ 63)=false:=wHJ ∅;rw[e1,e2,Bool.or_false]) (by rw[h1];simpa using h2) ⟨.str ⟨#[c]⟩,H,I.tok _,⟨_,rfl⟩,q⟩) hs
def zJs (its:List Value) (n j:Nat) (u:Value):Obj.mapSeq (·.setIfInBounds j u) { cls:=.type "list",data:=.seq its.toArray n }={ cls:=.type "list",data:=.seq (its.set j u).toArray n }:=by simp[Obj.mapSeq]
theorem Inv.lst {pins:List (Addr × Obj)} {σ:St} {H:Hp} {s:Shared} {p:Addr} {xs:List V} (I:Inv X pins σ H s) (h:H p=some (.lst xs)) :
  ∃(its:List Value) (n:Nat),zA4 xs its/\s.heap.get? p=some { cls:=.type "list",data:=.seq its.toArray n }/\xs.length<=sizeLine:=by
 obtain⟨z,its,n,r,e⟩:=I.hok p _ h;exact⟨its,n,r,e,z⟩
def Inv.lstUpd {pins:List (Addr × Obj)} {σ:St} {H:Hp} {s:Shared} {p:Addr} {xs ys:List V} {its its':List Value} {n n':Nat} {f:Obj->Obj} (I:Inv X pins σ H s) (h:H p=some (.lst xs))
  (ho:s.heap.get? p=some { cls:=.type "list",data:=.seq its.toArray n }) (hf:f { cls:=.type "list",data:=.seq its.toArray n }={ cls:=.type "list",data:=.seq its'.toArray n' }) (r:zA4 ys its') (hz:ys.length<=sizeLine) (t:Nat) :
  Inv X pins σ (upd H p (.lst ys)) { s with heap:=s.heap.update p f,toks:=t }:=by
 have e:(s.heap.update p f).get? p=some { cls:=.type "list",data:=.seq its'.toArray n' }:=by rw[wIb f ho (by rw[hf]<;>rfl),hf]
 refine I.write (x:=p) (e:=p) (by rw[h];trivial) (.inl rfl) (λb u hb q=>(wHG _ _ (Ne.symm hb)).trans q) ⟨_,e⟩ ?_;exact⟨hz,its',n',r,e⟩
inductive RSetL (o:V) (i:V) (v:V) (H:Hp) (Q:Hp->Prop):Prop
 | mk (p:_) (xs:_) (k:_) (j:_):(o=.ref p)->(i=.int k)->(H p=some (.lst xs))->(ixN xs.length k=some j)->(Q (upd H p (.lst (xs.set j v))))->RSetL o i v H Q
def zQQ:V->V->V->Hp->(Hp->Prop)->Prop:=λo i v H Q=>RSetL o i v H Q
def zAX:zRq X zQQ:=by
 intro pins s σ H o i v ov iv u Q I ro ri rv h;obtain⟨p,xs,k,j,rfl,rfl,hp,hj,q⟩:=h;cases ro;obtain⟨t,rfl⟩:=ri;obtain⟨its,n,r,ho,hz⟩:=I.lst hp;obtain⟨h1,h2,h3,h4⟩:=zKS hj;have hl:=r.length;have hn:=zDY;have I':Inv X pins σ (upd H p (.lst (xs.set j v))) { s with heap:=s.heap.update p (Obj.mapSeq (·.setIfInBounds j u)) }:=
  I.lstUpd hp ho (zJs its n j u) (r.set rv j) (by rw[List.length_set];exact hz) s.toks
 by_cases h0:0<=k
 ·have hk:k.toNat=j:=by rw[seqIndex_of h0 h4] at h1;exact wHo h1
  exact W.ki_setAt ho h0 ∅ (by rw[wHz,← hl];exact h4) (by rw[hk];exact⟨_,I',q⟩)
 have hk:(k+(its.toArray.size:Int)).toNat=j:=by rw[seqIndex_neg ∅ h3] at h1;rw[wHz,← hl];exact wHo h1
 exact W.ki_setBack ho ∅ (by rw[wHz,← hl];exact h3) ∅ (by rw[hk];exact⟨_,I',q⟩)
def zGC (lo hi:Option Int) (n:Nat):(sliceBounds lo hi none n).1=((HT.sIx n 0 lo:Nat):Int)/\(sliceBounds lo hi none n).2.1=((HT.sIx n n hi:Nat):Int)/\(sliceBounds lo hi none n).2.2=1:=by
 refine⟨?_,?_,rfl⟩
 ·cases lo with
  | none=>simp[sliceBounds,HT.sIx]
  | some i=>
   simp only[sliceBounds,HT.sIx,Option.getD_none,show (1:Int) > 0 by decide,if_true];by_cases h:i < 0
   ·simp only[h,if_true]<;>omega
   simp only[h,if_false]<;>omega
 cases hi with
 | none=>simp[sliceBounds,HT.sIx]
 | some i=>
  simp only[sliceBounds,HT.sIx,Option.getD_none,show (1:Int) > 0 by decide,if_true];by_cases h:i < 0
  ·simp only[h,if_true]<;>omega
  simp only[h,if_false]<;>omega
def zFR (its:List Value) (lo hi:Option Int):slicePick its.toArray lo hi none=((its.drop (HT.sIx its.length 0 lo)).take (HT.sIx its.length its.length hi-HT.sIx its.length 0 lo)).toArray:=by obtain⟨h1,h2,h3⟩:=zGC lo hi its.toArray.size;unfold slicePick;rw[h1,h2,h3];simp only[sliceRange_one,pick_run,wHz]<;>rfl
inductive RSlL (K:W.Frag) (x:V) (lo:Option Int) (hi:Option Int) (H:Hp) (Q:VK):Prop
 | mk (a:_) (xs:_):(x=.ref a)->SqL K H a xs->(∀p,H p=none->Q (.ref p) (upd H p (.lst (zHm xs lo hi))))->RSlL K x lo hi H Q
def zRz (K:W.Frag):V->Option Int->Option Int->Hp->VK->Prop:=λx lo hi H Q=>RSlL K x lo hi H Q
def zNM:SlR X (zRz X.K):=by intro pins s σ H x v vl vu lo hi sl Q I rx hs pl pu h;obtain⟨a,xs,rfl,hx,q⟩:=h;cases rx;obtain⟨its,r,ht,hz⟩:=I.list hx;have aG:=r.length;refine⟨"list",_,slot_list_getitem.lookup,ht.isList.typeIs,?_⟩;refine wpAny_getItem_list_slice ht.isList hs pl pu .none (by simp) ?_ (by rw[wHz]<;>omega);rw[zFR,← aG];refine⟨.ref s.heap.objs.size,_,I.laid (t':=s.toks) (o:=.lst (zHm xs lo hi)) (λb ob q=>wHi _ q) (wHm _) ?_,rfl,q _ (I.hok.fresh (wHm _))⟩;exact⟨wHv (zEY xs lo hi) hz,_,0,(r.drop (HT.sIx xs.length 0 lo)).take (HT.sIx xs.length xs.length hi-HT.sIx xs.length 0 lo),wHs _ rfl⟩
def zFv:V->Bool
 | .non=>true
 | .bl _=>true
 | .int _=>true
 | .str _=>true
 | _=>false
def eqV:V->V->Bool
 | .non,.non=>true
 | .bl a,.bl b=>a == b
 | .bl a,.int b=>(if a then 1 else 0) == b
 | .int a,.bl b=>a == (if b then 1 else 0)
 | .int a,.int b=>a == b
 | .str a,.str b=>a == b
 | _,_=>false
def zQm {A:Around} {s:Shared} {y x:V} {u v:Value} (ry:zBg y u) (rx:zBg x v) (fy:zFv y=true) (fx:zFv x=true):SeqAt.EqAt A s u v (eqV y x):=by
 cases y with
 | non=>
  cases ry;cases x with
  | non=>cases rx;exact SeqAt.EqAt.same _
  | bl b=>cases rx;exact SeqAt.EqAt.none_bool b
  | int b=>obtain⟨t,rfl⟩:=rx;exact SeqAt.EqAt.none_int b t
  | str b=>obtain⟨t,rfl⟩:=rx;exact SeqAt.EqAt.none_str b t
  | _=>exact absurd (show false=true from fx) wHx
 | bl a=>
  cases ry;cases x with
  | non=>cases rx;exact SeqAt.EqAt.bool_none a
  | bl b=>cases rx;exact SeqAt.EqAt.bool_bool a b
  | int b=>obtain⟨t,rfl⟩:=rx;exact SeqAt.EqAt.bool_int a b t
  | str b=>obtain⟨t,rfl⟩:=rx;exact SeqAt.EqAt.bool_str a b t
  | _=>exact absurd (show false=true from fx) wHx
 | int a=>
  obtain⟨t',rfl⟩:=ry;cases x with
  | non=>cases rx;exact SeqAt.EqAt.int_none a t'
  | bl b=>cases rx;exact SeqAt.EqAt.int_bool a t' b
  | int b=>obtain⟨t,rfl⟩:=rx;exact SeqAt.EqAt.int_int a t' b t
  | str b=>obtain⟨t,rfl⟩:=rx;exact SeqAt.EqAt.int_str a t' b t
  | _=>exact absurd (show false=true from fx) wHx
 | str a=>
  obtain⟨t',rfl⟩:=ry;cases x with
  | non=>cases rx;exact SeqAt.EqAt.str_none a t'
  | bl b=>cases rx;exact SeqAt.EqAt.str_bool a t' b
  | int b=>obtain⟨t,rfl⟩:=rx;exact SeqAt.EqAt.str_int a t' b t
  | str b=>obtain⟨t,rfl⟩:=rx;exact SeqAt.EqAt.str_str a t' b t
  | _=>exact absurd (show false=true from fx) wHx
 | _=>exact absurd (show false=true from fy) wHx
def eqU (x:V) (u:Value):Bool:=match u with
 | .none=>eqV .non x
 | .bool b=>eqV (.bl b) x
 | .int i _=>eqV (.int i) x
 | .str z _=>eqV (.str z) x
 | _=>false
def zNr {x y:V} {u:Value} (r:zBg y u) (f:zFv y=true):eqU x u=eqV y x:=by
 cases y with
 | non=>cases r;rfl
 | bl b=>cases r;rfl
 | int i=>obtain⟨t,rfl⟩:=r;rfl
 | str z=>obtain⟨t,rfl⟩:=r;rfl
 | _=>exact absurd (show false=true from f) wHx
theorem zFe {x:V}:∀{xs:List V} {us:List Value},zA4 xs us->xs.all zFv=true->us.any (eqU x)=xs.any λy=>eqV y x
 | _,_,.nil,_=>rfl
 | y::xs,u::us,.cons r t,f=>by rw[List.all_cons,wHN] at f;rw[List.any_cons,List.any_cons,zNr r f.1,zFe t f.2]
theorem zDo {A:Around} {s:Shared} {x:V} {v:Value} (rx:zBg x v) (fx:zFv x=true):∀{xs:List V} {us:List Value},zA4 xs us->xs.all zFv=true->∀u∈us,SeqAt.EqAt A s u v (eqU x u)
 | _,_,.nil,_=>λu hu=>by cases hu
 | y::xs,u::us,.cons r t,f=>λu' hu=>by
  rw[List.all_cons,wHN] at f;rcases wID hu with rfl | hu
  ·rw[zNr r f.1];exact zQm r rx f.1 fx
  exact zDo rx fx t f.2 u' hu
def inV (x:V) (xs:List V):Bool:=xs.any λy=>eqV y x
inductive RIn (K:W.Frag) (neg:Bool) (x:V) (y:V) (H:Hp) (Q:VK):Prop
 | mk (p:_) (xs:_):(y=.ref p)->((SqL K H p xs∨SqT K H p xs))->(zFv x=true)->(xs.all zFv=true)->(Q (.bl (if neg then !inV x xs else inV x xs)) H)->RIn K neg x y H Q
def rIn (K:W.Frag) (neg:Bool):R2:=λx y H Q=>RIn K neg x y H Q
def zK6:OpR X (compareOp .In) (rIn X.K false):=by
 intro pins s σ H x y v u Q I rx ry h;obtain⟨p,xs,rfl,hq,fx,fs,q⟩:=h;cases ry;rcases hq with hq | hq
 ·obtain⟨its,r,pl,hz⟩:=I.list hq;refine SeqAt.in_listAt (eqU x) pl.isList (λw hw=>zDo rx fx r fs w (by simpa using hw)) ⟨.bl _,H,I,rfl,?_⟩;rw[show its.toArray.any (eqU x)=its.any (eqU x) by simp,zFe r fs];exact q
 obtain⟨its,r,pl,hz⟩:=I.tuple hq;refine SeqAt.in_tupleAt (eqU x) pl (λw hw=>zDo rx fx r fs w (by simpa using hw)) ⟨.bl _,H,I,rfl,?_⟩;rw[show its.toArray.any (eqU x)=its.any (eqU x) by simp,zFe r fs];exact q
def zGQ:OpR X (compareOp .NotIn) (rIn X.K true):=by
 intro pins s σ H x y v u Q I rx ry h;obtain⟨p,xs,rfl,hq,fx,fs,q⟩:=h;cases ry;rcases hq with hq | hq
 ·obtain⟨its,r,pl,hz⟩:=I.list hq;refine SeqAt.notIn_listAt (eqU x) pl.isList (λw hw=>zDo rx fx r fs w (by simpa using hw)) ⟨.bl _,H,I,rfl,?_⟩;rw[show its.toArray.any (eqU x)=its.any (eqU x) by simp,zFe r fs];exact q
 obtain⟨its,r,pl,hz⟩:=I.tuple hq;refine SeqAt.notIn_tupleAt (eqU x) pl (λw hw=>zDo rx fx r fs w (by simpa using hw)) ⟨.bl _,H,I,rfl,?_⟩;rw[show its.toArray.any (eqU x)=its.any (eqU x) by simp,zFe r fs];exact q
inductive RLen (K:W.Frag) (xs:List V) (H:Hp) (Q:VK):Prop
 | mk (p:_) (ys:_):(xs=[.ref p])->((SqL K H p ys∨SqT K H p ys))->(Q (.int ys.length) H)->RLen K xs H Q
def zEb:zB7 X (.builtin "len") (λxs H Q=>RLen X.K xs H Q):=by
 intro pins s σ H xs us Q I r h;obtain⟨p,ys,rfl,hq,q⟩:=h;obtain⟨u,rfl,rx⟩:=zIV r;cases rx;have hn:=zDY;rcases hq with hq | hq
 ·obtain⟨its,r',pl,hz⟩:=I.list hq;have aG:=r'.length;exact Calls.call_len_list pl.isList (by simp only[wHz]<;>omega) ⟨.int ys.length,H,I.tok _,⟨s.toks+1,by rw[wHz,aG]⟩,q⟩
 obtain⟨its,r',pl,hz⟩:=I.tuple hq;have aG:=r'.length;exact len_tuple pl (by simp only[wHz]<;>omega) ⟨.int ys.length,H,I.tok _,⟨s.toks+1,by rw[wHz,aG]⟩,q⟩
inductive RLenS (xs:List V) (H:Hp) (Q:VK):Prop
 | mk (z:_):(xs=[.str z])->(z.length<=sizeLine)->(Q (.int z.length) H)->RLenS xs H Q
def zHt:zB7 X (.builtin "len") (λxs H Q=>RLenS xs H Q):=by intro pins s σ H xs us Q I r h;obtain⟨z,rfl,hz,q⟩:=h;obtain⟨u,rfl,t,rfl⟩:=zIV r;have hn:=zDY;exact len_str ∅ ⟨.int z.length,H,I.tok _,⟨_,rfl⟩,q⟩
inductive RListOf (K:W.Frag) (xs:List V) (H:Hp) (Q:VK):Prop
 | mk (p:_) (ys:_):(xs=[.ref p])->((SqL K H p ys∨SqT K H p ys))->(∀l,H l=none->Q (.ref l) (upd H l (.lst ys)))->RListOf K xs H Q
def zHs:zB7 X (.type "list") (λxs H Q=>RListOf X.K xs H Q):=by
 intro pins s σ H xs us Q I r h;obtain⟨p,ys,rfl,hq,q⟩:=h;obtain⟨u,rfl,rx⟩:=zIV r;cases rx;have fin:∀(its:List Value),zA4 ys its->ys.length<=sizeLine->∀(h':Heap) (c':Nat),(∀b o',s.heap.get? b=some o'->h'.get? b=some o')->
   h'.get? s.heap.objs.size=some { cls:=.type "list",dict:=none,data:=.seq its.toArray c',slots:=#[] }->EP X pins σ Q (.ref s.heap.objs.size) { s with heap:=h' }:=λits r' hz h' c' kp e=>
  ⟨.ref s.heap.objs.size,_,I.laid (t':=s.toks) kp (wHm _) (show ObjOk X.prog X.w _ h' _ (.lst ys) from ⟨hz,its,c',r',e⟩),rfl,q _ (I.hok.fresh (wHm _))⟩
 rcases hq with hq | hq
 ·obtain⟨its,r',pl,hz⟩:=I.list hq;have aG:=r'.length;obtain⟨o,ho,hc,n,hd⟩:=pl.isList;exact call_list_seq p (.inl rfl) ho hc hd (λh' c' kp e=>fin its r' hz h' c' kp e) (by simp only[wHz]<;>omega)
 obtain⟨its,r',pl,hz⟩:=I.tuple hq;have aG:=r'.length;obtain⟨o,ho,hc,n,hd⟩:=pl;exact call_list_seq p (.inr rfl) ho hc hd (λh' c' kp e=>fin its r' hz h' c' kp e) (by simp only[wHz]<;>omega)
def tyV (K:W.Frag) (T:String) (x:V) (H:Hp):Prop:=match x with
 | .str _=>T = "str"
 | .int _=>T = "int"
 | .ref p=>(T = "list"/\∃xs,SqL K H p xs)∨(T = "tuple"/\∃o,K.lookup p=some o/\o.cls=.type "tuple"/\o.dict=none)∨
   (T = "dict"/\((∃aJ,H p=some (.dK aJ))∨∃aJ,H p=some (.dT aJ)))∨(T = "set"/\∃S n,H p=some (.set S n))
 | _=>False
def zPg {pins:List (Addr × Obj)} {σ:St} {H:Hp} {s:Shared} {T:String} {x:V} {v:Value} (I:Inv X pins σ H s) (r:zBg x v) (ty:tyV X.K T x H) :
  s.TypeIs v T/\∀a,v=.ref a->∃ob,s.heap.get? a=some ob/\ob.dict=none:=by
 cases x with
 | str z=>
  obtain⟨t,rfl⟩:=r;cases (show T = "str" from ty);exact⟨typeIs_str s z t,λ_ e=>nomatch e⟩
 | int i=>
  obtain⟨t,rfl⟩:=r;cases (show T = "int" from ty);exact⟨typeIs_int s i t,λ_ e=>nomatch e⟩
 | ref p=>
  cases r;rcases ty with ⟨rfl,xs,hq⟩ | ⟨rfl,o,hk,hc,hd⟩ | ⟨rfl,hk⟩ | ⟨rfl,S,n,hk⟩
  ·obtain⟨its,_,pl,_⟩:=I.list hq;refine⟨pl.isList.typeIs,λa e=>?_⟩;cases e;obtain⟨o,n,e,c,hd,_⟩:=pl;exact⟨o,e,hd⟩
  ·refine⟨⟨o,I.kIn p o hk,hc⟩,λa e=>?_⟩;cases e;exact⟨o,I.kIn _ o hk,hd⟩
  ·have z:∃o,s.heap.get? p=some o/\o.ExactDict:=by
    rcases hk with ⟨aJ,hk⟩ | ⟨aJ,hk⟩
    ·obtain⟨_,_,_,_,o,_,_,e,ex,_⟩:=I.hok p _ hk;exact⟨o,e,ex⟩
    obtain⟨_,_,_,_,o,_,_,e,ex,_⟩:=I.hok p _ hk;exact⟨o,e,ex⟩
   obtain⟨o,e,ex⟩:=z;refine⟨⟨o,e,ex.1⟩,λa e2=>?_⟩;cases e2;exact⟨o,e,ex.2.1⟩
  obtain⟨o,_,_,_,e,ex,_⟩:=I.hok p _ hk;refine⟨⟨o,e,ex.1⟩,λa e2=>?_⟩;cases e2;exact⟨o,e,ex.2.1⟩
 | _=>exact wHX ty
def tBM (K:W.Frag) (T:String) (r:V->List V->Hp->VK->Prop) (to:TE) (t:TA):TE:=λσ H Q=>to σ H λx H1=>tyV K T x H1/\t σ H1 λxs H2=>r x xs H2 Q
variable {o e:Expr} {es:List Expr} {to:TE} {t:TA} {name:Str} {apos aC:Pos} {T id:String} {r:V->List V->Hp->VK->Prop}
def zPH (pa:PlainAttrs T) (slot:Slot T name id) (mw:typeOf (.builtin id)=pure (.type "method_descriptor")) (hm:MtR X id r) (ho:PE X o to) (ha:PA X (e::es) t)
  (dA:attributeBase o name X.env (eval o X.env)=eval o X.env:=by rfl)
  (fF:((backTo aC (starEach (e::es) X.env)).all (λx=>!x.1) && (backToKw aC (keywordEach [] X.env)).all (λx=>x.1.isSome)
   && decide ((e::es).length+([]:List Keyword).length+(if ([]:List Keyword).isEmpty then 0 else 1) < 30))=true:=by rfl)
  (cW:(apos.endLine == aC.line)=true:=by rfl) (hs:starEach (e::es) X.env=(false,eval e X.env)::starEach es X.env:=by rfl) (aR:(backTo aC (starEach es X.env)).any (·.1)=false:=by rfl) :
  PE X (.Call (.Attribute o name apos) (e::es) [] aC) (tBM X.K T r to t):=by
 intro pins s σ H Q I h;refine wpAny_Call_method_late dA fF cW rfl (thn (ho pins s σ H _ I h) λv s1 aB=>?_);obtain⟨x,H1,I1,r1,ty,q1⟩:=aB;obtain⟨h1,h2⟩:=zPg I1 r1 ty;refine⟨T,id,pa,slot,mw,h1,h2,?_⟩;have hA:=ha aC pins s1 σ H1 _ I1 q1;rw[hs] at hA ⊢;refine Calls.callWith_builtin (by show (false || (backTo aC (starEach es X.env)).any (·.1))=false;rw[aR]<;>rfl) (Calls.evalArgs_plain ?_);exact thn hA λus s2 ⟨vs,H2,I2,r2,q2⟩=>hm pins s2 σ H2 x vs v us Q I2 r1 r2 q2
end
def MtM (X:Cx) (id:String) (r:V->List V->Hp->VK->Prop):Prop:=
 ∀(pins:List (Addr × Obj)) (s:Shared) (σ:St) (H:Hp) (x:V) (xs:List V) (v:Value) (us:List Value) (Q:VK),Inv X pins σ H s->zBg x v->zA4 xs us->r x xs H Q->
  wpAny (model X.prog X.w) X.A (call (.builtin id) (v::us)) (EP X pins σ Q) X.xe s
def zA4.one:∀{x:V} {us:List Value},zA4 [x] us->∃u,us=[u]/\zBg x u:=by
 intro x us h;cases h with
 | cons r h=>
  cases h;exact⟨_,rfl,r⟩
def zA4.two:∀{x y:V} {us:List Value},zA4 [x,y] us->∃u v,us=[u,v]/\zBg x u/\zBg y v:=by
 intro x y us h;cases h with
 | cons r h=>
  cases h with
  | cons q h=>
   cases h;exact⟨_,_,rfl,r,q⟩
def zA4.zero:∀{us:List Value},zA4 [] us->us=[]
 | _,.nil=>rfl
theorem zA4.eraseIdx:∀{xs:List V} {us:List Value} (i:Nat),zA4 xs us->zA4 (xs.eraseIdx i) (us.eraseIdx i)
 | _,_,_,.nil=>.nil
 | _,_,0,.cons _ t=>t
 | _,_,i+1,.cons r t=>.cons r (zA4.eraseIdx i t)
def zA4.reverse {xs:List V} {us:List Value} (h:zA4 xs us):zA4 xs.reverse us.reverse:=by
 induction h with
 | nil=>exact .nil
 | cons r t ih=>rw[List.reverse_cons,List.reverse_cons];exact zA4.append ih (.cons r .nil)
theorem zA4.rep {xs:List V} {us:List Value} (h:zA4 xs us):∀k:Nat,zA4 (List.replicate k xs).flatten (List.replicate k us).flatten
 | 0=>.nil
 | k+1=>by rw[wIc,wIc,wIt,wIt];exact zA4.append h (zA4.rep h k)
theorem zHa {α:Type}:∀(l:List α) (i:Nat),(l.eraseIdx i).length<=l.length
 | [],_=>wHm _
 | _::_,0=>Nat.le_succ _
 | _::r,i+1=>Nat.succ_le_succ (zHa r i)
theorem zHk (its:List Value):∀(k:Nat) (aH:List Value),
  List.foldl (λx1 x2=>x1++x2) aH.toArray (List.replicate k its.toArray)=(aH++(List.replicate k its).flatten).toArray
 | 0,aH=>by simp
 | k+1,aH=>by
  have e:aH.toArray++its.toArray=(aH++its).toArray:=by simp
  have e2:(aH++its)++(List.replicate k its).flatten=aH++(List.replicate (k+1) its).flatten:=by rw[wIc,wIt,wHU]
  rw[← e2,← zHk its k (aH++its),← e,wIc,List.foldl_cons]
section
variable {X:Cx} {pins:List (Addr × Obj)} {σ:St} {H:Hp} {s:Shared} {l:Addr} {xs ys:List V}
def Inv.lset {its its':List Value} {n:Nat} {f:Array Value->Array Value} {t':Nat} (I:Inv X pins σ H s) (hH:H l=some (.lst xs))
  (e:s.heap.get? l=some { cls:=.type "list",data:=.seq its.toArray n }) (hf:f its.toArray=its'.toArray) (hv:zA4 ys its') (hz:ys.length<=sizeLine) :
  Inv X pins σ (upd H l (.lst ys)) { s with heap:=s.heap.update l (Obj.mapSeq f),toks:=t' }:=by
 have q:=PySem.IsL.update e f;rw[hf] at q;refine I.write (x:=l) (e:=l) (by rw[hH];exact trivial) (.inl rfl) (λb' u hb hu=>(wHG s.heap (Obj.mapSeq f) (Ne.symm hb)).trans hu) ⟨_,q⟩ ?_;exact⟨hz,its',_,hv,q⟩
def Inv.lnew {its:List Value} {t':Nat} (I:Inv X pins σ H s) (hv:zA4 ys its) (hz:ys.length<=sizeLine) :
  Inv X pins σ (upd H s.heap.objs.size (.lst ys)) { s with heap:=s.heap.push { cls:=.type "list",data:=.seq its.toArray },toks:=t' }:=
 I.laid (λ_ _ q=>wHi _ q) (wHm _) ⟨hz,its,0,hv,wHs _ rfl⟩
def Inv.fresh (I:Inv X pins σ H s):H s.heap.objs.size=none:=I.hok.fresh (wHm _)
def Inv.lstM (I:Inv X pins σ H s) (hH:H l=some (.lst xs)):xs.length<=sizeLine/\∃(its:List Value) (n:Nat),zA4 xs its/\xs.length=its.length/\s.heap.get? l=some { cls:=.type "list",data:=.seq its.toArray n }:=by obtain⟨z,its,n,r,e⟩:=I.hok l _ hH;exact⟨z,its,n,r,r.length,e⟩
def zMw {n:Nat} (h:n<=sizeLine):Builtin.List.listTooLong n=false:=by unfold Builtin.List.listTooLong;exact wHJ ∅
end
section
variable {X:Cx}
inductive RApp (x:V) (vs:List V) (H:Hp) (Q:VK):Prop
 | mk (l:_) (xs:_) (y:_):(x=.ref l)->(vs=[y])->(H l=some (.lst xs))->(xs.length < sizeLine)->(Q .non (upd H l (.lst (xs++[y]))))->RApp x vs H Q
def zOh:V->List V->Hp->VK->Prop:=λx vs H Q=>RApp x vs H Q
def zA3:MtM X "list.append" zOh:=by intro pins s σ H x vs v us Q I rx rv h;obtain⟨l,xs,y,rfl,rfl,hH,hz,q⟩:=h;cases rx;obtain⟨u,rfl,ru⟩:=rv.one;obtain⟨z,its,n,r,hl,e⟩:=I.lstM hH;refine call_meets wH2 ⟨_,e,rfl⟩ F.entry_list_append (F.args_list_append_2 _ _) (PySem.list_append l its.toArray n u (by rw[wHz];omega)) ⟨e,?_⟩;refine⟨.non,_,I.lset (its':=its++[u]) hH e (by simp) (r.append (.cons ru .nil)) ?_,rfl,q⟩;rw[wHp,wH7];omega
inductive RCat (x:V) (y:V) (H:Hp) (Q:VK):Prop
 | mk (l:_) (b:_) (xs:_) (zs:_):(x=.ref l)->(y=.ref b)->(H l=some (.lst xs))->(H b=some (.lst zs))->(xs.length+zs.length<=sizeLine)->(∀p,H p=none->Q (.ref p) (upd H p (.lst (xs++zs))))->RCat x y H Q
def zRQ:R2:=λx y H Q=>RCat x y H Q
def zDk:OpR X (binaryOp .Add) zRQ:=by
 intro pins s σ H x y v u Q I rx ry h;obtain⟨l,b,xs,zs,rfl,rfl,hH,hB,hz,q⟩:=h;cases rx;cases ry;obtain⟨z,its,n,r,hl,e⟩:=I.lstM hH;obtain⟨z2,cQ,n2,r2,jP,e2⟩:=I.lstM hB;refine PySem.P.add_list e e2 ?_ (by rw[wHz,wHz];omega);have ea:its.toArray++cQ.toArray=(its++cQ).toArray:=by simp
 rw[ea];exact⟨.ref _,_,I.lnew (t':=s.toks) (r.append r2) (by rw[wHp];omega),rfl,q _ I.fresh⟩
inductive RRep (x:V) (y:V) (H:Hp) (Q:VK):Prop
 | mk (l:_) (k:_) (xs:_):(x=.ref l)->(y=.int k)->(H l=some (.lst xs))->(-(2 ^ 63)<=k)->(k < 2 ^ 63)->(xs.length*k.toNat<=sizeLine/\
 ∀p,H p=none->Q (.ref p) (upd H p (.lst (List.replicate k.toNat xs).flatten)))->RRep x y H Q
def zRO:R2:=λx y H Q=>RRep x y H Q
def zO5 {α:Type} (xs:List α) (k:Nat):(List.replicate k xs).flatten.length=k*xs.length:=by
 induction k with
 | zero=>simp
 | succ k ih=>rw[wIc,wIt,wHp,ih,Nat.succ_mul,Nat.add_comm]
theorem zIE:OpR X (binaryOp .Mult) zRO:=by
 intro pins s σ H x y v u Q I rx ry h;obtain⟨l,k,xs,rfl,rfl,hH,h1,h2,hz,q⟩:=h;cases rx;obtain⟨t,rfl⟩:=ry;obtain⟨z,its,n,r,hl,e⟩:=I.lstM hH;have aG:its.toArray.size*k.toNat<=sizeLine:=by rw[wHz,← hl];exact hz
 have nv:¬its.toArray.size*k.toNat > (2 ^ 63-1) / 8:=by
  have:(sizeLine:Nat)<=(2 ^ 63-1) / 8:=by decide
  omega
 have bZ:¬(!Builtin.List.listFitsIndex k)=true:=by rw[fitsIndex_both h1 h2];exact wHx
 have iA:¬Builtin.List.listTooLong (its.toArray.size*k.toNat)=true:=by rw[zMw aG];exact wHx
 have mQ:List.foldl (λx1 x2=>x1++x2) #[] (List.replicate (if its.toArray.isEmpty=true then 0 else k.toNat) its.toArray)=(List.replicate k.toNat its).flatten.toArray:=by
  have f0:∀m:Nat,List.foldl (λx1 x2=>x1++x2) #[] (List.replicate m its.toArray)=(List.replicate m its).flatten.toArray:=λm=>by have:=zHk its m [];rw[List.nil_append] at this;exact this
  rw[f0];cases its with
  | nil=>simp
  | cons a r'=>rw[wHj (by simp)]
 refine wpAny_binaryOp_repeat_ref (T:="list") (U:="int") ⋯ ⟨_,e,rfl⟩ (λs'=>typeIs_int s' k t) noFill_list_mul F.fills_int_mul F.slot_int_rmul repeat_list F.slot_int_index.lookup
  (call_meets F.slot_int_rmul (typeIs_int s k t) F.entry_int_rmul (F.args_int_rmul_2 _ _) (int___rmul___int_list k t l its.toArray n)
   ⟨e,rfl,⟨_,e,rfl⟩,call_meets F.slot_list_mul ⟨_,e,rfl⟩ F.entry_list_mul (F.args_list_mul_2 _ _) (AutoListH.list___mul___list_int_3 l its.toArray n k t bZ nv iA) ⟨e,?_⟩⟩)
 rw[mQ];exact⟨.ref _,_,I.lnew (t':=s.toks) (r.rep k.toNat) (by rw[zO5,Nat.mul_comm];exact hz),rfl,q _ I.fresh⟩
end
end L2
namespace Att
open PySem PySem.W PySem.Calls PyProof.Rows
def zEU {P:Params} {h:Heap}:∀(ns:List Int) (vs:List Value),WellAll P h vs (ns.map WData.int)->IntsAre vs ns:=by
 intro ns
 induction ns with
 | nil=>
  intro vs w;rw[List.map_nil] at w;cases w;exact .nil
 | cons n ns ih=>
  intro vs w;rw[wIg] at w;cases w with
  | cons a b=>
   cases a;exact .cons _ _ (ih _ b)
def zJV {l:OpenLaw} {n:Nat} (hn:l.most=some n) {P:Params} {h:Heap} {args:List WData} {vals:List Value}
  (eB:l.row.toRowW.claim.pre args=true) (fU:WellAll P h vals args) :
  ∃a vs ns,vals=[Value.ref a]/\args=[WData.list (ns.map WData.int)]/\h.get? a=some { cls:=.type "list",data:=.seq vs.toArray }/\IntsAre vs ns/\ns.length<=n:=by
 have hsh:WShape.hasAll [] args [.list .int]=true:=(pre_splitW eB).1;have hc:l.pre.holds [] { args:=args }=true:=(pre_splitW eB).2;obtain⟨d,r,rfl,h1,h2⟩:=hasAllW_cons hsh;obtain rfl:=hasAllW_nil h2;obtain⟨xs,rfl,h3⟩:=hasW_list h1;obtain⟨ns,rfl⟩:=items_int h3;have aG:ns.length<=n:=by
  unfold OpenLaw.pre at hc;have h4:(WTm.not (.lt (.lit (.int (n:Int))) (.len (.arg 0)))).holds [] { args:=[.list (ns.map .int)] }=true:=by have h4:=(holds_andW hc).1;rw[hn] at h4;exact h4
  have h5:=condW_of h4 (w_not (w_lt w_lit (w_len_list (w_arg rfl))));rw[wHf] at h5;refine Nat.le_of_not_lt λq=>?_;have q':(n:Int) < ((ns.length:Nat):Int):=by omega
  first
   | (rw[wHM q'] at h5;exact absurd h5 ⋯)
   | (simp at h5;omega)
 cases fU with
 | cons w1 w2=>
  cases w2;cases w1 with
  | list ho eL=>exact⟨_,_,ns,rfl,rfl,ho,zEU ns _ eL,aG⟩
def zKu (l:OpenLaw) (args:List WData):l.row.toRowW.claim.post args (.bool true) args=true:=
 postW_of (r:=l.row.toRowW) (X:=(true == true))
  (show WShape.has [] (.bool true) .bool=true by first | rfl | decide | simp[WShape.has,WShape.arms,WShape.armsAll])
  (show (WTm.eq .res (.lit (.bool true))).value [] { args:=args,res:=some (.bool true),after:=args }=some (.bool (true == true)) from w_eq_bool (w_res rfl) w_lit) rfl
def attach_call {l:OpenLaw} {n:Nat} {q:Program} {loose:List Str} {XP:(Str->Option Value)->Heap->Prop} {YP:World->Heap->Prop} {d:DefRec}
  (hn:l.most=some n) (iG:d.params.defaults=[])
  (call:∀(w:World) (s₀ s₁:Shared) (mg mb:Str->Option Value) (fa:Addr) (o:Obj) (pm cd doc:Value) (a:Addr) (vs:List Value) (ns:List Int),
   Ground q loose [] XP w s₀ mg mb s₁.heap->YP w s₁.heap->
   s₁.heap.get? fa=some o->o.data=.func (docDef d.name d.params d.body d.scope pm cd doc)->s₁.heap.CodeRec cd d.name->mg d.name=some (.ref fa)->
   s₁.heap.get? a=some { cls:=.type "list",data:=.seq vs.toArray }->IntsAre vs ns->ns.length<=n->s₁.gens=#[]->
   codeAny (model l.prog w) callerA (.call (.ref fa) ⟨[.ref a],[]⟩) (λr s'=>r=.ok (.ret (.bool true))/\OldK s₁.heap s'.heap/\s'.os=s₁.os/\AllBare s'.gens) s₁) :
  WalkO q loose XP YP l.row.toRowW d [] (λf vs=>PySem.call f vs):=by
 intro w s₀ s₁ mg mb G Y fa o pm cd doc dV kV ho hd aQ hD mT hg args vals as eB hlay hrd fU hlo;obtain rfl:dV=.none:=Dflts.none hD iG;obtain rfl:kV=.none:=Dflts.noKw hD;obtain⟨a,vs,ns,rfl,rfl,fD,cX,aG⟩:=zJV hn eB fU;refine enter_call (codeAny_mono (call w s₀ s₁ mg mb fa o pm cd doc a vs ns G Y ho (fd_plain hd) aQ mT fD cX aG hg) λr s' hq=>?_);obtain⟨rfl,h2,h3,h4⟩:=hq;exact⟨.inl ⟨.bool true,.bool true,[],rfl,λ_=>rfl,.bool true,zKu l _,λ_=>⟨List.Pairwise.nil,λ_ hm=>(nomatch hm)⟩⟩,h2,h3,h4⟩
section
def noObjs (h:Heap):Heap:={ h with objs:=#[] }
def noObjs_get (h:Heap) (b:Addr):(noObjs h).get? b=none:=by
 cases e:(noObjs h).get? b with
 | none=>rfl
 | some o=>exact absurd (wHq e) (wHA _)
def ledger (h:Heap) (L d:Addr):List (Addr × Obj):=(List.range h.objs.size).filterMap λa=>if a=L∨a=d then none else (h.get? a).map λo=>(a,o)
def mem_ledger {h:Heap} {L d a:Addr} {o:Obj}:(a,o)∈ledger h L d↔a≠L/\a≠d/\h.get? a=some o:=by
 unfold ledger;rw[List.mem_filterMap];constructor
 ·rintro⟨b,_,e⟩
  split at e
  ·cases e
  rename_i hb
  obtain⟨o',ho,e'⟩:=wIA e;cases e';exact⟨λq=>hb (.inl q),λq=>hb (.inr q),ho⟩
 rintro⟨n1,n2,ho⟩;refine⟨a,List.mem_range.mpr (wHq ho),?_⟩;rw[wHj (show ¬(a=L∨a=d) from λq=>q.elim n1 n2),ho]<;>rfl
def fr_all {h:Heap} {L:Addr} {m:Str->Option Value} (n:h.Ns L m):Fr (noObjs h) L h m:=
 ⟨n,λb o e=>(by rw[noObjs_get] at e;cases e),wHQ _⟩
end
end Att
namespace L2
open PySem PySem.Spec PyProof.Rows
theorem zCX:∀{vs:List Value} {ns:List Int},IntsAre vs ns->zA4 (ns.map V.int) vs
 | _,_,.nil=>.nil
 | _,_,.cons n t h=>.cons ⟨t,rfl⟩ (zCX h)
def zRr (H:Hp):Prop:=∀b,H b=none∨∃o xs,H b=some (.frz o (.lst xs))
def zM8 {P:Program} {w:World} {K:W.Frag} {mg mb:Str->Option Value} {CX:CXT} {k:Nat} {fa a:Addr} {fd:FuncData} {x:Str} {sp:Sp} {s₁:Shared} {vs:List Value} {ns:List Int}
  (KX:K.In s₁.heap) (jL:s₁.heap.Ns mainGlobals mg) (hb:s₁.heap.Ns builtinsNs mb) (hbb:∀x:Str,x≠"__name__"->mb x=bootBuiltins x) (mW:s₁.heap.NoLimit) (fV:s₁.heap.NoSeer) (hg:s₁.gens=#[])
  (ha:s₁.heap.get? a=some { cls:=.type "list",data:=.seq vs.toArray }) (hi:IntsAre vs ns) (hl:ns.length<=sizeLine) (hr:Room k callerA)
  (F:∀base:Heap,K.In base->base.Ns mainGlobals mg->FnOk P w K mg base CX k fa fd [x] sp) (iO:∀(s:Shared) (u:Value),BindsTo s fd ⟨[u],[]⟩ [(x,u)])
  (bX:∀H:Hp,zRr H->SqL K H a (ns.map V.int)->sp [.ref a] H (λv _=>v=.bl true) λ_ _ _=>False)
  (nC:∀H e s',CX [] H s₁ (λ_ _ _=>False) e s'->False) :
  codeAny (model P w) callerA (.call (.ref fa) ⟨[.ref a],[]⟩) (λr s'=>r=.ok (.ret (.bool true))/\OldK s₁.heap s'.heap/\s'.os=s₁.os/\AllBare s'.gens) s₁:=by
 have rv:=zCX hi;have mh:=hi.length;have core:∀H:Hp,zRr H->SqL K H a (ns.map V.int)->HOk P w H s₁.heap->(∀b,H b≠none->b=a)->(H a≠none->K.lookup a=none)->
   codeAny (model P w) callerA (.call (.ref fa) ⟨[.ref a],[]⟩) (λr s'=>r=.ok (.ret (.bool true))/\OldK s₁.heap s'.heap/\s'.os=s₁.os/\AllBare s'.gens) s₁:=by
  intro H hO hS hok hA hK;have bC:∀{b:Addr} {o:Obj},s₁.heap.get? b=some o->H b=none->(zMC s₁.heap H).get? b=some o:=λe n=>zMB e n;have gU:∀{b:Addr} {o:Obj} {es:Array DictEntry} {ep:Nat},s₁.heap.get? b=some o->o.data=.dict es ep->H b=none:=λ{b o es ep} e d=>by
   cases q:H b with
   | none=>rfl
   | some u=>
    have e':b=a:=hA b (by rw[q];simp);subst e';rw[ha] at e;cases e;have d':Data.seq vs.toArray _=Data.dict es ep:=d;cases d'
  have eS:∀{b:Addr} {m:Str->Option Value},s₁.heap.Ns b m->(zMC s₁.heap H).Ns b m:=λ{b m} ⟨o,es,ep,e,d,r⟩=>⟨o,es,ep,bC e (gU e d),d,r⟩;have hKb:K.In (zMC s₁.heap H):=λb o e=>bC (KX b o e) (by
   cases q:H b with
   | none=>rfl
   | some u=>
    have e':b=a:=hA b (by rw[q];simp);subst e';rw[hK (by rw[q];simp)] at e;cases e)
  have hM:Mod K mg (zMC s₁.heap H):=⟨hKb,eS jL,⟨mb,eS hb,hbb⟩,let ⟨mc,h1,h2⟩:=mW;⟨mc,eS h1,h2⟩,
   let ⟨mc,h1,h2⟩:=fV.statics;⟨mc,eS h1,h2⟩,let ⟨mm,h1,h2⟩:=fV.mods;⟨mm,eS h1,h2⟩,⟨mb,eS hb,hbb⟩,
   let ⟨g',bm,ob,h1,h2,h3,h4,h5⟩:=fV.main;⟨g',bm,ob,eS h1,h2,bC h3 (by
    cases q:H bm with
    | none=>rfl
    | some u=>
     have e':bm=a:=hA bm (by rw[q];simp);subst e';rw[ha] at h3;cases h3;have h4':Value.type "list"=Value.type "module":=h4;exact absurd (Value.type.inj h4') ⋯),h4,h5⟩⟩
  have e0:Env0 P w K mg (zMC s₁.heap H) callerA [] s₁ H:=⟨rfl,hM,λb o e=>zOz e,wIx (zLc _ _),trivial,λb hb=>absurd (show b∈([]:List Addr) from hb) (by simp),hok,.of_eq hg⟩;refine codeAny_mono ((F _ hKb (eS jL)).run callerA [] s₁ H ⟨[.ref a],[]⟩ [.ref a] [.ref a] _ _ hr e0 (iO s₁ (.ref a)) (.cons rfl .nil) (bX H hO hS)) λr s' h=>?_;cases r with
  | error e=>exact (nC H e s' h).elim
  | ok fl=>
   cases fl with
   | next=>exact wHX h
   | brk=>exact wHX h
   | cont=>exact wHX h
   | ret u=>
    obtain⟨v,H',os,bare,un,mJ,r',q⟩:=h;have q':v=.bl true:=q;subst q';obtain rfl:u=Value.bool true:=r';refine⟨rfl,OldK.of_keep λb o e=>?_,os,bare⟩;cases q:H b with
    | none=>exact un.keep b o e q (by intro z;exact absurd (show b∈([]:List Addr) from z) (by simp)) (by simp)
    | some u=>
     rcases hO b with z | ⟨ob,xs,z⟩
     ·rw[q] at z;cases z
     have z2:=un.frzs b ob _ z;obtain⟨e1,_⟩:=hok b _ z;obtain⟨e2,_⟩:=mJ b _ z2;rw[e] at e1;cases e1;exact e2
 cases hk:K.lookup a with
 | some o=>
  have e:=KX a o hk;rw[ha] at e;cases e;refine core (λ_=>none) (λ_=>.inl rfl) (.inr ⟨_,vs.toArray,_,hk,rfl,rfl,rfl,by rw[wHz,mh];exact hl,by simpa using rv⟩) (λb u z=>by have z':(none:Option HO)=some u:=z;cases z') (λb z=>absurd rfl z) λz=>absurd rfl z
 | none=>
  refine core (λb=>if b=a then some (.frz { cls:=.type "list",data:=.seq vs.toArray } (.lst (ns.map V.int))) else none) (λb=>?_) (.inl (.inr ⟨{ cls:=.type "list",data:=.seq vs.toArray },wHl rfl⟩)) (λb u z=>?_) (λb z=>?_) λ_=>hk
  ·by_cases hb:b=a
   ·exact .inr ⟨_,_,wHl hb⟩
   exact .inl (wHj hb)
  ·by_cases hb:b=a
   ·have z':=(wHl hb).symm.trans z;cases z';subst hb;exact⟨ha,by rw[wHf];exact hl,vs,_,rv,ha⟩
   have z':=(wHj hb).symm.trans z;cases z'
  by_cases hb:b=a
  ·exact hb
  exact absurd (wHj hb) z
abbrev KOf {K:W.Frag} {h:Heap} (_:K.In h):W.Frag:=K
def zNA {l:PySem.W.OpenLaw} {n k:Nat} {q:Program} {loose:List Str} {XP:(Str->Option Value)->Heap->Prop} {YP:World->Heap->Prop} {d:DefRec} {K:Params->W.Frag} {CX:World->CXT} {sp:World->Sp} {x:Str}
  (hn:l.most=some n) (jN:n<=sizeLine) (iG:d.params.defaults=[]) (hq:importsNone q=true) (hr:Room k callerA)
  (hY:∀(w:World) (h:Heap),YP w h->(K w.params).In h)
  (F:∀(w:World) (mg:Str->Option Value) (fa:Addr) (h:Heap),(K w.params).In h->h.Ns mainGlobals mg->mg d.name=some (.ref fa)->
   ∃fd:FuncData,(∀(s:Shared) (u:Value),BindsTo s fd ⟨[u],[]⟩ [(x,u)])/\
    ∀base:Heap,(K w.params).In base->base.Ns mainGlobals mg->FnOk l.prog w (K w.params) mg base (CX w) k fa fd [x] (sp w))
  (bX:∀(w:World) (H:Hp) (a:Addr) (ns:List Int),ns.length<=n->zRr H->SqL (K w.params) H a (ns.map V.int)->sp w [.ref a] H (λv _=>v=.bl true) λ_ _ _=>False)
  (nC:∀(w:World) (H:Hp) (s:Shared) (e:Value) (s':Shared),CX w [] H s (λ_ _ _=>False) e s'->False) :
  PySem.W.WalkO q loose XP YP l.row.toRowW d [] (λf vs=>PySem.call f vs):=by
 refine Att.attach_call hn iG λw s₀ s₁ mg mb fa o pm cd doc a vs ns G Y ho hd aQ mT fD cX aG hg=>?_;have KX:=hY w _ Y;obtain⟨fd,hb,hF⟩:=F w mg fa _ KX G.T.g mT;exact zM8 KX G.T.g G.T.b G.T.builtins G.T.nolimit (G.T.seer hq) hg fD cX (wHv aG jN) hr hF hb (λH hO hS=>bX w H a ns aG hO hS) λH e s'=>nC w H s₁ e s'
def zBG (s:Stmt) (j:Nat):Stmt:=match s with
 | .ClassDef _ _ _ body _ _ _ _ _ _ _=>body.getD j (.Pass ⟨0,0,0,0⟩)
 | _=>.Pass ⟨0,0,0,0⟩
def zBQ (s:Stmt):Arguments:=match s with
 | .FunctionDef _ a _ _ _ _ _ _ _ _=>a
 | _=>{ posonlyargs:=[],args:=[],vararg:=none,kwonlyargs:=[],kw_defaults:=[],kwarg:=none,defaults:=[] }
def zBa (s:Stmt):List Stmt:=match s with
 | .FunctionDef _ _ b _ _ _ _ _ _ _=>b
 | _=>[]
def zL (s:Stmt):Scope:=match s with
 | .FunctionDef _ _ _ _ _ _ sc _ _ _=>sc
 | _=>{ kind:=.function,names:=[],isGenerator:=false,isCoroutine:=false }
abbrev CX0:CXT:=λ_ _ _ _ _ _=>False
abbrev E0:XK:=λ_ _ _=>False
def zCT {X:Cx}:zDx CX0 X E0:=λ_ _ _ _ _ _ _ h=>h.elim
structure Fun (K:W.Frag) (x qual:Str) (st:Stmt) (f:Addr) (fd:FuncData):Prop where
 ex:∃(oc:Value) (od:Option Addr) (kV doc pm:Value) (an:Option Addr) (cdv ct:Value) (dG:Array (Option Value)),
  fd=W.fnOf x qual (zBQ st) (zBa st) (zL st) .none kV doc pm an cdv ct/\K.lookup f=some ⟨oc,od,.func fd,dG⟩/\W.codeIn K cdv qual=true
 kp:W.keepIn K (.ref f)=true
section
variable {P:Program} {w:World} {K:W.Frag} {mg:Str->Option Value} {base:Heap}
def Fun.ok {x qual:Str} {st:Stmt} {f:Addr} {fd:FuncData} {N ps:List Str} {k:Nat} {sp:Sp} (F:Fun K x qual st f fd) (S:FnScope N ps (zL st)) (len:∀vs H Q E,sp vs H Q E->vs.length=ps.length)
  (aS:∀(cdv:Value) (A:Around) (outer:List Env) (s:Shared) (H:Hp) (vs:List V) (Q:VK) (E:XK),Room k (A.deeper (envOfC qual (zL st) s.heap.objs.size f cdv))->sp vs H Q E->
   ∃t,PSs (zEa CX0 P w K mg base N qual (zL st) f cdv A outer s H E).nox (zBa st) t/\t { nx:=λ_ H'=>Q .non H',rt:=Q } (zD2 N vs) H):FnOk P w K mg base CX0 (k+1) f fd ps sp:=by
 obtain⟨oc,od,kV,doc,pm,an,cdv,ct,dG,rfl,lk,aQ⟩:=F.ex;refine zQj lk aQ S len λA outer s H vs Q E hr bX=>?_;obtain⟨t,h,q⟩:=aS cdv A outer s H vs Q E hr bX;exact⟨t,h.nox,q⟩
def Fun.binds {x qual:Str} {st:Stmt} {f:Addr} {fd:FuncData} {ps:List Str} (F:Fun K x qual st f fd)
  (h:∀(kV doc pm:Value) (an:Option Addr) (cdv ct:Value) (us:List Value),us.length=ps.length->bindArgs (W.fnOf x qual (zBQ st) (zBa st) (zL st) .none kV doc pm an cdv ct) ⟨us,[]⟩=pure (ps.zip us)):zAc K fd ps []:=by
 obtain⟨oc,od,kV,doc,pm,an,cdv,ct,dG,rfl,lk,aQ⟩:=F.ex;exact .all (h kV doc pm an cdv ct)
def zQh {x qual:Str} {st:Stmt} {f:Addr} {oc:Value} {od an:Option Addr} {dG:Array (Option Value)} {kV doc pm cdv ct:Value} (l:K.lookup f=some ⟨oc,od,.func (W.fnOf x qual (zBQ st) (zBa st) (zL st) .none kV doc pm an cdv ct),dG⟩)
  (c:W.codeIn K cdv qual=true) (k:W.keepIn K (.ref f)=true):Fun K x qual st f (W.fnOf x qual (zBQ st) (zBa st) (zL st) .none kV doc pm an cdv ct):=⟨⟨oc,od,kV,doc,pm,an,cdv,ct,dG,rfl,l,c⟩,k⟩
end
def zAj {n:Nat} (h:n<=1000):n < sizeLine:=wHK h ⋯
section
variable {X:Cx}
def pv (i:Nat) {x:Str} {pos:Pos} (hN:X.N[i]?=some x:=by rfl) (hv:Vis X.env.scope x:=by first | exact Or.inl rfl | exact Or.inr (Or.inl rfl) | exact Or.inr (Or.inr rfl)) (hd:(x == ("__debug__":Str))=false:=by decide)
  (aQ:(x == ("__classdict__":Str))=false:=by decide):PE X (.Name x pos) (zRu i):=zPD hN hv hd aQ
end
def zB8 {A B:Prop} (h:B):if false=true then A else B:=by rw[wHj wHx];exact h
def zG5 {A B:Prop} (h:A):if true=true then A else B:=by rw[wHl rfl];exact h
def zCH {c A B:Prop} [Decidable c] (h1:c->A) (h2:¬c->B):if c then A else B:=by
 by_cases h:c
 ·rw[wHl h];exact h1 h
 rw[wHj h];exact h2 h
def zAh (H H':Hp):Prop:=∀b o,H b=some o->H' b=some o
def zAh.refl (H:Hp):zAh H H:=λ_ _ h=>h
def zAh.trans {H H1 H2:Hp} (a:zAh H H1) (b:zAh H1 H2):zAh H H2:=λc o h=>b c o (a c o h)
def zAh.free {H H':Hp} (e:zAh H H') {l:Addr} (h:H' l=Option.none):H l=Option.none:=by
 cases q:H l with
 | none=>rfl
 | some o=>
  rw[e l o q] at h;cases h
def zAh.seq {K:W.Frag} {H H':Hp} {a:Addr} {xs:List V} (e:zAh H H') (h:SqL K H a xs):SqL K H' a xs:=by
 rcases h with (h | ⟨o,h⟩) | h
 ·exact .inl (.inl (e _ _ h))
 ·exact .inl (.inr ⟨o,e _ _ h⟩)
 exact .inr h
def Sm (i:Int):Prop:=i.natAbs < 2 ^ 9000
def Sm.log {i:Int} (h:Sm i):i.natAbs.log2 < 9000:=by
 by_cases h0:i.natAbs=0
 ·rw[h0];nofun
 exact (Nat.log2_lt h0).mpr h
def zP9:(10:Nat) ^ 200 < 2 ^ 9000:=by nofun
def Sm.of {i:Int} (h:i.natAbs<=10 ^ 200):Sm i:=wHK h zP9
def Sm.bits {i:Int} (h:Sm i):Builtin.Int.intBits i<=2 ^ 20:=by
 have e:(2:Nat) ^ 20=1048576:=by decide
 have l:=h.log;unfold Builtin.Int.intBits
 split
 ·exact wHQ _
 rw[e];omega
section
variable {X:Cx}
def zMk:OpR X (binaryOp .FloorDiv) (rI (λ_ j=>0 < j/\Sm j) λi j=>.int (i / j)):=opI λi j _ _ _ _ _ hc q=>by have h1:(0:Int) < j:=hc.1;exact floordiv_int ∅ (by rw[Int.fdiv_eq_ediv_of_nonneg i ∅];exact q) (.inl (PyProof.noPylong_of_log2 hc.2.log))
inductive RIsI (K:W.Frag) (xs:List V) (H:Hp) (Q:VK):Prop
 | mk (x:_) (n:_) (t:_) (b:_):(xs=[x,.ty n])->TyOf K H x t->(W.kitOne K t (.type n)=some b)->(Q (.bl b) H)->RIsI K xs H Q
def zIq:zB7 X (.builtin "isinstance") (λxs H Q=>RIsI X.K xs H Q):=by intro pins s σ H xs us Q I r h;obtain⟨x,n,t,b,rfl,ty,e,q⟩:=h;obtain⟨u,w',rfl,r1,r2⟩:=zLE r;cases (show w'=Value.type n from r2);exact zKV I r1 ty e λtk=>⟨.bl b,H,I.tok _,rfl,q⟩
def zSb (K:W.Frag) (n:Nat) (t:TGs):TG:=λv σ H Q=>∃a xs,v=.ref a/\SqL K H a xs/\xs.length=n/\t xs σ H Q
def zNf {es:List Expr} {k:Nat} {t:TGs} {n:Nat} {pos:Pos} (hc:X.calm=true) (h:PGs X es t)
  (hn:(assignEach es X.env).length=n:=by rfl) (bF:(assignEach es X.env).findIdx? (·.1)=none:=by rfl):PG X (.Tuple es k pos) (zSb X.K n t):=by
 intro pins s σ H v u Q I r hw;obtain⟨a,xs,e1,hq,hl,hw⟩:=hw;subst e1;cases r;obtain⟨its,rv,ht,hz⟩:=I.list hq;have hs:(assignEach es X.env).length=its.toArray.size:=by simp[hn,← hl,rv.length]
 rw[assign_Tuple];refine wHe (wpAny_standAt ?_);unfold unpack;rw[hs,bF];refine wHe (wHZ (W.kun_itemsOf (I.ok.hd hc) ht.isList λh' hx=>?_));have I1:Inv X pins σ H { s with heap:=h' }:=I.kept (t':=s.toks) λb o e=>hx b o (wHu (wHq e)) e;exact h pins _ σ H xs _ Q I1 (by simpa using rv) hw
end
def zKU {p A B:Prop} [Decidable p] (h:p) (k:A):if decide p=true then A else B:=by rw[wHl (wHM h)];exact k
def zJw {p A B:Prop} [Decidable p] (h:¬p) (k:B):if decide p=true then A else B:=by rw[wHj (by rw[wHJ h];exact wHx)];exact k
def zEi {p A B:Prop} [Decidable p] (h:p) (k:B):if (!decide p)=true then A else B:=by rw[wHj (by rw[wHM h];exact wHx)];exact k
def vi {x y:Int} (h:x=y):V.int x=V.int y:=congrArg _ h
def zD {H:Hp} {p:Addr} (h:H p=none) (o:HO):zAh H (upd H p o):=λb u q=>by rw[zO (zN q h)];exact q
def small {n:Nat} (h:n<=1000):n<=sizeLine:=wIm (zAj h)
def Bd (n:Nat) (i:Int):Prop:=i.natAbs<=n
def Bd.mul {m n:Nat} {a b:Int} (h:Bd m a) (k:Bd n b):Bd (m*n) (a*b):=by unfold Bd at *;rw[wIs];exact Nat.mul_le_mul h k
def Bd.sub {m n:Nat} {a b:Int} (h:Bd m a) (k:Bd n b):Bd (m+n) (a-b):=by unfold Bd at *;omega
def Bd.mono {m n:Nat} {a:Int} (h:Bd m a) (k:m<=n):Bd n a:=wHv h k
def Bd.sm {n:Nat} {a:Int} (h:Bd n a) (k:n<=10 ^ 200):Sm a:=Sm.of (wHv h k)
def zAz:(2:Nat)<=sizeLine:=by decide
def gI (t b:Int):Int:=(Nat.gcd t.natAbs b.natAbs:Nat)
def zDZ {t b:Int} (hb:b≠0):0 < gI t b:=by have:0 < Nat.gcd t.natAbs b.natAbs:=Nat.gcd_pos_of_pos_right _ ∅;unfold gI;omega
def zIP {t b:Int}:gI t b*(t / gI t b)=t:=Int.mul_ediv_cancel' (Int.ofNat_dvd_left.mpr (Nat.gcd_dvd_left _ _))
def zHj {t b:Int}:gI t b*(b / gI t b)=b:=Int.mul_ediv_cancel' (Int.ofNat_dvd_left.mpr (Nat.gcd_dvd_right _ _))
def zLg {t b:Int} (hb:b≠0):Nat.gcd (t / gI t b).natAbs (b / gI t b).natAbs=1:=by
 have h1:(gI t b).natAbs*(t / gI t b).natAbs=t.natAbs:=by rw[← wIs,zIP]
 have h2:(gI t b).natAbs*(b / gI t b).natAbs=b.natAbs:=by rw[← wIs,zHj]
 have h3:(gI t b).natAbs=Nat.gcd t.natAbs b.natAbs:=by unfold gI;omega
 have h4:Nat.gcd t.natAbs b.natAbs=(gI t b).natAbs*Nat.gcd (t / gI t b).natAbs (b / gI t b).natAbs:=by rw[← Nat.gcd_mul_left,h1,h2]
 have h5:0 < (gI t b).natAbs:=by have:=zDZ (t:=t) hb;omega
 rw[h3] at h4 h5;exact (Nat.eq_of_mul_eq_mul_left h5 (by rw[Nat.mul_one];exact h4)).symm
def zLh {t b:Int} {n:Nat} (hb:b≠0) (h:Bd n t):Bd n (t / gI t b):=by
 have h1:(gI t b).natAbs*(t / gI t b).natAbs=t.natAbs:=by rw[← wIs,zIP]
 have h5:0 < (gI t b).natAbs:=by have:=zDZ (t:=t) hb;omega
 exact wHv (wHv (Nat.le_mul_of_pos_left _ h5) (wIx h1)) h
def zLi {t b:Int} {n:Nat} (hb:b≠0) (h:Bd n b):Bd n (b / gI t b):=by
 have h1:(gI t b).natAbs*(b / gI t b).natAbs=b.natAbs:=by rw[← wIs,zHj]
 have h5:0 < (gI t b).natAbs:=by have:=zDZ (t:=t) hb;omega
 exact wHv (wHv (Nat.le_mul_of_pos_left _ h5) (wIx h1)) h
def zHi {t b:Int} (hb:0 < b):0 < b / gI t b:=by
 have h1:=zHj (t:=t) (b:=b);have h2:=zDZ (t:=t) (b:=b) ∅;by_cases z:0 < b / gI t b
 ·exact z
 have:gI t b*(b / gI t b)<=0:=Int.mul_nonpos_of_nonneg_of_nonpos ∅ ∅;omega
structure Frac (n:Nat) (x y:Int):Prop where
 pos:0 < y
 one:Nat.gcd x.natAbs y.natAbs=1
 tb:Bd n x
 bb:Bd n y
def Frac.mono {m n:Nat} {x y:Int} (h:Frac m x y) (k:m<=n):Frac n x y:=⟨h.pos,h.one,h.tb.mono k,h.bb.mono k⟩
def Frac.made {n:Nat} {t b:Int} (hb:0 < b) (ht:Bd n t) (n6:Bd n b):Frac n (t / gI t b) (b / gI t b):=
 ⟨zHi hb,zLg ∅,zLh ∅ ht,zLi ∅ n6⟩
def zRv (t:TS):TS:=λD σ H=>∃M:St->Hp->Prop,t { D with nx:=M } σ H/\∀σ' H',M σ' H'->D.nx σ' H'
def zNd {X:Cx} {st:Stmt} {t:TS} (h:PS X st t):PS X st (zRv t):=by
 intro pins s σ H D I hw;obtain⟨M,h1,h2⟩:=hw;refine thn (h pins s σ H _ I h1) λf s1 q=>?_;cases f with
 | next=>obtain⟨σ',H',I',m⟩:=q;exact⟨σ',H',I',h2 _ _ m⟩
 | ret v=>exact q
 | brk=>exact q
 | cont=>exact q
def zAM (env:Env):List (Str × NameKind)->List (Str × Addr)->List (Str × Addr)
 | [],aH=>aH
 | (n,k)::r,aH=>if k=.free then zAM env r (match env.cells.lookup n with | some c=>(n,c)::aH | none=>aH) else zAM env r aH
theorem zFK (env:Env):∀(l:List (Str × NameKind)) (aH:List (Str × Addr)),(∀y∈l,y.2=.free->∃c,env.cells.lookup y.1=some c)->
  (forIn l aH λx cs=>if (x.2 == NameKind.free)=true then do let a ← cellOf env x.1;pure (ForInStep.yield ((x.1,a)::cs)) else pure (ForInStep.yield cs):Sem (List (Str × Addr)))=pure (zAM env l aH)
 | [],aH,_=>rfl
 | (n,k)::r,aH,h=>by
  have hr:=λaH=>zFK env r aH λy hy=>h y (wHP _ hy);rw[List.forIn_cons];by_cases hk:k=.free
  ·subst hk;obtain⟨c,hc⟩:=h (n,.free) wH5 rfl;have e1:cellOf env n=pure c:=by unfold cellOf;rw[show env.cells.lookup n=some c from hc]
   have e2:zAM env ((n,NameKind.free)::r) aH=zAM env r ((n,c)::aH):=by simp only[zAM,if_true];rw[show env.cells.lookup n=some c from hc]
   rw[e2,← hr];simp[e1]
  have e2:zAM env ((n,k)::r) aH=zAM env r aH:=by simp only[zAM,wHj hk]
  have hb:(k == NameKind.free)=false:=by simpa using hk
  rw[e2,← hr];simp[hb]
theorem zEZ {scope:Scope} {env:Env} (h:∀y∈scope.names,y.2=.free->∃c,env.cells.lookup y.1=some c):closureFor scope env=pure (zAM env scope.names []):=by have:=zFK env scope.names [] h;unfold closureFor;simpa using this
theorem zC9 (env:Env) (x:Str) (c:Addr):∀(l:List (Str × NameKind)) (aH:List (Str × Addr)),(∀z d,aH.lookup z=some d->env.cells.lookup z=some d)->(zAM env l aH).lookup x=some c->env.cells.lookup x=some c
 | [],aH,h,e=>h x c e
 | (n,k)::r,aH,h,e=>by
  by_cases hk:k=.free
  ·subst hk;simp only[zAM,if_true] at e;cases q:env.cells.lookup n with
   | none=>rw[q] at e;exact zC9 env x c r aH h e
   | some d=>
    rw[q] at e;refine zC9 env x c r _ (λz d' hz=>?_) e;rw[List.lookup_cons] at hz;cases hb:z == n with
    | true=>rw[hb] at hz;cases hz;rw[beq_iff_eq.mp hb];exact q
    | false=>rw[hb] at hz;exact h z d' hz
  simp only[zAM,wHj hk] at e;exact zC9 env x c r aH h e
theorem zDK (env:Env) (x:Str):∀(l:List (Str × NameKind)) (aH:List (Str × Addr)),(∃c,aH.lookup x=some c)->∃c,(zAM env l aH).lookup x=some c
 | [],_,h=>h
 | (n,k)::r,aH,h=>by
  by_cases hk:k=.free
  ·subst hk;simp only[zAM,if_true];refine zDK env x r _ ?_;cases q:env.cells.lookup n with
   | none=>exact h
   | some d=>
    show ∃c,List.lookup x ((n,d)::aH)=some c;rw[List.lookup_cons];cases hb:x == n with
    | true=>exact⟨_,rfl⟩
    | false=>exact h
  simp only[zAM,wHj hk];exact zDK env x r aH h
theorem zCA (env:Env) (x:Str):∀(l:List (Str × NameKind)) (aH:List (Str × Addr)),(x,NameKind.free)∈l->(∃c,env.cells.lookup x=some c)->∃c,(zAM env l aH).lookup x=some c
 | [],_,h,_=>by simp at h
 | (n,k)::r,aH,h0,hc=>by
  rcases wID h0 with e | h
  ·cases e;obtain⟨c,q⟩:=hc;simp only[zAM,if_true];refine zDK env x r _ ?_;rw[q];exact⟨c,by rw[List.lookup_cons];simp⟩
  by_cases hk:k=.free
  ·subst hk;simp only[zAM,if_true];exact zCA env x r _ h hc
  simp only[zAM,wHj hk];exact zCA env x r aH h hc
def zH5 (env:Env) (y:Str × NameKind):Str × NameKind:=if (y.2 == NameKind.free && env.scope.kind == .function && env.kindOf y.1 == some .cell)=true then (y.1,NameKind.cell) else y
def zLY (env:Env) (y:Str × NameKind):(zH5 env y).1=y.1:=by unfold zH5;split<;>rfl
def zLX (env:Env) (y:Str × NameKind) (h:y.2≠.cell) (k:(zH5 env y).2=.cell∨(zH5 env y).2=.free):y.2=.free:=by
 unfold zH5 at k
 split at k
 ·rename_i hb
  simp only[wHN,beq_iff_eq] at hb;exact hb.1.1
 rcases k with z | z
 ·exact absurd z h
 exact z
def zKl (env:Env) (y:Str × NameKind) (h:y.2=.free):(zH5 env y).2=.cell∨(zH5 env y).2=.free:=by
 unfold zH5
 split
 ·exact .inl rfl
 exact .inr h
theorem zBF (env:Env) (x:Str):∀(names:List (Str × NameKind)),(names.map (zH5 env)).lookup x=(names.find? λy=>x == y.1).map λy=>(zH5 env y).2
 | []=>rfl
 | y::r=>by
  rw[wIg,List.find?_cons];obtain⟨n,k⟩:=y;have e:zH5 env (n,k)=(n,(zH5 env (n,k)).2):=by have:=zLY env (n,k);exact Prod.ext this rfl
  rw[e,List.lookup_cons];cases hb:x == n with
  | true=>simp only[hb];rfl
  | false=>simp only[hb];exact zBF env x r
def zDQ {env:Env} {k':NameKind} {x:Str} (aY:k'=.cell∨k'=.free) {names:List (Str × NameKind)} (hc:∀y∈names,y.2≠.cell) (h:(names.map (zH5 env)).lookup x=some k'):(x,NameKind.free)∈names:=by
 rw[zBF] at h;cases q:names.find? (λy=>x == y.1) with
 | none=>rw[q] at h;cases h
 | some y=>
  rw[q] at h;have e:(zH5 env y).2=k':=wHo h;have hm:=List.mem_of_find?_eq_some q;have hx:x=y.1:=by simpa using List.find?_some q
  have hf:=zLX env y (hc y hm) (by rw[e];exact aY);rw[hx,← hf];exact hm
def zGK {env:Env} {x:Str} {names:List (Str × NameKind)} (h:(names.find? λy=>x == y.1).map (·.2)=some NameKind.free):(names.map (zH5 env)).lookup x=some .cell∨(names.map (zH5 env)).lookup x=some .free:=by
 rw[zBF];cases q:names.find? (λy=>x == y.1) with
 | none=>rw[q] at h;cases h
 | some y=>
  rw[q] at h;have e:y.2=.free:=wHo h;rcases zKl env y e with z | z
  ·exact .inl (congrArg some z)
  exact .inr (congrArg some z)
def zIh {x:Str} {names:List (Str × NameKind)} (h:(names.find? λy=>x == y.1).map (·.2)=some NameKind.free):(x,NameKind.free)∈names:=by
 cases q:names.find? (λy=>x == y.1) with
 | none=>rw[q] at h;cases h
 | some y=>
  rw[q] at h;have e:y.2=.free:=wHo h;have hx:x=y.1:=by simpa using List.find?_some q
  rw[hx,← e];exact List.mem_of_find?_eq_some q
def zMQ (mp:List (Option Nat)) (σ:St):St:=mp.map λo=>o.bind λj=>(σ[j]?).join
structure BlkOk (X:Cx) (scope:Scope) (N':List Str) (mp:List (Option Nat)):Prop where
 nocell:∀y∈scope.names,y.2≠.cell
 kind:scope.kind=.function
 names:∀y∈scope.names,y.2=.local->scope.names.lookup y.1=some .local
 free:∀y∈scope.names,y.2=.free->X.env.kindOf y.1=some .cell∨X.env.kindOf y.1=some .free
 len:mp.length=N'.length
 slot:∀(i j:Nat) (x:Str),mp[i]?=some (some j)->N'[i]?=some x->X.N[j]?=some x/\(scope.names.find? λy=>x == y.1).map (·.2)=some NameKind.free
def zHu (osc:Scope) (N:List Str) (scope:Scope) (N':List Str) (mp:List (Option Nat)):Bool:=
 scope.kind == .function && decide (mp.length=N'.length) &&
 scope.names.all (λy=>y.2 != .cell && (y.2 != .local || scope.names.lookup y.1 == some .local) && (y.2 != .free || osc.names.lookup y.1 == some .cell || osc.names.lookup y.1 == some .free)) &&
 (mp.zip N').all λy=>match y.1 with | none=>true | some j=>N[j]? == some y.2 && (scope.names.find? λz=>y.2 == z.1).map (·.2) == some NameKind.free
def BlkOk.of {X:Cx} {scope:Scope} {N':List Str} {mp:List (Option Nat)} (h:zHu X.env.scope X.N scope N' mp=true):BlkOk X scope N' mp:=by
 unfold zHu at h;simp only[wHN] at h;obtain⟨⟨⟨h1,h2⟩,h3⟩,h4⟩:=h;have a3:=List.all_eq_true.mp h3;have a4:=List.all_eq_true.mp h4;refine⟨λy hy=>?_,by simpa using h1,λy hy hl=>?_,λy hy hf=>?_,wHw h2,λi j x hm hN=>?_⟩
 ·have:=a3 y hy;simp only[wHN,bne_iff_ne] at this;exact this.1.1
 ·have:=a3 y hy;simp only[wHN,Bool.or_eq_true,bne_iff_ne,beq_iff_eq] at this;exact this.1.2.resolve_left λz=>z hl
 ·have:=a3 y hy;simp only[wHN,Bool.or_eq_true,bne_iff_ne,beq_iff_eq] at this;rcases this.2 with (z | z) | z
  ·exact absurd hf z
  ·exact .inl z
  exact .inr z
 have hz:(mp.zip N')[i]?=some (some j,x):=by rw[List.getElem?_zip_eq_some];exact⟨hm,hN⟩
 have:=a4 _ (wHO hz);simp only[wHN,beq_iff_eq] at this;exact this
def Cx.blk (X:Cx) (scope:Scope) (N':List Str) (C:Addr) (s3:Shared) (H3:Hp) (fp:List Addr) (pins:List (Addr × Obj)):Cx:=
 { X with env:=compEnvC scope (zAM X.env scope.names []) C X.env,N:=N',s₀:=s3,H₀:=H3,outer:=X.stack,ex:=fp,fn:=λ_=>false,pn:=X.pn++pins,xe:=λ_ _=>False }
section
variable {X:Cx} {scope:Scope} {N':List Str} {mp:List (Option Nat)} {C:Addr} {s3:Shared} {H3:Hp} {fp:List Addr} {pins:List (Addr × Obj)} {σ:St}
def BlkOk.cells (B:BlkOk X scope N' mp) (ok:X.Ok):∀y∈scope.names,y.2=.free->∃c,X.env.cells.lookup y.1=some c:=λy hy hf=>ok.has _ (B.free y hy hf)
def zCo {x:Str} {c:Addr} (h:(zAM X.env scope.names []).lookup x=some c):X.env.cells.lookup x=some c:=zC9 X.env x c scope.names [] (λ_ _ z=>by simp at z) h
def BlkOk.ok (B:BlkOk X scope N' mp) (I:Inv X pins σ H3 s3) (hC:s3.heap.objs.size<=C) (hf:∀b∈fp,zEk X pins H3 b) (jS:∀b∈fp,b < s3.heap.objs.size):(X.blk scope N' C s3 H3 fp pins).Ok where
 mod:=I.ok.mod
 kind:=B.kind
 glob:=I.ok.glob
 blt:=I.ok.blt
 above:=hC
 inj:=λx y c h1 h2=>I.ok.inj x y c (zCo h1) (zCo h2)
 has:=λx h=>by
  have hm:(x,NameKind.free)∈scope.names:=by
   rcases h with h | h
   ·exact zDQ (.inl rfl) B.nocell h
   exact zDQ (.inr rfl) B.nocell h
  exact zCA X.env x scope.names [] hm (B.cells I.ok _ hm rfl)
 cab:=λ_ _ h=>by cases h
 hd:=I.ok.hd
 frames:=I.ok.frames
 stk:=.inl rfl
 exf:=λb hb=>⟨wHu (wHy (jS b hb) hC),λx c e=>(hf b hb).2.2.2.2.1 x c (zCo e)⟩
 bs:=I.bs
 bsz:=wHv I.ok.bsz I.sz
 noex:=λb o e hb=>by
  rcases (hf b hb).2.2.2.1 with z | z
  ·exact I.ok.noex b o e z
  exact absurd (wHy (wHq (I.ok.bs b o e).1) z) (Nat.lt_irrefl _)
 exfs:=λb hb hz=>by
  rcases wID (I.stkSub b hz) with e | e
  ·exact (hf b hb).2.1 e
  exact (hf b hb).2.2.1 e
 funs:=I.stack
 frf:=I.stkFree
def BlkOk.inv (B:BlkOk X scope N' mp) (I:Inv X pins σ H3 s3) (hC:s3.heap.objs.size=C) (hf:∀b∈fp,zEk X pins H3 b) (jS:∀b∈fp,b < s3.heap.objs.size) {h4:Heap} {t':Nat} {m4:Str->Option Value}
  (k:∀b o,s3.heap.get? b=some o->h4.get? b=some o) (hn:h4.Ns C m4):Inv (X.blk scope N' C s3 H3 fp pins) [] (zMQ mp σ) H3 { s3 with heap:=h4,toks:=t' } where
 ok:=B.ok I (wIx hC) hf jS
 os:=rfl
 bare:=I.bare
 base:=Un.kept k
 loc:=⟨m4,hn,λi x v e1 e2 _=>by
  unfold zMQ at e2;rw[wHn] at e2;cases em:mp[i]? with
  | none=>rw[em] at e2;cases e2
  | some o=>
   rw[em] at e2;cases o with
   | none=>cases e2
   | some j=>
    have gG:(σ[j]?).join=some v:=wHo e2;obtain⟨hx,fV⟩:=B.slot i j x em e1;have hm:=zIh fV;have hv:σ[j]?=some (some v):=by
     cases q:σ[j]? with
     | none=>rw[q] at gG;cases gG
     | some z=>rw[q] at gG;exact congrArg some gG
    have kf:=B.free _ hm rfl;obtain⟨m,_,hl⟩:=I.loc;obtain⟨u,r,q⟩:=hl j x v hx hv (.inr kf);rcases q with ⟨ql,_⟩ | ⟨_,c,hc,bU⟩
    ·rcases kf with z | z<;>(rw[ql] at z;cases z)
    obtain⟨c',iN⟩:=zCA X.env x scope.names [] hm ⟨c,hc⟩;have:c'=c:=by have:=zCo iN;rw[hc] at this;exact (wHo this).symm
    subst this;obtain⟨oc,jK,hd⟩:=bU;exact⟨u,r,.inr ⟨zGK fV,c',iN,oc,k _ _ jK,hd⟩⟩⟩
 cell:=λx c e=>by obtain⟨v,o,ho,hd⟩:=I.cell x c (zCo e);exact⟨v,o,k _ _ ho,hd⟩
 free:=I.hok.fresh (wIx hC)
 freeC:=λx c e=>I.freeC x c (zCo e)
 pin:=λp hp=>by
  rw[wHR] at hp;obtain⟨a,b,c,d,e⟩:=I.pin p hp;refine⟨k _ _ a,b,wHu (wHy (wHq a) (wIx hC)),λz=>?_,e⟩;rcases wID (I.stkSub p.1 z) with w | w
  ·exact c w
  exact d w
 hok:=I.hok.kept k
 len:=by unfold zMQ;rw[wHf];exact B.len
def PIf (X:Cx) (ifs:List Expr) (t:TT):Prop:=
 ∀(pins:List (Addr × Obj)) (s:Shared) (σ:St) (H:Hp) (Q:Bool->Hp->Prop),Inv X pins σ H s->t σ H Q->
  wpAny (model X.prog X.w) X.A (forIn ifs true λc r=>if r=true then do let ok ← isTrue c X.env (eval c X.env);pure (ForInStep.yield ok) else pure (ForInStep.yield r)) (TP X pins σ Q) X.xe s
def zAw {X:Cx}:PIf X [] (λ_ H Q=>Q true H):=λ_ _ _ H _ I h=>wpAny_tests_nil ⟨H,I,h⟩
def zC0 {X:Cx} {c:Expr} {t:TT} (h:PT X c t):PIf X [c] t:=λpins s σ H Q I hw=>wpAny_tests_one (h pins s σ H Q I hw)
def zEt (l:Addr) (J:It) (g:TG) (tt:TT) (te:TE) (fin:Hp->Prop) (σ0:St) (H0:Hp):Prop:=
 ∃W:Nat->Nat->St->Hp->Prop,(∃m,W 0 m σ0 H0)/\∀i m σ H,W i m σ H->(J.stop i H/\fin H)∨(J.go i H/\∃N:St->Hp->Prop,(∀σ' H',N σ' H'->∃m',m' < m/\W (i+1) m' σ' H')/\
  ∀x H',J.yld i H x H'->g x σ H' λσ2 H2=>tt σ2 H2 λb H3=>if b=true then te σ2 H3 λv H4=>∃xs,H4 l=some (.lst xs)/\xs.length < sizeLine/\N σ2 (upd H4 l (.lst (xs++[v]))) else N σ2 H3)
def zI0 (mp:List (Option Nat)) (wi:TI) (g:TG) (tt:TT) (te:TE) (σ:St) (H:Hp) (fin:Addr->Hp->Prop):Prop:=
 wi σ H λJ H1=>∀l,H1 l=none->zEt l J g tt te (fin l) (zMQ mp σ) (upd H1 l (.lst []))
def zEk.blk {H:Hp} {b:Addr} (I:Inv X pins σ H3 s3) (hC:s3.heap.objs.size<=C) (f:zEk X pins H3 b) (hb:b∈fp) (hl:b < s3.heap.objs.size) (n:H b=none):zEk (X.blk scope N' C s3 H3 fp pins) [] H b:=by
 obtain⟨_,f1,f2,f3,f4,f5⟩:=f;refine⟨n,wHu (wHy hl hC),λz=>?_,.inl hb,λx c e=>f4 x c (zCo e),λp hp=>f5 p (by rwa [wHR] at hp)⟩;rcases wID (I.stkSub b z) with w | w
 ·exact f1 w
 exact f2 w
def zHn {use:Option (Value->Sem Unit)} {Qo:Value->Shared->Prop} {elt tg iter:Expr} {ifs:List Expr} {pos p0:Pos} {wi:TI} {g:TG} {tt:TT} {te:TE} {H:Hp} {s:Shared} {fin:Addr->Hp->Prop} (B:BlkOk X scope N' mp) (hc:X.calm=true) (hi:PI X tg iter wi)
  (hg:∀C s3 H3 fp pins,PG (X.blk scope N' C s3 H3 fp pins) tg g) (eG:∀C s3 H3 fp pins,PIf (X.blk scope N' C s3 H3 fp pins) ifs tt) (he:∀C s3 H3 fp pins,PE (X.blk scope N' C s3 H3 fp pins) elt te)
  (hs:∀x,foldedSetIterable iter X.env x=pure x) (I:Inv X pins σ H s) (h:zI0 mp wi g tt te σ H fin)
  (fE:∀(l C:Addr) (H':Hp) (s':Shared) (m:Str->Option Value),s'.heap.Ns C m->Inv X pins σ H' s'->zEk X pins H' C->fin l H'->compPost (model X.prog X.w) X.A X.xe use Qo (.ref l) C (.ok .next) s') :
  wpAny (model X.prog X.w) X.A (comprehension (.ListComp elt [⟨tg,iter,ifs,0⟩] scope pos) scope X.env p0 (newList []) false (eval iter X.env) use) Qo X.xe s:=by
 refine wpAny_comprehension_free (use:=use) rfl hs (zEZ (B.cells I.ok)) B.kind B.names (thn (hi pins s σ H _ I h) λv s1 h1=>thn h1 λfT s2 h2=>?_);obtain⟨it,fp,tn,J,H2,e,I2,T,cL,f2,hl⟩:=h2;subst e;obtain⟨W,⟨m0,w0⟩,turn⟩:=hl _ I2.fresh;refine wH0 ?_;have I3:=I2.lnew (its:=[]) (t':=s2.toks) .nil (wHQ _);obtain⟨s3,fC⟩:∃s3:Shared,s3={ s2 with heap:=s2.heap.push { cls:=.type "list",data:=.seq ([]:List Value).toArray } }:=⟨_,rfl⟩;have I3:Inv X pins σ (upd H2 s2.heap.objs.size (.lst [])) s3:=by rw[fC];exact I3
 have gZ:∀b o,s2.heap.get? b=some o->s3.heap.get? b=some o:=λb o q=>by rw[fC];exact wHi _ q
 have aF:∀b∈fp,b < s2.heap.objs.size:=λb hb=>by obtain⟨o,q,_⟩:=T.obj _ _ cL b hb;exact wHq q
 have cV:∀b∈fp,b < s3.heap.objs.size:=λb hb=>by obtain⟨o,q,_⟩:=T.obj _ _ cL b hb;exact wHq (gZ _ _ q)
 have f3:∀b∈fp,zEk X pins (upd H2 s2.heap.objs.size (.lst [])) b:=λb hb=>by have f:=f2 b hb;exact⟨by rw[zO (wHu (aF b hb))];exact f.1,f.2⟩
 show wpAny _ _ (newFunctionEnv scope X.env.globals (zAM X.env scope.names []) [] X.env.qual none .none (some X.env)) _ _ { s2 with heap:=s2.heap.push { cls:=.type "list",data:=.seq ([]:List Value).toArray } };rw[← fC];refine wpAny_newFunctionEnv B.nocell (λy hy=>by simp at hy) (λh4 mR lP=>?_) B.kind;have gY:∀b o,s3.heap.get? b=some o->h4.get? b=some o:=λb o q=>lP.extBut b o (wHu (wHq q)) (wHi _ q);have I4:=B.inv I3 rfl f3 cV (t':=s3.toks+([]:List (Str × Value)).length) gY mR;have gK:tn 0 h4:=T.keep _ _ _ cL λb _ o q=>gY b o (gZ b o q);have fL:∀{H':Hp},(∀b∈fp,H' b=none)->∀b∈fp,zEk (X.blk scope N' s3.heap.objs.size s3 (upd H2 s2.heap.objs.size (.lst [])) fp pins) [] H' b:=λhn b hb=>zEk.blk I3 (wHm _) (f3 b hb) hb (cV b hb) (hn b hb);have loop:codeAny (model X.prog X.w) X.A (.compLoop (.ListComp elt [⟨tg,iter,ifs,0⟩] scope pos) 0 (.ref it) (.ref s2.heap.objs.size) (compEnvC scope (zAM X.env scope.names []) s3.heap.objs.size X.env))
   (compPost (model X.prog X.w) X.A X.xe use Qo (.ref s2.heap.objs.size) s3.heap.objs.size) { s3 with heap:=h4,toks:=s3.toks+([]:List (Str × Value)).length }:=by
  refine codeAny_loop rfl (λn s'=>∃i σ' H',Inv (X.blk scope N' s3.heap.objs.size s3 (upd H2 s2.heap.objs.size (.lst [])) fp pins) [] σ' H' s'/\tn i s'.heap/\(∀b∈fp,H' b=none)/\W i n σ' H') (λn s' hI=>?_) m0 ⟨0,_,_,I4,gK,λb hb=>(f3 b hb).1,w0⟩;obtain⟨i,σ',H',I',aV,iP,w'⟩:=hI;refine wpAny_noted ?_;rw[compTurn_list];refine wHe (wpAny_standAt (wHe ?_));rcases turn i n σ' H' w' with ⟨stop,qn⟩ | ⟨go,N,hN,step⟩
  ·refine thn (T.done (X.blk scope N' s3.heap.objs.size s3 (upd H2 s2.heap.objs.size (.lst [])) fp pins) rfl rfl rfl hc i [] s' σ' H' _ I' (fL iP) aV stop) λr s5 aB=>?_;obtain⟨hr,I5⟩:=aB;subst hr;obtain⟨m5,n5,_⟩:=I5.loc;refine wHk (fE _ _ H' s5 m5 n5 (I3.call' (ch:=fp) I5.os I5.base I5.hok I5.bare λb hb=>?_) (I3.fpOk (wHm _) I5.free) qn);obtain⟨_,g1,_,g3,g4,g5⟩:=f3 b hb;exact⟨g3,g1,g4,g5⟩
  refine thn (T.item (X.blk scope N' s3.heap.objs.size s3 (upd H2 s2.heap.objs.size (.lst [])) fp pins) rfl rfl rfl hc i [] s' σ' H' _ I' (fL iP) aV go) λr s5 aB=>?_;obtain⟨u,hr,h5⟩:=aB;subst hr;refine wHe (thn h5 λ_ s6 aB=>?_);obtain⟨x,H6,I6,r6,y6,fq,nD⟩:=aB;have oB:=I6.pinned (fL nD) (T.obj _ _ fq);have keep:∀{σ7:St} {H7:Hp} {s7:Shared},Inv (X.blk scope N' s3.heap.objs.size s3 (upd H2 s2.heap.objs.size (.lst [])) fp pins) ([]++zF9 fp s6.heap) σ7 H7 s7->N σ7 H7->
    ∃m,m < n/\∃i σ' H',Inv (X.blk scope N' s3.heap.objs.size s3 (upd H2 s2.heap.objs.size (.lst [])) fp pins) [] σ' H' s7/\tn i s7.heap/\(∀b∈fp,H' b=none)/\W i m σ' H':=λ{σ7 H7 s7} I7 n7=>by
   obtain⟨m',hm,w7⟩:=hN σ7 H7 n7;have pin:=λ(b:Addr) (hb:b∈fp) (o:Obj) (q:s6.heap.get? b=some o)=>I7.pin (b,o) (wHI _ (wHI _ (zC5 hb q)));refine⟨m',hm,i+1,σ7,H7,I7.unpinned,T.keep _ _ _ fq λb hb o q=>(pin b hb o q).1,λb hb=>?_,w7⟩;obtain⟨o,q,_⟩:=T.obj _ _ fq b hb;exact (pin b hb o q).2.1
  refine wHe (wHH (hg _ _ _ _ _ _ s6 σ' H6 x u _ oB r6 (step x H6 y6)) (λ_ s7 ⟨σ7,H7,I7,q7⟩=>?_) λ_ _ z=>z.elim);refine wHe (wHH (eG _ _ _ _ _ _ s7 σ7 H7 _ I7 q7) (λok s8 ⟨H8,I8,q8⟩=>?_) λ_ _ z=>z.elim);cases ok with
  | false=>exact wHk ⟨rfl,keep I8 q8⟩
  | true=>
   refine wHe (wHe (wHH (he _ _ _ _ _ _ s8 σ7 H8 _ I8 q8) (λy s9 ⟨v9,H9,I9,r9,xs,e9,z9,q9⟩=>?_) λ_ _ z=>z.elim));refine wHe (wHH (zA3 (X:=(X.blk scope N' s3.heap.objs.size s3 (upd H2 s2.heap.objs.size (.lst [])) fp pins)) _ s9 σ7 H9 (.ref s2.heap.objs.size) [v9] (.ref s2.heap.objs.size) [y] (λ_ H'=>N σ7 H') I9 rfl (.cons r9 .nil) ⟨_,xs,v9,rfl,rfl,e9,z9,q9⟩) (λ_ s10 ⟨_,H10,I10,_,q10⟩=>?_) λ_ _ z=>z.elim);exact wHk (wHk ⟨rfl,keep I10 q10⟩)
 exact codeAny_compStart_list loop (T.self _ 0 _ _ _ gK loop)
def zQJ (mp:List (Option Nat)) (wi:TI) (g:TG) (tt:TT) (te:TE):TE:=λσ H Q=>zI0 mp wi g tt te σ H λl H'=>Q (.ref l) H'
def zA8 {elt tg iter:Expr} {ifs:List Expr} {pos:Pos} {wi:TI} {g:TG} {tt:TT} {te:TE} (N':List Str) (mp:List (Option Nat)) (hk:zHu X.env.scope X.N scope N' mp=true) (hc:X.calm=true) (hi:PI X tg iter wi)
  (hg:∀C s3 H3 fp pins,PG (X.blk scope N' C s3 H3 fp pins) tg g) (eG:∀C s3 H3 fp pins,PIf (X.blk scope N' C s3 H3 fp pins) ifs tt) (he:∀C s3 H3 fp pins,PE (X.blk scope N' C s3 H3 fp pins) elt te)
  (hs:∀x,foldedSetIterable iter X.env x=pure x:=by intro _;rfl):PE X (.ListComp elt [⟨tg,iter,ifs,0⟩] scope pos) (zQJ mp wi g tt te):=by
 intro pins s σ H Q I h;rw[eval_ListComp];refine zHn (use:=none) (BlkOk.of hk) hc hi hg eG he hs I h λl C H' s' m hn I' f q=>?_;refine⟨m,hn,λh' sb=>⟨.ref l,H',?_,rfl,q⟩⟩;obtain⟨f0,f1,f2,f3,f4,f5⟩:=f;exact I'.turned (t':=s'.toks) (λb o hb e=>sb.extBut b o hb e) f0 f1 f3 f4 f5
def zP2 (mp:List (Option Nat)) (wi:TI) (g:TG) (tt:TT) (te:TE) (g2:TG):TS:=λD σ H=>zI0 mp wi g tt te σ H λl H'=>g2 (.ref l) σ H' D.nx
def zCk {x:Str} {elt tg iter:Expr} {ifs:List Expr} {pos px cM:Pos} {wi:TI} {g g2:TG} {tt:TT} {te:TE} (N':List Str) (mp:List (Option Nat)) (hk:zHu X.env.scope X.N scope N' mp=true) (hc:X.calm=true) (hi:PI X tg iter wi)
  (hg:∀C s3 H3 fp pins,PG (X.blk scope N' C s3 H3 fp pins) tg g) (eG:∀C s3 H3 fp pins,PIf (X.blk scope N' C s3 H3 fp pins) ifs tt) (he:∀C s3 H3 fp pins,PE (X.blk scope N' C s3 H3 fp pins) elt te)
  (h2:PG X (.Name x px) g2) (mC:swapsWith (.ListComp elt [⟨tg,iter,ifs,0⟩] scope pos) (some (.Name x px)) cM.line X.env=pure true:=by rfl)
  (hs:∀x,foldedSetIterable iter X.env x=pure x:=by intro _;rfl):PS X (.Assign [.Name x px] (.ListComp elt [⟨tg,iter,ifs,0⟩] scope pos) cM) (zP2 mp wi g tt te g2):=by
 intro pins s σ H D I h;rw[exec_Assign_Name_used _ _ _ _ mC];refine wHe (wpAny_standAt (wHe ?_));show wpAny _ _ (comprehension (.ListComp elt [⟨tg,iter,ifs,0⟩] scope pos) scope X.env (firstIterPos [⟨tg,iter,ifs,0⟩] pos) (newList []) false (eval iter X.env) (some (assign (.Name x px) X.env)) >>= λ_=>pure PUnit.unit) _ _ s;refine wHe (thn (zHn (use:=some (assign (.Name x px) X.env)) (Qo:=λ_ s'=>SP X pins D .next s') (BlkOk.of hk) hc hi hg eG he hs I h λl C H' s' m hn I' f q=>?_) λ_ s' q=>wHk (wHk q));show wpAny _ _ (assign (.Name x px) X.env (.ref l)) _ _ s';obtain⟨o,es,ep,ho,hr⟩:=id hn;obtain⟨f0,f1,f2,f3,f4,f5⟩:=f;have I2:Inv X (pins++[(C,o)]) σ H' s':=I'.pins_of λp hp=>by
  rcases wIC hp with z | z
  ·exact I'.pin p (wHI _ z)
  have e:p=(C,o):=by simpa using z
  subst e;exact⟨ho,f0,f1,f2,λv z=>by rw[hr.1] at z;cases z⟩
 refine thn (h2 _ s' σ H' (.ref l) (.ref l) _ I2 rfl q) λ_ s7 aB=>?_;obtain⟨σ7,H7,I7,q7⟩:=aB;have p7:=I7.pin (C,o) (wHI _ (wHI _ (by simp)));refine⟨m,⟨o,es,ep,p7.1,hr⟩,λh' sb=>⟨σ7,H7,?_,q7⟩⟩;exact I7.unpinned.turned (t':=s7.toks) (λb o hb e=>sb.extBut b o hb e) p7.2.1 f1 f3 f4 f5
end
section
variable {X:Cx} {pins:List (Addr × Obj)} {σ:St} {H:Hp} {s:Shared}
def Inv.turnNew {ch:List Addr} {T:Addr} {o:HO} {h':Heap} {t':Nat} (I:Inv X pins σ H s) (hf:∀b∈ch,zEk X pins H b) (hT:s.heap.objs.size<=T) (k:∀b u,b∉ch->s.heap.get? b=some u->h'.get? b=some u)
  (new:ObjOk X.prog X.w (upd H T o) h' T o):Inv X pins σ (upd H T o) { s with heap:=h',toks:=t' }:=by
 have fresh:H T=none:=I.hok.fresh hT;have neT:∀b u,s.heap.get? b=some u->b≠T:=λb u e=>wHu (wHy (wHq e) hT);have cP:∀b u,H b=some u->b∉ch:=λb u e hb=>by rw[(hf b hb).1] at e;cases e
 refine I.step (g':=s.gens) (d':=s.drawn) (ch:=ch) (λb hb=>?_) (λb u _ _ hc e _=>k b u hc e) (λb u _ _ hc e _=>⟨u.slots,k b u hc e⟩) (λb u hc e n=>by rw[zO (neT b u e)];exact n)
  (λb u hc e=>⟨u,k b u hc e⟩) (λb xs e=>by rw[zO (zN e fresh)];exact e) (λb u xs e=>by rw[zO (zN e fresh)];exact e) (λb ps e=>⟨#[],by rw[zO (zN e fresh),e];simp⟩) (λm hm=>?_) (λb u e=>?_) I.bare
 ·obtain⟨_,f1,_,f3,f4,f5⟩:=hf b hb;exact⟨f3,f1,f4,f5⟩
 ·obtain⟨ob,es,ep,ho,r⟩:=hm;exact⟨ob,es,ep,k _ ob (λz=>(hf _ z).2.1 rfl) ho,r⟩
 by_cases hb:b=T
 ·subst hb;rw[zB] at e;cases e;exact new
 rw[zO hb] at e;refine (I.hok b u e).stay (λc v hc q=>k c v ?_ q) (λc q=>by rw[zO (zN q fresh)];exact q) λc xs q=>by rw[zO (zN q fresh)];exact q
 rcases hc with rfl | hc
 ·exact cP _ _ e
 exact cP _ _ hc
def Inv.turnAll {ch:List Addr} {h':Heap} {t':Nat} (I:Inv X pins σ H s) (hf:∀b∈ch,zEk X pins H b) (k:∀b u,b∉ch->s.heap.get? b=some u->h'.get? b=some u):Inv X pins σ H { s with heap:=h',toks:=t' }:=by
 have cP:∀b u,H b=some u->b∉ch:=λb u e hb=>by rw[(hf b hb).1] at e;cases e
 refine I.step (g':=s.gens) (d':=s.drawn) (ch:=ch) (λb hb=>?_) (λb u _ _ hc e _=>k b u hc e) (λb u _ _ hc e _=>⟨u.slots,k b u hc e⟩) (λb u hc e n=>n)
  (λb u hc e=>⟨u,k b u hc e⟩) (λb xs e=>e) (λb u xs e=>e) (λb ps e=>⟨#[],by rw[e];simp⟩) (λm hm=>?_) (λb u e=>?_) I.bare
 ·obtain⟨_,f1,_,f3,f4,f5⟩:=hf b hb;exact⟨f3,f1,f4,f5⟩
 ·obtain⟨ob,es,ep,ho,r⟩:=hm;exact⟨ob,es,ep,k _ ob (λz=>(hf _ z).2.1 rfl) ho,r⟩
 refine (I.hok b u e).stay (λc v hc q=>k c v ?_ q) (λ_ q=>q) λ_ _ q=>q;rcases hc with rfl | hc
 ·exact cP _ _ e
 exact cP _ _ hc
theorem zGL (ns:List Int):∀k,k<=ns.length->preSum (λi=>ns.getD i 0) k=(ns.take k).sum
 | 0,_=>by simp[preSum]
 | k+1,h=>by
  have e:ns.take (k+1)=ns.take k++[ns.getD k 0]:=by rw[List.take_add_one,wHh,wHg (show k < ns.length by omega)];rfl
  rw[e,List.sum_append];have:=zGL ns k ∅;show preSum (λi=>ns.getD i 0) k+ns.getD k 0=_;rw[this];simp
inductive RSum (K:W.Frag) (xs:List V) (H:Hp) (Q:VK):Prop
 | mk (p:Addr) (ns:List Int):(xs=[.ref p])->(SqL K H p (ns.map V.int))->(Q (.int ns.sum) H)->RSum K xs H Q
def zMM (hc:X.calm=true):zB7 X (.builtin "sum") (λxs H Q=>RSum X.K xs H Q):=by
 intro pins s σ H xs us Q I r h;obtain⟨p,ns,rfl,hS,q⟩:=h;obtain⟨u,rfl,ru⟩:=r.one;cases ru;obtain⟨its,rv,pl,hz⟩:=I.list hS;have hi:IntsAre its ns:=zC6 rv;have hn:its.length=ns.length:=hi.length;have hp:p < s.heap.objs.size:=by obtain⟨o,n,e,_⟩:=pl;exact wHq e
 refine call_sum_walkAnyS (wpAny_pyIter_list pl.isList ?_);refine⟨s.heap.objs.size,_,_,_,_,_,_,λi=>ns.getD i 0,rfl,(Walks.list (A:=X.A.in1) (show X.A.in1.handled=none from I.ok.hd hc) s.heap.objs.size p (wHu hp) its.toArray).toS,⟨⟨_,wHs _ rfl,rfl,rfl⟩,pl.isList.push _⟩,λb hb=>?_,λi v hv=>?_,λs' t' hm=>?_⟩
 ·rw[wIa];rcases wID hb with e | hb
  ·subst e;exact wIh _
  rw[wIz hb];exact wIf hp
 ·exact IntsAre.int_at hi i v (by simpa using hv)
 obtain⟨h',g',d',bJ,lU⟩:=s';have eg:g'=s.gens:=hm.gens;have ed:d'=s.drawn:=hm.drawn;have eo:lU=s.os:=hm.os;subst eg ed eo;have e:preSum (λi=>ns.getD i 0) its.toArray.size=ns.sum:=by rw[wHz,hn,zGL ns ns.length (wHm _),wHL]
 rw[e];exact⟨.int ns.sum,H,I.kept λb o q=>hm.heap b o (λz=>by rw[wIz z] at q;exact absurd (wHq q) (Nat.lt_irrefl _)) (wHi _ q),⟨_,rfl⟩,q⟩
def Ite (K:W.Frag) (a:Addr):It:=
 ⟨λi H=>∃xs x,SqL K H a xs/\xs[i]?=some x,λi H v H'=>∃T x,v=.ref T/\H T=none/\H'=upd H T (.tup [.int (i:Int),x])/\∀xs,SqL K H a xs->xs[i]?=some x,λi H=>∃xs,SqL K H a xs/\xs.length<=i⟩
def zJL {P:Program} {w:World} {K:W.Frag} {es:List Expr} {k:Nat} {pos:Pos} (a e it:Addr) (aO:e≠it):Turn P w K (.Tuple es k pos) (Ite K a) [e,it] e (λi h=>∃old,IsEnum h e it i old/\h.IsListIter it a i) where
 mem:=by simp
 obj:=λi h st b hb=>by
  obtain⟨old,he,o,hit,hc,hd⟩:=st;rcases wID hb with z | z
  ·subst z;exact⟨_,he,λv z=>by cases z⟩
  rw[wIz z];exact⟨o,hit,λv z=>by rw[hd] at z;cases z⟩
 keep:=λi h h' st kp=>by obtain⟨old,he,hit⟩:=st;exact⟨old,kp e (by simp) _ he,hit.at λo q=>kp it (by simp) o q⟩
 item:=by
  intro X hP hw hK hc i pins s σ H E I hf st hg;subst hP hw hK;obtain⟨xs,x,hq,hx⟩:=hg;obtain⟨its,rv,p,hz⟩:=I.list hq;obtain⟨u,hu,ru⟩:=rv.get hx;obtain⟨old,he,hit⟩:=st;refine wpAny_pyNext_enum_item he hit p.isList (x:=u) (by simpa using hu) aO λh1 eo ng ht eY kp=>⟨_,rfl,?_⟩;refine wpAny_letOwnedTupleGo_enum eo λh2 he2 bM=>?_;have tne:s.heap.objs.size≠e:=Nat.ne_of_gt (wHq he);have tni:s.heap.objs.size≠it:=by obtain⟨o,q,_⟩:=hit;exact Nat.ne_of_gt (wHq q)
  have I2:Inv X pins σ (upd H s.heap.objs.size (.tup [.int (i:Int),x])) { s with heap:=h2,toks:=s.toks+1 }:=by
   refine I.turnNew hf (wHm _) (λb o hb q=>?_) ⟨zAz,[.int i s.toks,u],.cons ⟨_,rfl⟩ (.cons ru .nil),?_⟩
   ·simp only[wId,wH4,or_false,not_or] at hb;exact bM.extBut b o hb.1 (kp b o hb.1 hb.2 q)
   exact⟨_,bM.extBut _ _ tne ht,rfl,_,rfl⟩
  refine⟨.ref s.heap.objs.size,_,I2,rfl,⟨_,x,rfl,I.fresh,rfl,λys hy=>by rw[I.list_inj hy hq];exact hx⟩,⟨u,?_,ng.extBut bM.extBut (Ne.symm aO)⟩,λb hb=>?_⟩
  ·exact he2
  have nb:b≠s.heap.objs.size:=by
   rcases wID hb with z | z
   ·rw[z];exact Ne.symm tne
   rw[wIz z];exact Ne.symm tni
  rw[zO nb];exact (hf b hb).1
 done:=by intro X hP hw hK hc i pins s σ H E I hf st hg;subst hP hw hK;obtain⟨xs,hq,hx⟩:=hg;obtain⟨its,rv,p,hz⟩:=I.list hq;obtain⟨old,he,hit⟩:=st;have hl:=rv.length;refine wpAny_pyNext_enum_end (I.ok.hd hc) he hit p.isList (by simp;omega) λh' eb=>⟨rfl,I.turnAll (t':=s.toks) hf λb o hb q=>eb b o (λz=>hb (by simp[z])) q⟩
 self:=λA i s Q E st h=>by obtain⟨old,he,hit⟩:=st;have hT:s.TypeIs (.ref e) "enumerate":=⟨_,he,rfl⟩;exact wpAny_pyIter_enum he h
inductive IEnum (K:W.Frag) (vs:List V) (H1:Hp) (R:It->Hp->Prop):Prop
 | mk (a:_) (xs:_):(vs=[.ref a])->SqL K H1 a xs->(R (Ite K a) H1)->IEnum K vs H1 R
def zQY (K:W.Frag) (ta:TA):TI:=λσ H R=>ta σ H λvs H1=>IEnum K vs H1 R
def zKz {a:Expr} {ta:TA} {p pos:Pos} {es:List Expr} {k:Nat} {tp:Pos} (hg:Gl X "enumerate") (hm:X.mg "enumerate"=none) (ha:PA X [a] ta) (hs:starEach [a] X.env=[(false,eval a X.env)]:=by rfl) :
  PI X (.Tuple es k tp) (.Call (.Name "enumerate" p) [a] [] pos) (zQY X.K ta):=by
 intro pins s σ H R I h;refine Call_ (zDq I hg hm boot_enumerate (PyProof.Rows.callWith_type1 (thn (ha pos pins s σ H _ I h) λus s1 ⟨vs,H1,I1,r1,q1⟩=>?_) hs rfl));obtain⟨l,xs,e,hq,q⟩:=q1;subst e;obtain⟨u,rfl,ru⟩:=r1.one;cases ru;obtain⟨its,rv,pl,hz⟩:=I1.list hq;refine call_enumerate_list pl.isList λh' he hit eY kp=>?_;have I2:Inv X pins σ H1 { s1 with heap:=h' }:=I1.kept (t':=s1.toks) kp;refine wpAny_pyIter_enum he ⟨s1.heap.objs.size+1,[s1.heap.objs.size+1,s1.heap.objs.size],_,_,H1,rfl,I2,zJL l _ _ (Nat.succ_ne_self _),⟨_,he,hit⟩,λb hb=>?_,q⟩;rcases wID hb with z | z
 ·subst z;exact I1.fpOk (Nat.le_succ _) (I1.hok.fresh (Nat.le_succ _))
 rw[wIz z];exact I1.fpOk (wHm _) (I1.hok.fresh (wHm _))
def Itz (K:W.Frag) (a b:Addr):It:=
 ⟨λi H=>∃xs ys x y,SqL K H a xs/\SqL K H b ys/\xs[i]?=some x/\ys[i]?=some y,
  λi H v H'=>∃T x y,v=.ref T/\H T=none/\H'=upd H T (.tup [x,y])/\(∀xs,SqL K H a xs->xs[i]?=some x)/\∀ys,SqL K H b ys->ys[i]?=some y,
  λi H=>∃xs ys,SqL K H a xs/\SqL K H b ys/\(xs.length<=i∨ys.length<=i)⟩
def zLF {P:Program} {w:World} {K:W.Frag} {es:List Expr} {k:Nat} {pos:Pos} {z TI TO i1 i2 l1 l2:Addr} (D:ZipApart z TI TO i1 i2 l1 l2) :
  Turn P w K (.Tuple es k pos) (Itz K l1 l2) [z,TI,TO,i1,i2] z (λi h=>IsZip h z TI TO .none/\IsPair h TI (.ref i1) (.ref i2)/\(∃a b,IsPair h TO a b)/\h.IsListIter i1 l1 i/\h.IsListIter i2 l2 i) where
 mem:=by simp
 obj:=λi h st b hb=>by
  obtain⟨hz,dB,⟨c,d,dO⟩,⟨o1,h1,c1,d1⟩,⟨o2,h2,c2,d2⟩⟩:=st;simp only[wId,wH4,or_false] at hb;rcases hb with e | e | e | e | e<;>subst e
  ·exact⟨_,hz,λv z=>by cases z⟩
  ·exact⟨_,dB,λv z=>by cases z⟩
  ·exact⟨_,dO,λv z=>by cases z⟩
  ·exact⟨_,h1,λv z=>by rw[d1] at z;cases z⟩
  exact⟨_,h2,λv z=>by rw[d2] at z;cases z⟩
 keep:=λi h h' st kp=>by obtain⟨hz,dB,⟨c,d,dO⟩,h1,h2⟩:=st;exact⟨kp z (by simp) _ hz,kp TI (by simp) _ dB,⟨c,d,kp TO (by simp) _ dO⟩,h1.at λo q=>kp i1 (by simp) o q,h2.at λo q=>kp i2 (by simp) o q⟩
 item:=by
  intro X hP hw hK hc i pins s σ H E I hf st hg;subst hP hw hK;obtain⟨xs,ys,x,y,hq,hr,hx,hy⟩:=hg;obtain⟨its,rv,p,_⟩:=I.list hq;obtain⟨cQ,jy,p2,_⟩:=I.list hr;obtain⟨u,hu,ru⟩:=rv.get hx;obtain⟨v,hv,rv'⟩:=jy.get hy;obtain⟨hz,dB,⟨c,d,dO⟩,h1,h2⟩:=st;refine wpAny_pyNext_zip_item D hz dB dO h1 h2 p.isList p2.isList (x:=u) (y:=v) (by simpa using hu) (by simpa using hv) λh' b1 b2 b3 b4 b5 b6 kp=>⟨_,rfl,?_⟩;refine wpAny_letOwnedTupleGo_zip b1 λh2' hz2 bM=>?_;have lt:∀{c o},s.heap.get? c=some o->s.heap.objs.size≠c:=λe=>Nat.ne_of_gt (wHq e);have n1:s.heap.objs.size≠i1:=by obtain⟨_,e,_⟩:=h1;exact lt e
  have n2:s.heap.objs.size≠i2:=by obtain⟨_,e,_⟩:=h2;exact lt e
  have I2:Inv X pins σ (upd H s.heap.objs.size (.tup [x,y])) { s with heap:=h2' }:=by
   refine I.turnNew (t':=s.toks) hf (wHm _) (λb o hb q=>?_) ⟨zAz,[u,v],.cons ru (.cons rv' .nil),?_⟩
   ·simp only[wId,wH4,or_false,not_or] at hb;exact bM.extBut b o hb.1 (kp b o hb.1 hb.2.2.1 hb.2.2.2.1 hb.2.2.2.2 q)
   exact⟨_,bM.extBut _ _ (lt hz) b5,rfl,_,rfl⟩
  refine⟨.ref s.heap.objs.size,_,I2,rfl,⟨_,x,y,rfl,I.fresh,rfl,λzs jG=>by rw[I.list_inj jG hq];exact hx,λzs jG=>by rw[I.list_inj jG hr];exact hy⟩,
   ⟨hz2,bM.extBut _ _ D.TIz (kp _ _ D.TIz D.TITO D.TIi1 D.TIi2 dB),⟨u,v,bM.extBut _ _ D.TOz b2⟩,b3.extBut bM.extBut D.i1z,b4.extBut bM.extBut D.i2z⟩,λb hb=>?_⟩
  have nb:b≠s.heap.objs.size:=by
   simp only[wId,wH4,or_false] at hb;rcases hb with e | e | e | e | e<;>rw[e]
   ·exact Ne.symm (lt hz)
   ·exact Ne.symm (lt dB)
   ·exact Ne.symm (lt dO)
   ·exact Ne.symm n1
   exact Ne.symm n2
  rw[zO nb];exact (hf b hb).1
 done:=by intro X hP hw hK hc i pins s σ H E I hf st hg;subst hP hw hK;obtain⟨xs,ys,hq,hr,hx⟩:=hg;obtain⟨its,rv,p,_⟩:=I.list hq;obtain⟨cQ,jy,p2,_⟩:=I.list hr;obtain⟨hz,dB,⟨c,d,dO⟩,h1,h2⟩:=st;have e1:=rv.length;have e2:=jy.length;refine wpAny_pyNext_zip_end (I.ok.hd hc) D hz dB dO h1 h2 p.isList p2.isList (by rcases hx with z | z;exact .inl (by simp;omega);exact .inr (by simp;omega)) λh' kp=>⟨rfl,I.turnAll (t':=s.toks) hf λb o hb q=>?_⟩;simp only[wId,wH4,or_false,not_or] at hb;exact kp b o hb.1 hb.2.2.1 hb.2.2.2.1 hb.2.2.2.2 q
 self:=λA i s Q E st h=>wpAny_pyIter_zip st.1 h
inductive IZip (K:W.Frag) (vs:List V) (H1:Hp) (R:It->Hp->Prop):Prop
 | mk (a:_) (b:_) (xs:_) (ys:_):(vs=[.ref a,.ref b])->SqL K H1 a xs->SqL K H1 b ys->(R (Itz K a b) H1)->IZip K vs H1 R
def zRW (K:W.Frag) (ta:TA):TI:=λσ H R=>ta σ H λvs H1=>IZip K vs H1 R
def zJA {n l1 l2:Nat} (h1:l1 < n) (h2:l2 < n):ZipApart (n+4) (n+2) (n+3) n (n+1) l1 l2:=by constructor<;>(show (_:Nat)≠_;omega)
def zI6 {a b:Expr} {ta:TA} {p pos:Pos} {es:List Expr} {k:Nat} {tp:Pos} (hg:Gl X "zip") (hm:X.mg "zip"=none) (ha:PA X [a,b] ta) (hs:starEach [a,b] X.env=[(false,eval a X.env),(false,eval b X.env)]:=by rfl) (eZ:starEach [b] X.env=[(false,eval b X.env)]:=by rfl) :
  PI X (.Tuple es k tp) (.Call (.Name "zip" p) [a,b] [] pos) (zRW X.K ta):=by
 intro pins s σ H R I h;refine Call_ (zDq I hg hm boot_zip (PyProof.Rows.callWith_type1 (thn (ha pos pins s σ H _ I h) λus s1 ⟨vs,H1,I1,r1,q1⟩=>?_) (by rw[hs,eZ]) (by rw[eZ];rfl)));obtain⟨l1,l2,xs,ys,e,hq,hr,q⟩:=q1;subst e;obtain⟨u,v,rfl,ru,rv⟩:=r1.two;cases ru;cases rv;obtain⟨its,rv1,p1,_⟩:=I1.list hq;obtain⟨cQ,jy,p2,_⟩:=I1.list hr;have n1:l1 < s1.heap.objs.size:=by obtain⟨o,n,e,_⟩:=p1;exact wHq e
 have n2:l2 < s1.heap.objs.size:=by obtain⟨o,n,e,_⟩:=p2;exact wHq e
 refine call_zip_2 p1.isList p2.isList λh' hz dB dO h1 h2 eY kp=>?_;have I2:Inv X pins σ H1 { s1 with heap:=h' }:=I1.kept (t':=s1.toks) kp;have D:ZipApart (s1.heap.objs.size+4) (s1.heap.objs.size+2) (s1.heap.objs.size+3) s1.heap.objs.size (s1.heap.objs.size+1) l1 l2:=zJA n1 n2;refine wpAny_pyIter_zip hz ⟨_,[s1.heap.objs.size+4,s1.heap.objs.size+2,s1.heap.objs.size+3,s1.heap.objs.size,s1.heap.objs.size+1],_,_,H1,rfl,I2,zLF D,⟨hz,dB,⟨_,_,dO⟩,h1,h2⟩,λb hb=>?_,q⟩;have le:s1.heap.objs.size<=b:=by simp only[wId,wH4,or_false] at hb;rcases hb with e | e | e | e | e<;>rw[e]<;>first | exact wHm _ | exact Nat.le_add_right _ _
 exact I1.fpOk le (I1.hok.fresh le)
end
def zBt {l:Addr} {lo:Int} {n:Nat} {g:TG} {tt:TT} {te:TE} {fin:Hp->Prop} {σ0:St} {H0:Hp} (Pv:Nat->St->Hp->Prop) (h0:Pv 0 σ0 H0)
  (hs:∀i σ H,i < n->Pv i σ H->g (.int (lo+i)) σ H λσ2 H2=>tt σ2 H2 λb H3=>if b=true then te σ2 H3 λv H4=>∃xs,H4 l=some (.lst xs)/\xs.length < sizeLine/\Pv (i+1) σ2 (upd H4 l (.lst (xs++[v]))) else Pv (i+1) σ2 H3)
  (hd:∀σ H,Pv n σ H->fin H):zEt l (Itr lo n) g tt te fin σ0 H0:=by
 refine⟨λi m σ H=>m=n-i/\i<=n/\Pv i σ H,⟨n,by simp,wHQ _,h0⟩,?_⟩;rintro i m σ H ⟨rfl,hi,p⟩;by_cases aF:i < n
 ·refine .inr ⟨aF,Pv (i+1),λσ' H' p'=>⟨n-(i+1),by omega,rfl,aF,p'⟩,λx H' y=>?_⟩;obtain⟨e,y⟩:=y;subst e y;exact hs i σ _ aF p
 have e:i=n:=by omega
 subst e;exact .inl ⟨wHm _,hd σ H p⟩
def zAl {K:W.Frag} {a l:Addr} {ys:List V} {g:TG} {tt:TT} {te:TE} {fin:Hp->Prop} {σ0:St} {H0:Hp} (Pv:Nat->St->Hp->Prop) (h0:Pv 0 σ0 H0) (hl:∀i σ H,i<=ys.length->Pv i σ H->SqL K H a ys)
  (hs:∀i x σ H,ys[i]?=some x->Pv i σ H->g x σ H λσ2 H2=>tt σ2 H2 λb H3=>if b=true then te σ2 H3 λv H4=>∃xs,H4 l=some (.lst xs)/\xs.length < sizeLine/\Pv (i+1) σ2 (upd H4 l (.lst (xs++[v]))) else Pv (i+1) σ2 H3)
  (hd:∀σ H,Pv ys.length σ H->fin H):zEt l (Itl K a) g tt te fin σ0 H0:=by
 refine⟨λi m σ H=>m=ys.length-i/\i<=ys.length/\Pv i σ H,⟨ys.length,by simp,wHQ _,h0⟩,?_⟩;rintro i m σ H ⟨rfl,hi,p⟩;have q:=hl i σ H hi p;by_cases aF:i < ys.length
 ·refine .inr ⟨⟨ys,ys[i],q,by simp[aF]⟩,Pv (i+1),λσ' H' p'=>⟨ys.length-(i+1),by omega,rfl,aF,p'⟩,λx H' y=>?_⟩;obtain⟨e,y⟩:=y;subst e;exact hs i x σ _ (y ys q) p
 have e:i=ys.length:=by omega
 subst e;exact .inl ⟨⟨ys,q,wHm _⟩,hd σ H p⟩
def zLv {K:W.Frag} {a l:Addr} {ys:List V} {g:TG} {tt:TT} {te:TE} {fin:Hp->Prop} {σ0:St} {H0:Hp} (Pv:Nat->St->Hp->Prop) (h0:Pv 0 σ0 H0) (hl:∀i σ H,i<=ys.length->Pv i σ H->SqL K H a ys)
  (hs:∀i x σ H T,ys[i]?=some x->Pv i σ H->H T=none->g (.ref T) σ (upd H T (.tup [.int (i:Int),x])) λσ2 H2=>tt σ2 H2 λb H3=>if b=true then te σ2 H3 λv H4=>∃xs,H4 l=some (.lst xs)/\xs.length < sizeLine/\Pv (i+1) σ2 (upd H4 l (.lst (xs++[v]))) else Pv (i+1) σ2 H3)
  (hd:∀σ H,Pv ys.length σ H->fin H):zEt l (Ite K a) g tt te fin σ0 H0:=by
 refine⟨λi m σ H=>m=ys.length-i/\i<=ys.length/\Pv i σ H,⟨ys.length,by simp,wHQ _,h0⟩,?_⟩;rintro i m σ H ⟨rfl,hi,p⟩;have q:=hl i σ H hi p;by_cases aF:i < ys.length
 ·refine .inr ⟨⟨ys,ys[i],q,by simp[aF]⟩,Pv (i+1),λσ' H' p'=>⟨ys.length-(i+1),by omega,rfl,aF,p'⟩,λx H' y=>?_⟩;obtain⟨T,z,e1,e2,e3,y⟩:=y;subst e1 e3;exact hs i z σ _ T (y ys q) p e2
 have e:i=ys.length:=by omega
 subst e;exact .inl ⟨⟨ys,q,wHm _⟩,hd σ H p⟩
def zOD {K:W.Frag} {a b:Addr} {xs ys:List V} {g:TG} {tb:TS} {D:Ends} {σ:St} {H:Hp} (he:xs.length=ys.length) (Pv:Nat->St->Hp->Prop) (h0:Pv 0 σ H) (hl:∀i σ H,i<=xs.length->Pv i σ H->SqL K H a xs/\SqL K H b ys)
  (hs:∀i x y σ H T,xs[i]?=some x->ys[i]?=some y->Pv i σ H->H T=none->g (.ref T) σ (upd H T (.tup [x,y])) λσ2 H2=>tb { D with nx:=Pv (i+1),ct:=Pv (i+1),bk:=D.nx } σ2 H2) (hd:∀σ H,Pv xs.length σ H->D.nx σ H) :
  ∃W:Nat->Nat->St->Hp->Prop,(∃m,W 0 m σ H)/\∀i m σ H,W i m σ H->
   ((Itz K a b).stop i H/\D.nx σ H)∨((Itz K a b).go i H/\∃N:St->Hp->Prop,(∀σ' H',N σ' H'->∃m',m' < m/\W (i+1) m' σ' H')/\∀x H',(Itz K a b).yld i H x H'->g x σ H' λσ2 H2=>tb { D with nx:=N,ct:=N,bk:=D.nx } σ2 H2):=by
 refine⟨λi m σ H=>m=xs.length-i/\i<=xs.length/\Pv i σ H,⟨xs.length,by simp,wHQ _,h0⟩,?_⟩;rintro i m σ H ⟨rfl,hi,p⟩;obtain⟨q,r⟩:=hl i σ H hi p;by_cases aF:i < xs.length
 ·refine .inr ⟨⟨xs,ys,xs[i],ys[i]' ∅,q,r,by simp[aF],by simp[show i < ys.length by omega]⟩,Pv (i+1),λσ' H' p'=>⟨xs.length-(i+1),by omega,rfl,aF,p'⟩,λx H' y=>?_⟩;obtain⟨T,z,z',e1,e2,e3,y1,y2⟩:=y;subst e1 e3;exact hs i z z' σ _ T (y1 xs q) (y2 ys r) p e2
 have e:i=xs.length:=by omega
 subst e;exact .inl ⟨⟨xs,ys,q,r,.inl (wHm _)⟩,hd σ H p⟩
def zY {H H':Hp} {c:Addr} (e:zAh H H') (h:H c=none) (o:HO):zAh H (upd H' c o):=λb u q=>by rw[zO (zN q h)];exact e b u q
def zAh.none {H H':Hp} (e:zAh H H') {c:Addr} (h:H' c=Option.none):H c=Option.none:=e.free h
def zAh.tup {K:W.Frag} {H H':Hp} {a:Addr} {xs:List V} (e:zAh H H') (h:SqT K H a xs):SqT K H' a xs:=by
 rcases h with (h | ⟨o,h⟩) | h
 ·exact .inl (.inl (e _ _ h))
 ·exact .inl (.inr ⟨o,e _ _ h⟩)
 exact .inr h
def zAL {n:Nat} (h:n < 1000):n < sizeLine:=zAj (wIm h)
def zDw {ns:List Int} {k:Int} (h0:0<=k) (h:k < (ns.length:Int)):atI (ns.map V.int) k=some (.int (ns.getD k.toNat 0)):=by
 have hk:k.toNat < ns.length:=by omega
 have ek:k=((k.toNat:Nat):Int):=by omega
 have q:atI (ns.map V.int) ((k.toNat:Nat):Int)=some (.int (ns.getD k.toNat 0)):=zDL (by rw[wHn,wHg hk,wHh,wHg hk];rfl);rw[← ek] at q;exact q
def zAB {xs:List V} {k:Int} {v:V} (h0:0<=k) (h:xs[k.toNat]?=some v):atI xs k=some v:=by
 have ek:k=((k.toNat:Nat):Int):=by omega
 have q:=zDL h;rw[← ek] at q;exact q
def zNi {n:Nat} {k:Int} (h0:0<=k) (h:k < n):ixN n k=some k.toNat:=by unfold ixN;rw[wHl h0,wHl h]
theorem zO7 {ns:List Int} {k:Int} (h0:0<=k) (h:k < (ns.length:Int)):ixN (ns.map V.int).length k=some k.toNat:=by rw[wHf];exact zNi h0 h
def zLQ {ns:List Int} {j:Nat} {x:Int}:(ns.map V.int).set j (.int x)=(ns.set j x).map V.int:=by rw[List.map_set]
theorem zBX {ns:List Int} {x:Int}:ns.map V.int++[.int x]=(ns++[x]).map V.int:=by rw[wHr];rfl
section
variable {X:Cx}
def zFa:zB7 X (.builtin "sorted") (λxs H Q=>∃(p:Addr) (ns:List Int),xs=[.ref p]/\SqL X.K H p (ns.map V.int)/\ns.length < 64/\∀(l:Addr) (ms:List Int),H l=none->ms.Perm ns->ms.Pairwise (·<=·)->Q (.ref l) (upd H l (.lst (ms.map V.int)))):=by
 intro pins s σ H xs us Q I r h;obtain⟨p,ns,rfl,hS,h64,q⟩:=h;obtain⟨u,rfl,ru⟩:=r.one;cases ru;obtain⟨its,rv,pl,hz⟩:=I.list hS;have hi:IntsAre its ns:=zC6 rv;have hn:its.length=ns.length:=hi.length;refine sorted_ints pl.isList hi ∅ λout ms h1 h2 h3=>?_;obtain⟨e,he⟩:=sortedAll_at s.heap its out;have hl:H (s.heap.objs.size+1)=none:=I.hok.fresh (Nat.le_succ _);refine⟨.ref (s.heap.objs.size+1),upd H (s.heap.objs.size+1) (.lst (ms.map V.int)),I.laid (o:=.lst (ms.map V.int)) (t':=s.toks) (λb o q=>sortedAll_old q) (Nat.le_succ _) ⟨?_,out.toList,e,zCX h1,?_⟩,rfl,q _ ms hl h2 h3⟩
 ·rw[wHf,h2.length_eq];rw[wHf] at hz;exact hz
 rw[he]
theorem zO8 (K:W.Frag) (h:X.K=K:=by rfl):IxR X (zQR K):=by subst h;exact zNh
def zM9 (K:W.Frag) (h:X.K=K:=by rfl):IxR X (zQ1 K):=by subst h;exact zO6
def zAt (K:W.Frag) {es:List Expr} {k:Nat} {t:TGs} {n:Nat} {pos:Pos} (hc:X.calm=true) (h:PGs X es t)
  (hn:(assignEach es X.env).length=n:=by rfl) (bF:(assignEach es X.env).findIdx? (·.1)=none:=by rfl) (hK:X.K=K:=by rfl):PG X (.Tuple es k pos) (zR3 K n t):=by subst hK;exact zPB hc h hn bF
def zAd (K:W.Frag) (h:X.K=K:=by rfl):zB7 X (.builtin "len") (λxs H Q=>RLen K xs H Q):=by subst h;exact zEb
def zFb (K:W.Frag) (hc:X.calm=true) (h:X.K=K:=by rfl):zB7 X (.builtin "sum") (λxs H Q=>RSum K xs H Q):=by subst h;exact zMM hc
def zPO (K:W.Frag) (h:X.K=K:=by rfl):OpR X (compareOp .In) (rIn K false):=by subst h;exact zK6
def zGR (K:W.Frag) (h:X.K=K:=by rfl):OpR X (compareOp .NotIn) (rIn K true):=by subst h;exact zGQ
end
abbrev zEj (xs:List Nat):Prop:=xs.Pairwise (· < ·)
def zEn {xs:Array Nat} (h:zEj xs.toList) {i j:Nat} (bR:i < j) (hj:j < xs.size):xs[i]' ∅ < xs[j]:=by have:=List.pairwise_iff_getElem.mp h i j (by simp;omega) (by simpa using hj) bR;simpa using this
structure Cut (xs:Array Nat) (j b:Nat):Prop where
 le:b<=xs.size
 lo:∀i,(h:i < xs.size)->i < b->xs[i] < j
 hi:∀i,(h:i < xs.size)->b<=i->j<=xs[i]
theorem zG0 {xs:Array Nat} {j:Nat} (h:zEj xs.toList):∀(aN lo hi:Nat),lo<=hi->hi<=xs.size->hi-lo<=aN->(∀i,(q:i < xs.size)->i < lo->xs[i] < j)->(∀i,(q:i < xs.size)->hi<=i->j<=xs[i])->
  Cut xs j (SetTable.below.go xs j aN lo hi)
 | 0,lo,hi,h1,h2,h3,h4,h5=>by
  have e:lo=hi:=by omega
  subst e;exact⟨h2,h4,h5⟩
 | aN+1,lo,hi,h1,h2,h3,h4,h5=>by
  unfold SetTable.below.go;by_cases c:lo < hi
  ·rw[wHl c];have hm:(lo+hi) / 2 < xs.size:=by omega
   have eg:xs.getD ((lo+hi) / 2) j=xs[(lo+hi) / 2]:=by simp[Array.getD,hm]
   dsimp only;rw[eg];by_cases d:xs[(lo+hi) / 2] < j
   ·rw[wHl d];refine zG0 h aN _ _ ∅ h2 ∅ (λi q aU=>?_) h5;by_cases e:i=(lo+hi) / 2
    ·subst e;exact d
    exact Nat.lt_trans (zEn h (show i < (lo+hi) / 2 by omega) hm) d
   rw[wHj d];refine zG0 h aN _ _ ∅ ∅ ∅ h4 λi q aU=>?_;by_cases e:i=(lo+hi) / 2
   ·subst e;omega
   have:=zEn h (show (lo+hi) / 2 < i by omega) q;omega
  rw[wHj c];have e:lo=hi:=by omega
  subst e;exact⟨h2,h4,h5⟩
def zFd {xs:Array Nat} {j:Nat} (h:zEj xs.toList):Cut xs j (SetTable.below xs j):=
 zG0 h _ _ _ (wHQ _) (wHm _) ∅ (λi _ hi=>by omega) (λi q hi=>by omega)
def zHg {xs:Array Nat} {j:Nat} (h:zEj xs.toList) (hn:xs[SetTable.below xs j]?≠some j):zEj (SetTable.insertAt xs (SetTable.below xs j) j).toList:=by
 have c:=zFd (j:=j) h;generalize SetTable.below xs j=b at c hn;rw[SetTable.toList_insertAt];unfold zEj;rw[List.pairwise_append];have hd:∀y∈xs.toList.drop b,j < y:=λy hy=>by
  obtain⟨i,hi,rfl⟩:=List.mem_iff_getElem.mp hy;rw[wIj,wH3] at hi;rw[List.getElem_drop,Array.getElem_toList];have h1:=c.hi (b+i) ∅ ∅;by_cases z:i=0
  ·subst z;have hb:b < xs.size:=by omega
   have:xs[b]?=some xs[b]:=wH9 hb;rw[this] at hn;have h2:xs[b]≠j:=λe=>hn (by rw[e]);have h3:j<=xs[b]:=by simpa using h1
   show j < xs[b];omega
  have hb:b < xs.size:=by omega
  have h0:=c.hi b hb (wHm _);have:=zEn h (show b < b+i by omega) ∅;omega
 have ht:∀y∈xs.toList.take b,y < j:=λy hy=>by obtain⟨i,hi,rfl⟩:=List.mem_iff_getElem.mp hy;rw[wHD,wH3] at hi;rw[List.getElem_take,Array.getElem_toList];exact c.lo i ∅ ∅
 refine⟨List.Pairwise.sublist (List.take_sublist _ _) h,List.pairwise_cons.mpr ⟨hd,List.Pairwise.sublist (List.drop_sublist _ _) h⟩,λy hy z hz=>?_⟩;rcases wID hz with e | hz
 ·subst e;exact ht y hy
 exact Nat.lt_trans (ht y hy) (hd z hz)
structure Tab (t:SetTable) (led:Bool):Prop where
 led:t.led=led
 rise:t.plain=true->zEj t.place.toList/\t.dummies=#[]
theorem zIY {t:SetTable} {j:Nat} (h:t.slot j=.empty):t.place[SetTable.below t.place j]?≠some j:=by intro e;unfold SetTable.slot at h;simp[e] at h
def zLe (j:Nat):SetTable.has #[] j=false:=by unfold SetTable.has;simp
def zGB {t:SetTable} {j:Nat} (h:t.dummies=#[]):t.slot j≠.dummy:=by
 intro e;unfold SetTable.slot at e;rw[h] at e;simp only[zLe] at e
 split at e<;>simp at e
theorem zEB {t:SetTable} {f:Nat->Int} {hh:Int} (hd:t.dummies=#[]):∀(aN:Nat) (p:SetTable.Probe) {j:Nat} {d:Option Nat},p.dummy=none->SetTable.probe.go t f hh aN p=some (.empty j d)->t.slot j=.empty/\d=none
 | 0,p,j,d,_,e=>by unfold SetTable.probe.go at e;cases e
 | aN+1,p,j,d,hp,e=>by
  unfold SetTable.probe.go at e;have adv:∀p:SetTable.Probe,p.dummy=none->(t.advance p).dummy=none:=λp h=>by unfold SetTable.advance;split<;>exact h
  cases q:t.slot p.j with
  | empty=>
   rw[q] at e;have e':SetTable.Met.empty p.j p.dummy=.empty j d:=wHo e
   injection e' with e1 e2
   subst e1;exact⟨q,by rw[← e2];exact hp⟩
  | dummy=>exact absurd q (zGB hd)
  | live i=>
   rw[q] at e;dsimp only at e
   split at e
   ·cases e
   exact zEB hd aN _ (adv p hp) e
def zJ0 {t:SetTable} {hh:Int} {j:Nat} {b:Bool} (hd:t.dummies=#[]) (e:t.freeSlot hh=some (j,b)):t.slot j=.empty:=by
 unfold SetTable.freeSlot at e;cases q:t.probe (λ_=>hh+1) hh (t.probeStart hh) with
 | none=>rw[q] at e;cases e
 | some m=>
  rw[q] at e;cases m with
  | candidate a b c=>cases e
  | empty i d=>
   have:=zEB hd _ _ rfl (show SetTable.probe.go t _ _ _ _=some (.empty i d) from q);obtain⟨h1,h2⟩:=this;subst h2;have e':(i,false)=(j,b):=wHo e
   injection e' with e1 _
   subst e1;exact h1
def Tab.standIn {t:SetTable} {led:Bool} (h:Tab t led) (n:Nat):Tab (t.standIn n) led:=⟨h.led,λz=>by cases z⟩
def Tab.orStandIn {t:SetTable} {led:Bool} (h:Tab t led) (n:Nat):Tab (t.orStandIn n) led:=by
 unfold SetTable.orStandIn
 split
 ·exact h
 exact h.standIn n
def Tab.off {t:SetTable} {led:Bool} (h:Tab t led):Tab { t with plain:=false } led:=⟨h.led,λz=>by cases z⟩
def Tab.put {t:SetTable} {led:Bool} (h:Tab t led) {hh:Int} {j:Nat} {b:Bool} (e:t.freeSlot hh=some (j,b)):Tab (t.put j).1 led:=by refine⟨h.led,λz=>?_⟩;have z':t.plain=true:=z;obtain⟨h1,h2⟩:=h.rise z';refine⟨zHg h1 (zIY (zJ0 h2 e)),?_⟩;show (if SetTable.has t.dummies j=true then _ else t.dummies)=_;rw[h2,zLe];rfl
def Tab.layNew {t:SetTable} {led:Bool} (h:Tab t led) (es:Array (Int × Value)) (hh:Int) (x:Value):Tab (layNew t es hh x).2.1 led:=by
 unfold PySem.layNew;cases q:t.freeSlot hh with
 | none=>exact h.standIn _
 | some p=>
  obtain⟨j,b⟩:=p;exact (h.put q).orStandIn _
theorem zER (g:Nat->Option Nat):∀l:List Nat,((l.filterMap λj=>(g j).map (j,·)).map (·.1))=l.filter λj=>(g j).isSome
 | []=>rfl
 | j::r=>by
  rw[List.filterMap_cons,List.filter_cons];cases q:g j with
  | none=>simpa using zER g r
  | some i=>simpa using zER g r
def Tab.relayAll {t:SetTable} {led:Bool} (h:Tab t led) (es:Array (Int × Value)) (n:Nat):Tab (relayAll t es n).2.1 led:=by
 unfold PySem.relayAll;cases q:t.relaid (es.map (·.1)) n with
 | none=>exact h.standIn _
 | some p=>
  obtain⟨t',order⟩:=p;dsimp only
  split
  ·unfold SetTable.relaid SetTable.laid at q;cases r:SetTable.layClean (SetTable.sizeAbove n-1) (es.map (·.1)) with
   | none=>rw[r] at q;cases q
   | some owner=>
    rw[r] at q;have e:=wHo q
    injection e with e1 _
    subst e1;refine⟨h.led,λz=>⟨?_,rfl⟩⟩;show zEj ((((List.range _).filterMap λj=>(owner.getD j none).map (j,·)).map (·.1)).toArray).toList;rw[List.toList_toArray,zER];exact List.Pairwise.filter _ List.pairwise_lt_range
  exact h.standIn _
def zBW (w:World):Bool:=w.params.followText "set-order"
def zDJ (es:List (Int × Value)):List Int:=es.map λe=>numOf e.2
def EsI (es:List (Int × Value)):Prop:=∀e∈es,e.1=hashInt (numOf e.2)/\∃tk,e.2=.int (numOf e.2) tk
def zFz (w:World) (h:Heap) (a:Addr) (ks:List Int):Prop:=
 ∃o es ep t,h.get? a=some o/\o.ExactSet/\o.data=.set es ep t/\EsI es.toList/\zDJ es.toList=ks/\ks.Nodup/\es.size < scanBound/\t.fits es.size=true/\Tab t (!zBW w)
def zFz.at {w:World} {h h':Heap} {a:Addr} {ks:List Int} (x:zFz w h a ks) (k:∀o,h.get? a=some o->h'.get? a=some o):zFz w h' a ks:=
 let ⟨o,es,ep,t,e,r⟩:=x;⟨o,es,ep,t,k o e,r⟩
section
variable {prog:Program} {w:World} {A:Around} {E:Value->Shared->Prop} {s:Shared} {a:Addr}
def EsI.elems {es:List (Int × Value)} (h:EsI es):ElemsOf (intKind prog w) es:=λe he=>by
 obtain⟨h1,tk,h2⟩:=h e he;refine⟨⟨numOf e.2,?_,h1⟩,?_⟩
 ·rw[h2];exact intKind_is _ _ _ _
 rw[h2];rfl
def EsI.perm {l l':List (Int × Value)} (h:EsI l) (p:l'.Perm l):EsI l':=λe he=>h e (p.mem_iff.mp he)
def zLn {es:List (Int × Value)} {x:Int} (h:EsI es) (e:es.findIdx? (λe=>(intKind prog w).is x e.2)=none):x∉zDJ es:=by intro hm;obtain⟨y,hy,e1⟩:=List.mem_map.mp hm;have q:=List.findIdx?_eq_none_iff.mp e y hy;obtain⟨_,tk,e2⟩:=h y hy;rw[e2,e1] at q;rw[intKind_is] at q;cases q
def zLm {es:List (Int × Value)} {x:Int} {j:Nat} (h:EsI es) (e:es.findIdx? (λe=>(intKind prog w).is x e.2)=some j):x∈zDJ es:=by
 obtain⟨hj,hp,_⟩:=List.findIdx?_eq_some_iff_getElem.mp e;obtain⟨_,tk,e2⟩:=h es[j] (wHF hj);refine List.mem_map.mpr ⟨es[j],wHF hj,?_⟩;have q:(intKind prog w).is (numOf es[j].2) es[j].2=true:=by have:=intKind_is prog w (numOf es[j].2) tk;rw[← e2] at this;exact this
 exact (intKind prog w).inj _ _ _ q hp
def zIO {b:Bool} {s₁:Shared} {Q':Unit->Shared->Prop} (q:Q' PUnit.unit s₁):wpAny (model prog w) A (match b with | true=>rule "set.scan.the-table-gave-way" | false=>pure PUnit.unit) Q' E s₁:=by
 cases b
 ·exact wHk q
 exact wpAny_rule q
def zFz.store {h:Heap} {o:Obj} {es:Array (Int × Value)} {ep:Nat} {t:SetTable} (ho:h.get? a=some o) (hex:o.ExactSet) (hd:o.data=.set es ep t) {bH:Array (Int × Value)} {t':SetTable} {bE:List Int}
  (h1:EsI bH.toList) (h2:zDJ bH.toList=bE) (h3:bE.Nodup) (h4:bH.size < scanBound) (h5:t'.fits bH.size=true) (h6:Tab t' (!zBW w)) :
  (h.update a (Obj.putSet bH t')).get? a=some { o with data:=.set bH (ep+1) t' }/\zFz w (h.update a (Obj.putSet bH t')) a bE:=by
 have g:(h.update a (Obj.putSet bH t')).get? a=some { o with data:=.set bH (ep+1) t' }:=by
  have q:=wIb (Obj.putSet bH t') ho (by rw[putSet_of bH t' hd];rfl)
  rwa [putSet_of bH t' hd] at q
 exact⟨g,_,bH,ep+1,t',g,hex,rfl,h1,h2,h3,h4,h5,h6⟩
def zNS {x:Int} {tk:Tok} {ks:List Int} {Q:Bool->Shared->Prop} (hS:zFz w s.heap a ks) (room:ks.length+1 < scanBound)
  (h:∀(h':Heap) (bE:List Int) (b:Bool),Heap.SameBut a s.heap h'->zFz w h' a bE->(∀y,y∈bE↔y∈ks∨y=x)->bE.length<=ks.length+1->Q b { s with heap:=h' }) :
  wpAny (model prog w) A (setAddHashed a (.int x tk) (hashInt x)) Q E s:=by
 obtain⟨o,es,ep,t,ho,hex,hd,fZ,jQ,hnd,hb,hf,ht⟩:=id hS;have lk:ks.length=es.size:=by rw[← jQ];unfold zDJ;rw[wHf,wH3]
 unfold setAddHashed setAddHashedIn;refine wHZ (wHe (wpAny_setState_of ho hd hf ?_));dsimp only;rw[byScan_of (knd:=intKind prog w) (x:=.int x tk) rfl hb fZ.elems,wHl rfl];unfold setAddByScan;refine wHe (wHe (wpAny_rule (wHe (wpAny_setScan_of (knd:=intKind prog w) (k:=x) (intKind_is _ _ _ _) ho hd hf fZ.elems ?_))));cases hr:es.toList.findIdx? (λe=>(intKind prog w).is x e.2) with
 | some j=>
  have hx:x∈ks:=by rw[← jQ];exact zLm fZ hr
  refine wHk (wHk ?_);exact h s.heap ks false (Heap.SameBut.refl a s.heap) hS (λy=>⟨.inl,λz=>z.elim id λe=>e ▸ hx⟩) (Nat.le_succ _)
 | none=>
  have hx:x∉ks:=by rw[← jQ];exact zLn fZ hr
  dsimp only;have hp:=layNew_perm t es (hashInt x) (.int x tk);have bZ:=layNew_fits t es (hashInt x) (.int x tk);have dZ:=ht.layNew es (hashInt x) (.int x tk);show wpAny _ _ (match layNew t es (hashInt x) (.int x tk) with | (es,t,wasDummy,gave)=>_) _ _ s;generalize layNew t es (hashInt x) (.int x tk)=L at hp bZ dZ;obtain⟨aT,t1,dm,gv⟩:=L;dsimp only at hp bZ dZ ⊢;rw[Array.toList_push] at hp;have nr:EsI (es.toList++[(hashInt x,.int x tk)]):=λe he=>by
   rcases wIC he with z | z
   ·exact fZ e z
   rw[wIz z];exact⟨rfl,tk,rfl⟩
  have iD:EsI aT.toList:=nr.perm hp;have kp:(zDJ aT.toList).Perm (ks++[x]):=by have:=hp.map λe:Int × Value=>numOf e.2;rw[wHr] at this;rw[← jQ];exact this
  have hZ:(zDJ aT.toList).Nodup:=kp.nodup_iff.mpr (by rw[List.nodup_append];exact⟨hnd,by simp,λy hy z hz=>by rw[wIz hz];exact λe=>hx (e ▸ hy)⟩);have sz1:aT.size=es.size+1:=by rw[← wH3,hp.length_eq,wHp,wH3];rfl
  have bV:aT.size < scanBound:=by omega
  have fin:∀(h':Heap) (bE:List Int),Heap.SameBut a s.heap h'->zFz w h' a bE->bE.Perm (ks++[x])->Q true { s with heap:=h' }:=λh' bE h1 h2 h3=>
   h h' bE true h1 h2 (λy=>by rw[h3.mem_iff,List.mem_append,List.mem_singleton]) (by rw[h3.length_eq,wHp];exact wHm _)
  refine wHe (zIO ?_);have rest:∀t2:SetTable,t2.fits aT.size=true->Tab t2 (!zBW w)->wpAny (model prog w) A (do
    storeSet a aT t2
    if (!dm && t2.tooFull)=true then do
      (match (relayAll t2 aT (SetTable.grown aT.size)).2.2 with | true=>rule "set.scan.the-table-gave-way" | false=>pure PUnit.unit)
      storeSet a (relayAll t2 aT (SetTable.grown aT.size)).1 (relayAll t2 aT (SetTable.grown aT.size)).2.1
      pure (some true)
     else pure (some true)) (λr s'=>wpAny (model prog w) A (match r with | some added=>pure added | none=>setAddHashedIn a (.int x tk) (hashInt x) 99999) Q E s') E s:=λt2 f2 b2=>by
   refine wHe (wpAny_storeSet_of ho hd ?_ (fits_of_scanBound bV));obtain⟨g1,S1⟩:=zFz.store (w:=w) ho hex hd iD rfl hZ bV f2 b2;have sb1:=Heap.SameBut.update s.heap a (Obj.putSet aT t2)
   split
   ·have rp:=relayAll_perm t2 aT (SetTable.grown aT.size);have rf:=relayAll_fits t2 aT (SetTable.grown aT.size);have rt:=b2.relayAll aT (SetTable.grown aT.size);generalize relayAll t2 aT (SetTable.grown aT.size)=R at rp rf rt;obtain⟨es2,t3,g2⟩:=R;dsimp only at rp rf rt ⊢;have kp2:=rp.map λe:Int × Value=>numOf e.2;have sz2:es2.size=aT.size:=by rw[← wH3,rp.length_eq,wH3]
    refine wHe (zIO (wHe (wpAny_storeSet_of g1 rfl ?_ (fits_of_scanBound ∅))));obtain⟨_,S2⟩:=zFz.store (w:=w) g1 hex rfl (iD.perm rp) rfl (kp2.nodup_iff.mpr hZ) ∅ rf rt;exact wHk (wHk (fin _ _ (sb1.trans (Heap.SameBut.update _ a _)) S2 (kp2.trans kp)))
   exact wHk (wHk (fin _ _ sb1 S1 kp))
  split
  ·refine wHe ?_;rw[hashByValue_scannable 8 (x:=.int x tk) rfl];refine wHk ?_;exact rest _ bZ dZ
  refine wHe (wHk ?_);exact rest _ bZ dZ
end
section
variable {prog:Program} {w:World} {A:Around} {E:Value->Shared->Prop} {s:Shared}
abbrev zLR (w:World):Obj:={ cls:=.type "set",dict:=none,data:=.set #[] 0 (.fresh 0 0 (!zBW w)) }
def zNT {h:Heap} {a:Addr} (e:h.get? a=some (zLR w)):zFz w h a []:=
 ⟨_,#[],0,_,e,⟨rfl,rfl,rfl⟩,rfl,λe he=>by simp at he,rfl,List.nodup_nil,by decide,rfl,rfl,λ_=>⟨List.Pairwise.nil,rfl⟩⟩
def zNQ (a:Value) {Q₁:Value->Shared->Prop} (h:Q₁ (.ref s.heap.objs.size) { s with heap:=s.heap.push (zLR w) }) :
  codeAny (model prog w) A (.call (.builtin "set.__new__") ⟨[.type "set",a],[]⟩) (wants Q₁ E) s:=by
 refine codeAny_of_tree ?_;show wpAny _ A.in1 (do checkBuiltinCall "set.__new__" ⟨[.type "set",a],[]⟩;again (.builtin "set.__new__" ⟨[.type "set",a],[]⟩)) _ _ s;refine wHe (wpAny_of_eq (F.newCall_set_1 a) (wHk ⟨plainId_quiet F.plain_set_new _,codeAny_builtin F.entry_set_new ?_⟩));rw[Around.under_plainId F.plain_set_new _];unfold Builtin.«set.__new__» Builtin.Frozenset.newClass;have mD:=sub_set_self;obtain⟨hp,g,d,tk,os⟩:=s;dsimp only
 wp_walk
 refine wpAny_askSetting (wHk ?_);dsimp only;simp only[newObj];refine wHe (wpAny_alloc (wHk ?_));exact wHk h
def zLP {l it S:Addr} {items:Array Value} {ns:List Int} (hh:A.in1.handled=none) (hi:IntsAre items.toList ns) (hb:ns.length+1 < scanBound) (jO:l≠S) (hlI:l≠it) (nB:S≠it) {R:Result->Shared->Prop} :
  ∀(k i:Nat) (s:Shared) (ks:List Int),ns.length-i=k->i<=ns.length->s.heap.IsListIter it l i->s.heap.IsList l items->zFz w s.heap S ks->ks.length<=i->(∀y,y∈ks↔y∈ns.take i)->
   (∀(h':Heap) (tk:Nat) (bE:List Int),zFz w h' S bE->(∀y,y∈bE↔y∈ns)->bE.length<=ns.length->(∀b o,b≠S->b≠it->s.heap.get? b=some o->h'.get? b=some o)->R (.ok (.ret .none)) { s with heap:=h',toks:=tk })->
   codeAny (model prog w) A (.builtin "set.update.loop" ⟨[.ref S,.ref it],[]⟩) R s:=by
 intro k
 induction k with
 | zero=>
  intro i s ks e1 e2 h1 h2 h3 h4 h5 hR;have ei:i=ns.length:=by omega
  subst ei;refine codeAny_builtin F.entry_set_update_loop ?_;rw[Around.under_plainId F.plain_set_update_loop _];show wpAny _ A.in1 (pyNext (.ref it) >>= _) _ _ s;refine wHe (wpAny_pyNext_list_end hh h1 h2 (by have:=hi.length;simp at this;simp;omega) λh' eb=>?_);exact wHk (hR h' s.toks ks (h3.at λo q=>eb _ o nB q) (λy=>by rw[h5 y,wHL]) h4 λb o _ n2 q=>eb b o n2 q)
 | succ k ih=>
  intro i s ks e1 e2 h1 h2 h3 h4 h5 hR;have aF:i < ns.length:=by omega
  have eY:items.size=ns.length:=by have:=hi.length;simpa using this
  refine codeAny_builtin F.entry_set_update_loop ?_;rw[Around.under_plainId F.plain_set_update_loop _];show wpAny _ A.in1 (pyNext (.ref it) >>= _) _ _ s;obtain⟨t,hv⟩:∃t,items[i]?=some (.int (ns.getD i 0) t):=by have hg:items[i]?=some items[i]:=wH9 ∅;obtain⟨t,e⟩:=IntsAre.int_at hi i items[i] (by rw[wIr];exact hg);exact⟨t,by rw[hg,e]⟩
  refine wHe (wpAny_pyNext_list_item h1 h2 hv λh' nh sb=>?_);show wpAny _ A.in1 (holding [Value.int (ns.getD i 0) t] (setAdd S (.int (ns.getD i 0) t)) >>= _) _ _ _;refine wHe (wHZ ?_);unfold setAdd;refine wHZ (wHe ((intKind prog w).pyHash (k:=ns.getD i 0) (intKind_is _ _ _ _) ?_));refine zNS (w:=w) (ks:=ks) (h3.at λo q=>sb.extBut _ o nB q) ∅ λh2' bE b bM S2 mem len=>?_;refine wHk ⟨plainId_quiet F.plain_set_update_loop _,ih (i+1) _ bE ∅ aF (nh.extBut bM.extBut (Ne.symm nB)) ((h2.extBut sb.extBut hlI).extBut bM.extBut jO) S2 ∅ (λy=>?_) λh3' lI ks3 g1 g2 g3 g4=>?_⟩
  ·rw[mem y,h5 y,List.take_add_one,List.mem_append,wHh,wHg aF];simp
  exact hR h3' lI ks3 g1 g2 g3 λb o n1 n2 q=>g4 b o n1 n2 (bM.extBut b o n1 (sb.extBut b o n2 q))
set_option maxHeartbeats 3200000 in
theorem zMN {l:Addr} {items:Array Value} {ns:List Int} {Q:Value->Shared->Prop} (hh:A.handled=none) (hl:s.heap.IsList l items) (hi:IntsAre items.toList ns) (hb:ns.length+1 < scanBound)
  (h:∀(h':Heap) (tk:Nat) (ks:List Int),zFz w h' s.heap.objs.size ks->(∀y,y∈ks↔y∈ns)->ks.length<=ns.length->(∀b o,s.heap.get? b=some o->h'.get? b=some o)->Q (.ref s.heap.objs.size) { s with heap:=h',toks:=tk }) :
  wpAny (model prog w) A (call (.type "set") [.ref l]) Q E s:=by
 obtain⟨c,tl,hmro⟩:=F.called_set.mro;have hmade:=F.called_set.made;have mD:=F.called_set.sub;have h1:=F.called_set.notType;have h2:=F.called_set.canCreate;have hct:=F.typeCall_set_1 (.ref l);refine wpAny_call (codeAny_of_tree ?_);show wpAny _ _ (callAny (.type "set") _) _ _ _;refine wHk (And.intro (Code.quiet_builtin _ (by nofun)) (codeAny_builtin F.entry_type_call ?_));rw[Around.under_plain (weight_type_call_type "set" [.ref l] []) rfl]
 repeat (any_goals (first | assumption | wp_step))
 refine codeAny_mono (zNQ (.ref l) (E:=E) (Q₁:=λobj s₁=>obj=.ref s.heap.objs.size/\s₁={ s with heap:=s.heap.push (zLR w) }) ⟨rfl,rfl⟩) λr s₁ hr=>?_;cases r with
 | error e=>exact hr
 | ok fl=>
  cases fl with
  | ret obj=>
   obtain⟨rfl,rfl⟩:=hr;have hS:(s.heap.push (zLR w)).get? s.heap.objs.size=some (zLR w):=wHs _ rfl;have hT:Shared.TypeIs { s with heap:=s.heap.push (zLR w) } (.ref s.heap.objs.size) "set":=⟨_,hS,rfl⟩;have hli:=F.called_set.init.lookup;have hbi:=F.called_set.init.bind (.ref s.heap.objs.size)
   repeat (any_goals (first | assumption | wp_step))
   refine codeAny_mono (codeAny_call_builtin (R:=wants (λr s₂=>r=.none/\∃h' tk ks,s₂={ s with heap:=h',toks:=tk }/\zFz w h' s.heap.objs.size ks/\(∀y,y∈ks↔y∈ns)/\ks.length<=ns.length/\
     (∀b o,s.heap.get? b=some o->h'.get? b=some o)) E) F.called_set.init.plain F.entry_set_init (check_set_init_1 hT ?_)) λr₂ s₂ hr₂=>?_
   ·obtain⟨⟨ocls,gQ,odata,fz⟩,hol,hcl,nl,ff⟩:=hl;simp only at hcl ff;subst hcl;subst ff;have mI:(s.heap.push (zLR w)).get? l=some { cls:=.type "list",dict:=gQ,data:=.seq items nl,slots:=fz }:=wHi _ hol;have hsls:=F.sub_list_set;have hslf:=F.sub_list_frozenset;have aO:(Value.type "list" == Value.type "dict")=false:=by decide
    have mY:(s.heap.push (zLR w)).IsList l items:=⟨_,mI,rfl,nl,rfl⟩;unfold Builtin.«set.__init__» noKeywords Builtin.Frozenset.updateFrom;generalize hPI:pyIter=PI;wp_walk;subst hPI;refine wpAny_pyIter_list mY (wHe (wpAny_runValue ?_));have jO:l < s.heap.objs.size:=wHq hol;have z1:(s.heap.push (zLR w)).objs.size=s.heap.objs.size+1:=wIa ..;refine zLP (w:=w) (items:=items) (ns:=ns) (by simp[hh]) hi hb (wHu jO) (by rw[z1];exact wHu (wIf jO)) (by rw[z1];exact wHu (wIh _)) ns.length 0 _ [] ∅ (wHQ _)
     ⟨_,wHs _ rfl,rfl,rfl⟩ (mY.push _) (zNT (wHi _ hS)) (wHm _) (λy=>by simp) λh' tk ks g1 g2 g3 g4=>?_
    refine wHk (wHk ⟨rfl,h',tk,ks,rfl,g1,g2,g3,λb o q=>?_⟩);have hb:=wHq q;exact g4 b o (wHu hb) (by rw[z1];exact wHu (wIf hb)) (wHi _ (wHi _ q))
   cases r₂ with
   | error e=>exact hr₂
   | ok fl₂=>
    cases fl₂ with
    | ret r=>
     obtain⟨rfl,h',tk,ks,rfl,g1,g2,g3,g4⟩:=hr₂
     repeat (any_goals (first | assumption | wp_step))
     exact h h' tk ks g1 g2 g3 g4
    | _=>exact hr₂.elim
  | _=>exact hr.elim
end
abbrev zRp:=Array (Nat × Nat × Nat)
def SIn (xs:Array Keyed) (lo hi:Nat):Prop:=∀i j,lo<=i->i<=j->j < hi->K xs i<=K xs j
structure SB (a₀ b:Array Keyed) (lo:Nat) (pd:zRp) (st:SortSt):Prop where
 perm:(arrOf st).Perm a₀
 kind:kindOf st=oneType'
 failed:failedOf st=none
 pend:pendingOf st=pd
 blw:∀k,k < lo->K (arrOf st) k=K b k
section
variable {a₀ b:Array Keyed} {lo:Nat} {pd:zRp} {st:SortSt}
def SB.sz (h:SB a₀ b lo pd st):(arrOf st).size=a₀.size:=h.perm.size_eq
def SB.set (h:SB a₀ b lo pd st) {xs:Array Keyed} (hp:xs.Perm (arrOf st)) (hb:∀k,k < lo->K xs k=K (arrOf st) k):SB a₀ b lo pd (setArr st xs):=
 ⟨hp.trans h.perm,h.kind,h.failed,h.pend,λk hk=>(hb k hk).trans (h.blw k hk)⟩
end
def zKN (a b o:Array Keyed) (i j:Nat):=o++a.extract i a.size++b.extract j b.size
def zKO (a b o:Array Keyed) (i j:Nat):=o++b.extract j b.size++a.extract i a.size
def Pw (l:List Keyed):Prop:=l.Pairwise λp q=>numOf p.1<=numOf q.1
structure MI (S o la lb:List Keyed):Prop where
 pa:Pw (o++la)
 pb:Pw (o++lb)
 pm:(o++la++lb).Perm S
def MI.swap {S o la lb:List Keyed} (h:MI S o la lb):MI S o lb la:=
 ⟨h.pb,h.pa,(by rw[wHU,wHU];exact List.Perm.append_left _ List.perm_append_comm:(o++lb++la).Perm (o++la++lb)).trans h.pm⟩
def MI.takeB {S o la p lb:List Keyed} (h:MI S o la (p++lb)) (hp:∀x∈p,∀y∈la,numOf x.1<=numOf y.1):MI S (o++p) la lb:=by
 refine⟨?_,by rw[wHU];exact h.pb,?_⟩
 ·have h1:=List.pairwise_append.mp h.pa;have h2:=List.pairwise_append.mp h.pb;have h3:=List.pairwise_append.mp h2.2.1;refine List.pairwise_append.mpr ⟨List.pairwise_append.mpr ⟨h1.1,h3.1,λx hx y hy=>h2.2.2 x hx y (List.mem_append_left _ hy)⟩,h1.2.1,λx hx y hy=>?_⟩;rcases wIC hx with hx | hx
  ·exact h1.2.2 x hx y hy
  exact hp x hx y hy
 refine List.Perm.trans ?_ h.pm;rw[wHU,wHU,wHU];refine List.Perm.append_left _ ?_;rw[← wHU,← wHU];exact List.Perm.append_right _ List.perm_append_comm
def MI.takeA {S o lb p la:List Keyed} (h:MI S o (p++la) lb) (hp:∀x∈p,∀y∈lb,numOf x.1<=numOf y.1):MI S (o++p) la lb:=(h.swap.takeB hp).swap
def Pw.sub {l l':List Keyed} (h:Pw l) (q:l'.Sublist l):Pw l':=List.Pairwise.sublist q h
def SIn.pw {xs:Array Keyed} (h:SIn xs 0 xs.size):Pw xs.toList:=by
 refine List.pairwise_iff_getElem.mpr λi j hi hj ij=>?_;have aU:i < xs.size:=by simpa using hi
 have iC:j < xs.size:=by simpa using hj
 have:=h i j (wHQ _) (wIm ij) iC;rw[K_eq aU,K_eq iC] at this;simpa using this
def zDt (xs:Array Keyed) (i:Nat):(xs.extract i xs.size).toList=xs.toList.drop i:=by rw[Array.toList_extract,List.extract_eq_take_drop];exact wIk (by simp)
def zFF {xs:Array Keyed} {i:Nat} {y:Keyed} (h:y∈xs.toList.drop i):∃j,i<=j/\j < xs.size/\numOf y.1=K xs j:=by
 obtain⟨k,hk,e⟩:=List.mem_iff_getElem.mp h;have aY:i+k < xs.size:=by rw[wIj] at hk;simp at hk;omega
 refine⟨i+k,by omega,aY,?_⟩;rw[K_eq aY,← e];simp
section
variable {S:List Keyed} {a b o:Array Keyed} {i j:Nat}
abbrev LI (S:List Keyed) (a b o:Array Keyed) (i j:Nat):Prop:=MI S o.toList (a.toList.drop i) (b.toList.drop j)
def Gd (S:List Keyed) (r:Array Keyed):Prop:=r.toList.Perm S/\Pw r.toList
def LI.rest (h:LI S a b o i j) (e:b.size<=j):Gd S (zKN a b o i j):=by
 have z:b.toList.drop j=[]:=List.drop_eq_nil_of_le (by simpa using e);have w:(zKN a b o i j).toList=o.toList++a.toList.drop i++b.toList.drop j:=by unfold zKN;rw[wIo,wIo,zDt,zDt]
 refine⟨w ▸ h.pm,?_⟩;rw[w,z,wHR];exact h.pa
def LI.last (h:LI S a b o i j) (y:∀q,q < b.size->K b q<=K a i) (sa:SIn a 0 a.size):Gd S (zKO a b o i j):=by
 have w:(zKO a b o i j).toList=o.toList++b.toList.drop j++a.toList.drop i:=by unfold zKO;rw[wIo,wIo,zDt,zDt]
 have h':MI S o.toList (a.toList.drop i) (b.toList.drop j++[]):=by rw[wHR];exact h
 have h2:=h'.takeB λx hx z hz=>by obtain⟨q,q1,q2,q3⟩:=zFF hx;obtain⟨k,k1,k2,k3⟩:=zFF hz;rw[k3,q3];exact Int.le_trans (y q q2) (sa i k (wHQ _) k1 k2)
 exact⟨w ▸ h.swap.pm,w ▸ h2.pa⟩
end
def KS (st t:SortSt):Prop:=kindOf t=kindOf st/\arrOf t=arrOf st/\pendingOf t=pendingOf st/\failedOf t=failedOf st
def KS.g {st t:SortSt} (h:KS st t) (n:Nat):KS st (SortSt.mk' (kindOf t) (arrOf t) (pendingOf t) n (failedOf t)):=h
def zLd (a b o:Array Keyed) (i j:Nat):=a.extract 0 i++b.extract 0 j++o.reverse
def zIl (a b o:Array Keyed) (i j:Nat):=b.extract 0 j++a.extract 0 i++o.reverse
structure MH (S la lb r:List Keyed):Prop where
 pa:Pw (la++r)
 pb:Pw (lb++r)
 pm:(la++lb++r).Perm S
def MH.swap {S la lb r:List Keyed} (h:MH S la lb r):MH S lb la r:=⟨h.pb,h.pa,(List.Perm.append_right _ List.perm_append_comm).trans h.pm⟩
def MH.takeB {S la lb p r:List Keyed} (h:MH S la (lb++p) r) (hp:∀x∈la,∀y∈p,numOf x.1<=numOf y.1):MH S la lb (p++r):=by
 refine⟨?_,by rw[← wHU];exact h.pb,?_⟩
 ·have h1:=List.pairwise_append.mp h.pa;have h2:=List.pairwise_append.mp h.pb;have h3:=List.pairwise_append.mp h2.1;refine List.pairwise_append.mpr ⟨h1.1,List.pairwise_append.mpr ⟨h3.2.1,h1.2.1,λx hx y hy=>h2.2.2 x (wHI _ hx) y hy⟩,λx hx y hy=>?_⟩;rcases wIC hy with hy | hy
  ·exact hp x hx y hy
  exact h1.2.2 x hx y hy
 have e:la++lb++(p++r)=la++(lb++p)++r:=by simp only[wHU]
 rw[e];exact h.pm
def MH.takeA {S la lb p r:List Keyed} (h:MH S (la++p) lb r) (hp:∀x∈lb,∀y∈p,numOf x.1<=numOf y.1):MH S la lb (p++r):=(h.swap.takeB hp).swap
def zEp (xs:Array Keyed) (i:Nat):(xs.extract 0 i).toList=xs.toList.take i:=by rw[Array.toList_extract,List.extract_eq_take_drop];simp
def zFE {xs:Array Keyed} {i:Nat} {y:Keyed} (h:y∈xs.toList.take i):∃j,j < i/\j < xs.size/\numOf y.1=K xs j:=by
 obtain⟨k,hk,e⟩:=List.mem_iff_getElem.mp h;have aY:k < i/\k < xs.size:=by rw[wHD] at hk;simp at hk;omega
 refine⟨k,aY.1,aY.2,?_⟩;rw[K_eq aY.2,← e];simp
section
variable {S:List Keyed} {a b o:Array Keyed} {i j:Nat}
abbrev HI (S:List Keyed) (a b o:Array Keyed) (i j:Nat):Prop:=MH S (a.toList.take i) (b.toList.take j) o.toList.reverse
def HI.rest (h:HI S a b o i j) (e:i=0):Gd S (zLd a b o i j):=by
 subst e;have w:(zLd a b o 0 j).toList=a.toList.take 0++b.toList.take j++o.toList.reverse:=by unfold zLd;rw[wIo,wIo,zEp,zEp,Array.toList_reverse]
 refine⟨w ▸ h.pm,?_⟩;rw[w];exact h.pb
def HI.first (h:HI S a b o i j) (y:∀q r,q < j->q < b.size->r < i->r < a.size->K b q<=K a r):Gd S (zIl a b o i j):=by
 have w:(zIl a b o i j).toList=b.toList.take j++a.toList.take i++o.toList.reverse:=by unfold zIl;rw[wIo,wIo,zEp,zEp,Array.toList_reverse]
 have h':MH S ([]++a.toList.take i) (b.toList.take j) o.toList.reverse:=h;have h2:=h'.takeA λx hx z hz=>by obtain⟨q,q1,q2,q3⟩:=zFE hx;obtain⟨k,k1,k2,k3⟩:=zFE hz;rw[k3,q3];exact y q k q1 q2 k1 k2
 refine⟨w ▸ h.swap.pm,?_⟩;rw[w,wHU];exact h2.pb
end
def zG6 (xs:Array Keyed):Nat->List (Nat × Nat × Nat)->Nat->Prop
 | lo,[],hi=>lo=hi
 | lo,p::r,hi=>p.1=lo/\1<=p.2.1/\SIn xs lo (lo+p.2.1)/\zG6 xs (lo+p.2.1) r hi
theorem zG6.le {xs:Array Keyed}:∀{lo:Nat} {l:List (Nat × Nat × Nat)} {hi:Nat},zG6 xs lo l hi->lo+l.length<=hi
 | _,[],_,h=>wIx h
 | _,_::_,_,h=>by have:=zG6.le h.2.2.2;have:=h.2.1;rw[wIe];omega
theorem zG6.split {xs:Array Keyed}:∀{l r:List (Nat × Nat × Nat)} {lo hi:Nat},zG6 xs lo (l++r) hi->∃m,zG6 xs lo l m/\zG6 xs m r hi
 | [],_,lo,_,h=>⟨lo,rfl,h⟩
 | _::_,_,_,_,h=>let ⟨m,h1,h2⟩:=zG6.split h.2.2.2;⟨m,⟨h.1,h.2.1,h.2.2.1,h1⟩,h2⟩
theorem zG6.join {xs:Array Keyed}:∀{l r:List (Nat × Nat × Nat)} {lo m hi:Nat},zG6 xs lo l m->zG6 xs m r hi->zG6 xs lo (l++r) hi
 | [],_,_,_,_,h,g=>by cases (h:_=_);exact g
 | _::_,_,_,_,_,h,g=>⟨h.1,h.2.1,h.2.2.1,zG6.join h.2.2.2 g⟩
def SIn.congr {xs ys:Array Keyed} {lo hi:Nat} (h:SIn xs lo hi) (e:∀k,lo<=k->k < hi->K ys k=K xs k):SIn ys lo hi:=λi j h1 h2 h3=>by rw[e i h1 ∅,e j ∅ h3];exact h i j h1 h2 h3
def zG6.congr {xs ys:Array Keyed}:∀{lo:Nat} {l:List (Nat × Nat × Nat)} {hi:Nat},zG6 xs lo l hi->(∀k,lo<=k->k < hi->K ys k=K xs k)->zG6 ys lo l hi
 | _,[],_,h,_=>h
 | _,_::_,_,h,e=>by have:=zG6.le h.2.2.2;exact⟨h.1,h.2.1,h.2.2.1.congr λk k1 k2=>e k k1 ∅,h.2.2.2.congr λk k1 k2=>e k ∅ k2⟩
def zQ0 {xs:Array Keyed} {m n q:Nat} (h:m+q < n) (hn:n<=xs.size):K (xs.extract m n) q=K xs (m+q):=by refine K_congr ?_;rw[Array.getElem?_extract,wHl ∅]
theorem SIn.ext {xs:Array Keyed} {m n:Nat} (h:SIn xs m n) (hn:n<=xs.size):SIn (xs.extract m n) 0 (xs.extract m n).size:=λi j _ ij hj=>by
 have z:(xs.extract m n).size=n-m:=by rw[Array.size_extract];omega
 rw[z] at hj;rw[zQ0 ∅ hn,zQ0 ∅ hn];exact h _ _ ∅ ∅ ∅
theorem zGe {α:Type}:∀{l:List α} {i:Nat} {x:α},l[i]?=some x->(x::l.eraseIdx i).Perm l
 | [],i,x,h=>by simp at h
 | a::l,0,x,h=>by
  obtain rfl:a=x:=by simpa using h
  exact List.Perm.refl _
 | a::l,i+1,x,h=>by have:=zGe (l:=l) (i:=i) (x:=x) (by simpa using h);exact (List.Perm.swap a x _).trans (this.cons a)
theorem zKw {α:Type} (f:Nat->Nat):∀(aN k:Nat) (l:List α) (out:Array α),l.length<=aN->(pickOrder.go f aN k l out).toList.Perm (out.toList++l)
 | 0,k,l,out,h=>by obtain rfl:l=[]:=List.length_eq_zero_iff.mp ∅;show out.toList.Perm (out.toList++[]);rw[wHR]
 | aN+1,k,l,out,h=>by
  show (match l[f k%l.length]? with | some x=>pickOrder.go f aN (k+1) (l.eraseIdx (f k%l.length)) (out.push x) | none=>out).toList.Perm (out.toList++l);cases e:l[f k%l.length]? with
  | some x=>
   have hi:f k%l.length < l.length:=(wIy e).1;refine (zKw f aN (k+1) _ _ (by rw[List.length_eraseIdx_of_lt hi];omega)).trans ?_;rw[Array.toList_push,wHU];exact List.Perm.append_left _ (zGe e)
  | none=>
   have:l=[]:=by
    rcases Nat.eq_zero_or_pos l.length with z | z
    ·exact List.length_eq_zero_iff.mp z
    exact absurd (List.getElem?_eq_none_iff.mp e) (Nat.not_le.mpr (Nat.mod_lt _ z))
   subst this;show out.toList.Perm (out.toList++[]);rw[wHR]
theorem zEE {α:Type} (f:Nat->Nat) (xs:Array α):(pickOrder f xs).toList.Perm xs.toList:=by have:=zKw f xs.size 0 xs.toList #[] (by simp);show (pickOrder.go f xs.size 0 xs.toList #[]).toList.Perm xs.toList;simpa using this
section
variable {prog:Program} {w:World} {A:Around} {E:Value->Shared->Prop} {s:Shared}
def zJF {src:Source} {n:Nat} {Q:Nat->Shared->Prop} (hn:n≠0) (h:∀i d,i < n->Q i { s with drawn:=d }):wpAny (model prog w) A (choose src n) Q E s:=
 λΓ p hΓ=>⟨hn,h _ _ (Nat.mod_lt _ (Nat.pos_of_ne_zero hn))⟩
theorem zJE {α:Type}:∀(n:Nat) (l:List α) (s:Shared) {Q:List α->Shared->Prop},l.length<=n->(∀r d,r.Perm l->Q r { s with drawn:=d })->wpAny (model prog w) A (drawOrder n l) Q E s
 | 0,l,s,Q,h,q=>by obtain rfl:l=[]:=List.length_eq_zero_iff.mp ∅;exact wHk (q [] s.drawn (List.Perm.refl _))
 | n+1,[],s,Q,h,q=>wHk (q [] s.drawn (List.Perm.refl _))
 | n+1,a::l,s,Q,h,q=>by show wpAny _ _ (do let i ← choose .order (a::l).length;match (a::l)[i]? with | some x=>(return x::(← drawOrder n ((a::l).eraseIdx i))) | none=>unsupported "internal:drawOrder") _ _ s;refine wHe (zJF (by simp) λi d hi=>?_);have e:=wHg hi;rw[e];refine wHe (zJE n _ _ (by rw[List.length_eraseIdx_of_lt hi];simp only[wIe] at h ⊢;omega) λr d' hr=>wHk (q _ _ ((hr.cons _).trans (zGe e))))
end
def zFy:entryFor table "set.__iter__"=some Builtin.«frozenset.__iter__»:=
 entryFor_alias (id':="frozenset.__iter__") (by kernel_rfl) rfl (by nofun) (by kernel_rfl)
def zAH:Slot "set_iterator" "__next__" "set_iterator.__next__":=.of (owner:="set_iterator") (n:="__next__") (by rw[typeLookup_type,builtinLookup_eq_fast];kernel_rfl) (by nofun) (by nofun) (by nofun) (by first | exact .inl (by nofun) | exact .inr (by nofun)) (by rw[isSubtype_type];kernel_rfl)
def zDs:entryFor table "set_iterator.__next__"=some Builtin.«set_iterator.__next__»:=entryFor_of_fast (by kernel_rfl)
def zEc (a:Value):argsOk "set_iterator.__next__" ⟨[a],[]⟩:=by unfold argsOk;kernel_rfl
def zDO:Slot "set_iterator" "__iter__" "set_iterator.__iter__":=.of (owner:="set_iterator") (n:="__iter__") (by rw[typeLookup_type,builtinLookup_eq_fast];kernel_rfl) (by nofun) (by nofun) (by nofun) (by first | exact .inl (by nofun) | exact .inr (by nofun)) (by rw[isSubtype_type];kernel_rfl)
def zGr:entryFor table "set_iterator.__iter__"=some Builtin.«dict_keyiterator.__iter__»:=
 entryFor_alias (id':="dict_keyiterator.__iter__") (by kernel_rfl) rfl (by nofun) (by kernel_rfl)
def zH1 (a:Value):argsOk "set_iterator.__iter__" ⟨[a],[]⟩:=by unfold argsOk;kernel_rfl
def zF6 (a:Addr) (slot given ep0:Nat):setNext a slot given ep0=(do
 let (es,epoch,t) ← setState a
 if ← setsByText then
  if epoch != ep0 then unsupported "set_iterator.__next__:elements-changed"
  return ((← setWalk a)[given]?).map λe=>(e.2,slot)
 if !t.plain && decide (es.size > 1) then unsupported "set_iterator.__next__:the-table-is-plain-no-more"
 (if !t.led && !es.isEmpty then unsupported "set:maker-not-led" else pure PUnit.unit:Sem Unit)
 return match es[SetTable.below t.place slot]?,t.place[SetTable.below t.place slot]? with
  | some (_,x),some j=>some (x,j+1)
  | _,_=>none):=rfl
def zJc (a:Addr):setWalk a=(do
 let (es,epoch,t) ← setState a
 if ← setsByText then return pickOrder ((← ask).params.setOrder a epoch) es
 if !t.plain && decide (es.size > 1) then return (← drawOrder es.size es.toList).toArray
 (if !t.led && decide (es.size > 1) then unsupported "set:maker-not-led" else pure PUnit.unit:Sem Unit)
 return es):=rfl
def zHG (a:Addr):setDrawn a=(do
 let (es,_,t) ← setState a
 let zBW ← setsByText
 return !zBW && (!t.plain && decide (es.size > 1))):=rfl
section
variable {prog:Program} {w:World} {A:Around} {E:Value->Shared->Prop} {s:Shared} {a:Addr} {o:Obj} {es:Array (Int × Value)} {ep:Nat} {t:SetTable}
def zCW {Q:Bool->Shared->Prop} (h:Q (zBW w) s):wpAny (model prog w) A setsByText Q E s:=by unfold setsByText;exact wHe (wpAny_askSetting (wHk h))
def zEq {slot i:Nat} {Q:Option (Value × Nat)->Shared->Prop} (ho:s.heap.get? a=some o) (hd:o.data=.set es ep t) (hf:t.fits es.size=true) (hb:zBW w=true)
  (h:Q (((pickOrder (w.params.setOrder a ep) es)[i]?).map λe=>(e.2,slot)) s):wpAny (model prog w) A (setNext a slot i ep) Q E s:=by
 rw[zF6];refine wHe (wpAny_setState_of ho hd hf (wHe (zCW ?_)));rw[hb];simp only[if_true,bne_self_eq_false,Bool.false_eq_true,if_false];rw[zJc];refine wHe (wHe (wpAny_setState_of ho hd hf (wHe (zCW ?_))));rw[hb];simp only[if_true];exact wHe (wpAny_askSetting (wHk (wHk h)))
def zDN {slot i:Nat} {Q:Option (Value × Nat)->Shared->Prop} (ho:s.heap.get? a=some o) (hd:o.data=.set es ep t) (hf:t.fits es.size=true) (hb:zBW w=false)
  (hp:(!t.plain && decide (es.size > 1))=false) (hl:t.led=true) (hs:SetTable.below t.place slot=i)
  (h:Q (match es[i]?,t.place[i]? with | some (_,x),some j=>some (x,j+1) | _,_=>none) s) {j:Nat}:wpAny (model prog w) A (setNext a slot j ep) Q E s:=by
 rw[zF6];refine wHe (wpAny_setState_of ho hd hf (wHe (zCW ?_)));rw[hb];dsimp only;rw[hp,hl,hs];simp only[Bool.false_eq_true,if_false,Bool.not_true,Bool.false_and];exact wHe (wHk (wHk h))
def zG7 {p:Nat} {x:Int × Value} {Q:Value->Shared->Prop} (ho:s.heap.get? a=some o) (hd:o.data=.set es ep t) (hf:t.fits es.size=true) (hx:es[p]?=some x)
  (h:Q x.2 s):wpAny (model prog w) A (setNextDrawn a p ep) Q E s:=by
 unfold setNextDrawn;refine wHe (wpAny_setState_of ho hd hf ?_);simp only[bne_self_eq_false,Bool.false_eq_true,if_false];rw[hx];exact wHk h
end
def zFi (w:World) (fp:List Addr) (h:Heap) (it S:Addr) (vs:List Value) (i:Nat):Prop:=
 ∃o es ep t first,h.get? S=some o/\o.data=.set es ep t/\t.fits es.size=true/\vs.length=es.size/\
  h.get? it=some { cls:=.type "set_iterator",dict:=none,data:=.fields #[first,rawInt i,.ref S,rawInt es.size,rawInt ep],slots:=#[] }/\
  ((zBW w=true/\(∃k:Nat,first=rawInt k)/\vs=(pickOrder (w.params.setOrder S ep) es).toList.map (·.2))∨
   (zBW w=false/\(!t.plain && decide (es.size > 1))=false/\t.led=true/\zEj t.place.toList/\(∃k:Nat,first=rawInt k/\SetTable.below t.place k=i)/\vs=es.toList.map (·.2))∨
   (∃(T:Addr) (ot:Obj) (pl:List Nat) (n:Nat),first=.ref T/\T∈fp/\T≠it/\h.get? T=some ot/\ot.data=.seq (pl.map λ(p:Nat)=>rawInt p).toArray n/\pl.length=es.size/\(∀p∈pl,p < es.size)/\vs=pl.map λp=>(es[p]?.map (·.2)).getD .none))
def zFi.frame {w:World} {fp:List Addr} {h h':Heap} {it S:Addr} {vs:List Value} {i:Nat} (x:zFi w fp h it S vs i) (hS:S∈fp) (hi:it∈fp) (k:∀b∈fp,∀o,h.get? b=some o->h'.get? b=some o):zFi w fp h' it S vs i:=by
 obtain⟨o,es,ep,t,first,e1,e2,e3,e4,e5,e6⟩:=x;refine⟨o,es,ep,t,first,k _ hS _ e1,e2,e3,e4,k _ hi _ e5,?_⟩;rcases e6 with e6 | e6 | ⟨T,ot,pl,n,f1,f2,f3,f4,f5⟩
 ·exact .inl e6
 ·exact .inr (.inl e6)
 exact .inr (.inr ⟨T,ot,pl,n,f1,f2,f3,k _ f2 _ f4,f5⟩)
def zFi.typeIs {w:World} {fp:List Addr} {s:Shared} {it S:Addr} {vs:List Value} {i:Nat} (x:zFi w fp s.heap it S vs i):s.TypeIs (.ref it) "set_iterator":=
 by
 obtain⟨_,_,_,_,_,_,_,_,_,e5,_⟩:=x;exact⟨_,e5,rfl⟩
def zJ3 {xs:Array Nat} {i:Nat} (h:zEj xs.toList) (hi:i < xs.size):SetTable.below xs (xs[i]+1)=i+1:=by
 have c:=zFd (j:=xs[i]+1) h;generalize SetTable.below xs (xs[i]+1)=b at c;rcases Nat.lt_trichotomy b (i+1) with q | q | q
 ·have:=c.hi i hi ∅;omega
 ·exact q
 have z:i+1 < xs.size:=by have:=c.le;omega
 have a1:=c.lo (i+1) z q;have a2:=zEn h (show i < i+1 by omega) z;omega
def zJ2 {xs:Array Nat} (h:zEj xs.toList):SetTable.below xs 0=0:=by
 have c:=zFd (j:=0) h;generalize SetTable.below xs 0=b at c;rcases Nat.eq_zero_or_pos b with q | q
 ·exact q
 have:=c.lo 0 (by have:=c.le;omega) q;omega
section
variable {s:Shared} {it:Addr}
def zF3 (it:Addr):Builtin.«set_iterator.__next__» ⟨[.ref it],[]⟩=(do
 let [first,.int i _,s,.int size _,.int epoch _]:=(← fieldsOf (.ref it)).toList | unsupported "internal:set_iterator"
 let .ref a:=s | rule "set_iterator.__next__.exhausted-before";raiseNew (← newExc (.type "StopIteration") [])
 if ((← setEntries a).size:Int) != size then
  rule "set_iterator.__next__.size-changed"
  setField (.ref it) 3 (rawInt (-1))
  raiseError "RuntimeError" "Set changed size during iteration"
 if let .int slot _:=first then
  match ← setNext a slot.toNat i.toNat epoch.toNat with
  | some (x,next)=>
   setField (.ref it) 0 (rawInt next)
   setField (.ref it) 1 (rawInt (i+1))
   ret x
  | none=>setField (.ref it) 2 .none;raiseNew (← newExc (.type "StopIteration") [])
 else
  let some places ← seqItems? first | unsupported "internal:set_iterator"
  match places[i.toNat]? with
  | some (.int place _)=>
   let x ← setNextDrawn a place.toNat epoch.toNat
   setField (.ref it) 1 (rawInt (i+1))
   ret x
  | some _=>unsupported "internal:set_iterator"
  | none=>setField (.ref it) 0 (rawInt 0);setField (.ref it) 2 .none;raiseNew (← newExc (.type "StopIteration") [])):=rfl
end
abbrev zJa (f i r n e:Value):Obj:={ cls:=.type "set_iterator",dict:=none,data:=.fields #[f,i,r,n,e],slots:=#[] }
section
variable {prog:Program} {w:World} {A:Around} {E:Value->Shared->Prop} {s:Shared} {it S:Addr} {vs:List Value} {fp:List Addr}
def zD1 {a:Addr} {o:Obj} {es:Array (Int × Value)} {ep:Nat} {t:SetTable} {Q:Array (Int × Value)->Shared->Prop} (ho:s.heap.get? a=some o) (hd:o.data=.set es ep t) (hf:t.fits es.size=true) (h:Q es s) :
  wpAny (model prog w) A (setEntries a) Q E s:=by
 unfold setEntries;exact wHe (wpAny_setState_of ho hd hf (wHk h))
def zJU {f i r n e x:Value} {Q:Unit->Shared->Prop} (ho:s.heap.get? it=some (zJa f i r n e)) (h:∀h',h'.get? it=some (zJa x i r n e)->Heap.SameBut it s.heap h'->Q PUnit.unit { s with heap:=h' }):wpAny (model prog w) A (setField (.ref it) 0 x) Q E s:=
 wpAny_setField_rec ho (by simp) h
def zJT {f i r n e x:Value} {Q:Unit->Shared->Prop} (ho:s.heap.get? it=some (zJa f i r n e)) (h:∀h',h'.get? it=some (zJa f x r n e)->Heap.SameBut it s.heap h'->Q PUnit.unit { s with heap:=h' }):wpAny (model prog w) A (setField (.ref it) 1 x) Q E s:=
 wpAny_setField_rec ho (by simp) h
def zJS {f i r n e x:Value} {Q:Unit->Shared->Prop} (ho:s.heap.get? it=some (zJa f i r n e)) (h:∀h',h'.get? it=some (zJa f i x n e)->Heap.SameBut it s.heap h'->Q PUnit.unit { s with heap:=h' }):wpAny (model prog w) A (setField (.ref it) 2 x) Q E s:=
 wpAny_setField_rec ho (by simp) h
def zNH {i:Nat} {v:Value} {Q:Option Value->Shared->Prop} (x:zFi w fp s.heap it S vs i) (aO:S≠it) (hS:S∈fp) (hi:it∈fp) (e:vs[i]?=some v)
  (hQ:∀h',zFi w fp h' it S vs (i+1)->Heap.ExtBut it s.heap h'->Q (some v) { s with heap:=h' }):wpAny (model prog w) A (pyNext (.ref it)) Q E s:=by
 have tp:=x.typeIs;obtain⟨o,es,ep,t,first,e1,e2,e3,e4,e5,e6⟩:=x;unfold pyNext;refine wHe (wpAny_attempt (wpAny_callSpecial?_slot (name:=Str.ofString "__next__") tp zAH (wpAny_call_entry zAH tp zDs ?_ (zEc _))));rw[zF3];refine wHe (wpAny_fieldsOf e5 rfl ?_);show wpAny _ _ (setEntries S >>= _) _ _ s;refine wHe (zD1 e1 e2 e3 ?_);rw[wHj (by simp)];have lt:i < es.size:=by rw[← e4];exact (wIy e).1
 rcases e6 with ⟨b,⟨k,rfl⟩,rfl⟩ | ⟨b,b2,b3,b4,⟨k,rfl,b5⟩,rfl⟩ | ⟨T,ot,pl,n,rfl,f1,f2,f3,f4,f5,f6,rfl⟩
 ·show wpAny _ _ (setNext S k i ep >>= _) _ _ s;have e':((pickOrder (w.params.setOrder S ep) es)[i]?).map (·.2)=some v:=by rw[wHn,wIr] at e;exact e
  obtain⟨y,y1,rfl⟩:=wIA e';refine wHe (zEq e1 e2 e3 b ?_);rw[y1];refine wHe (zJU e5 λh1 q1 k1=>wHe (zJT q1 λh2 q2 k2=>wHk ⟨_,rfl,wHk (hQ h2 ?_ ?_)⟩))
  ·exact⟨o,es,ep,t,_,k2.extBut _ _ aO (k1.extBut _ _ aO e1),e2,e3,e4,q2,.inl ⟨b,⟨k,rfl⟩,rfl⟩⟩
  exact λc ob hc q=>k2.extBut _ _ hc (k1.extBut _ _ hc q)
 ·show wpAny _ _ (setNext S k i ep >>= _) _ _ s;rw[wHn,wIr] at e;obtain⟨y,y1,rfl⟩:=wIA e;have pz:i < t.place.size:=by have:=e3;simp only[SetTable.fits,wHN,beq_iff_eq,decide_eq_true_eq] at this;omega
  refine wHe (zDN e1 e2 e3 b b2 b3 b5 ?_);rw[y1,wH9 pz];refine wHe (zJU e5 λh1 q1 k1=>wHe (zJT q1 λh2 q2 k2=>wHk ⟨_,rfl,wHk (hQ h2 ?_ ?_)⟩))
  ·exact⟨o,es,ep,t,_,k2.extBut _ _ aO (k1.extBut _ _ aO e1),e2,e3,e4,q2,.inr (.inl ⟨b,b2,b3,b4,⟨t.place[i]+1,rfl,zJ3 b4 pz⟩,rfl⟩)⟩
  exact λc ob hc q=>k2.extBut _ _ hc (k1.extBut _ _ hc q)
 show wpAny _ _ (seqItems? (.ref T) >>= _) _ _ s;refine wHe (wpAny_seqItems f3 f4 ?_);have li:i < pl.length:=by omega
 have g1:(pl.map λ(p:Nat)=>rawInt p).toArray[((i:Nat):Int).toNat]?=some (rawInt (pl[i]:Nat)):=by rw[wHS,List.getElem?_toArray,wHn,wHg li];rfl
 show wpAny _ _ (match (pl.map λ(p:Nat)=>rawInt p).toArray[((i:Nat):Int).toNat]? with | some (.int place _)=>_ | some _=>_ | none=>_) _ _ s;rw[g1];show wpAny _ _ (setNextDrawn S pl[i] ep >>= _) _ _ s;have lp:pl[i] < es.size:=f6 _ (wHF li);have g2:es[pl[i]]?=some es[pl[i]]:=wH9 lp;refine wHe (zG7 e1 e2 e3 g2 ?_);have g3:es[pl[i]].2=v:=by rw[wHn,wHg li] at e;have:=wHo e;dsimp only at this;rw[g2] at this;exact this
 rw[g3];refine wHe (zJT e5 λh2 q2 k2=>wHk ⟨_,rfl,wHk (hQ h2 ?_ ?_)⟩)
 ·exact⟨o,es,ep,t,_,k2.extBut _ _ aO e1,e2,e3,e4,q2,.inr (.inr ⟨T,ot,pl,n,rfl,f1,f2,k2.extBut _ _ f2 f3,f4,f5,f6,rfl⟩)⟩
 exact λc ob hc q=>k2.extBut _ _ hc q
def zFQ {Q:Option Value->Shared->Prop} (hh:A.handled=none) (hQ:∀h',(∀b ob,s.heap.get? b=some ob->h'.get? b=some ob)->Q none { s with heap:=h' }) :
  wpAny (model prog w) A.in1 (do raiseNew (← newExc (.type "StopIteration") []):Sem Fin) (λa s'=>∃v,a=.done (.ret v)/\wpAny (model prog w) A (pure (some v)) Q E s')
   (λe s'=>wpAny (model prog w) A (do if ← isInstance e (.type "StopIteration") then pure none else throw e) Q E s') s:=by
 refine wHe ?_;simp only[newExc,newTuple];refine wHe (wH0 ?_ (by size_fits));refine wHe (m:=firstArgMember _ _) (wpAny_of_eq (a:=Value.none) (by first | rfl | (simp only[firstArgMember];rfl)) ?_);refine wH0 ?_ (by size_fits);simp only[raiseNew];refine wHe (wpAny_handled ?_);rw[show A.in1.handled=none from hh];refine wHe (wHk (wpAny_throw ?_));refine wHe (wpAny_isInstance (T:="StopIteration") (b:=true) ⟨_,wHs _ rfl,rfl⟩ isSubtype_stop ?_);exact wHk (hQ _ λb ob q=>wHi _ (wHi _ q))
def zNI {Q:Option Value->Shared->Prop} (hh:A.handled=none) (x:zFi w fp s.heap it S vs vs.length) (hQ:∀h',Heap.ExtBut it s.heap h'->Q none { s with heap:=h' }):wpAny (model prog w) A (pyNext (.ref it)) Q E s:=by
 have tp:=x.typeIs;obtain⟨o,es,ep,t,first,e1,e2,e3,e4,e5,e6⟩:=x;unfold pyNext;refine wHe (wpAny_attempt (wpAny_callSpecial?_slot (name:=Str.ofString "__next__") tp zAH (wpAny_call_entry zAH tp zDs ?_ (zEc _))));rw[zF3];refine wHe (wpAny_fieldsOf e5 rfl ?_);show wpAny _ _ (setEntries S >>= _) _ _ s;refine wHe (zD1 e1 e2 e3 ?_);rw[wHj (by simp)];rcases e6 with ⟨b,⟨k,rfl⟩,rfl⟩ | ⟨b,b2,b3,b4,⟨k,rfl,b5⟩,rfl⟩ | ⟨T,ot,pl,n,rfl,f1,f2,f3,f4,f5,f6,rfl⟩
 ·show wpAny _ _ (setNext S k _ ep >>= _) _ _ s;refine wHe (zEq e1 e2 e3 b ?_);rw[Array.getElem?_eq_none (by rw[wHf];simp)];refine wHe (zJS e5 λh1 q1 k1=>?_);exact zFQ hh λh' k'=>hQ h' λc ob hc q=>k' _ _ (k1.extBut _ _ hc q)
 ·show wpAny _ _ (setNext S k _ ep >>= _) _ _ s;refine wHe (zDN e1 e2 e3 b b2 b3 b5 ?_);rw[Array.getElem?_eq_none (by rw[wHf];simp)];refine wHe (zJS e5 λh1 q1 k1=>?_);exact zFQ hh λh' k'=>hQ h' λc ob hc q=>k' _ _ (k1.extBut _ _ hc q)
 show wpAny _ _ (seqItems? (.ref T) >>= _) _ _ s;refine wHe (wpAny_seqItems f3 f4 ?_);have g1:(pl.map λ(p:Nat)=>rawInt p).toArray[(((pl.map λp=>(es[p]?.map (·.2)).getD .none).length:Nat):Int).toNat]?=none:=by rw[wHS,List.getElem?_toArray,wH8 (by simp)]
 show wpAny _ _ (match (pl.map λ(p:Nat)=>rawInt p).toArray[(((pl.map λp=>(es[p]?.map (·.2)).getD .none).length:Nat):Int).toNat]? with | some (.int place _)=>_ | some _=>_ | none=>_) _ _ s;rw[g1];refine wHe (zJU e5 λh0 q0 k0=>wHe (zJS q0 λh1 q1 k1=>?_));exact zFQ hh λh' k'=>hQ h' λc ob hc q=>k' _ _ (k1.extBut _ _ hc (k0.extBut _ _ hc q))
def zNG {i:Nat} {Q:Value->Shared->Prop} (x:zFi w fp s.heap it S vs i) (h:Q (.ref it) s):wpAny (model prog w) A (pyIter (.ref it)) Q E s:=by refine wpAny_pyIter_slot x.typeIs zDO (wpAny_call_entry zDO x.typeIs zGr ?_ (zH1 _));show wpAny _ _ (ret (.ref it)) _ _ s;exact wHk ⟨_,rfl,"set_iterator",_,x.typeIs,zAH.lookup,h⟩
def zLI (hh:A.handled=none) (aO:S≠it) (hS:S∈fp) (hi:it∈fp):Walks prog w A it fp [it] vs.length (λi v=>vs[i]?=some v) (λi h=>zFi w fp h it S vs i) where
 sub:=λb hb=>by rw[wIz hb];exact hi
 frame:=λ_ _ _ x k=>x.frame hS hi k
 item:=λi s Q E lt x hQ=>zNH x aO hS hi (wHg lt) λh' x' k=>hQ _ h' s.toks (wHg lt) x' λb o hb q=>k b o (λe=>hb (by simp[e])) q
 done:=λs Q E x hQ=>zNI hh x λh' k=>hQ h' s.toks λb o hb q=>k b o (λe=>hb (by simp[e])) q
 self:=λ_ _ _ _ x h=>zNG x h
end
section
variable {prog:Program} {w:World} {A:Around} {E:Value->Shared->Prop} {s:Shared} {S:Addr}
def EsI.ints:∀{l:List (Int × Value)},EsI l->IntsAre (l.map (·.2)) (zDJ l)
 | [],_=>.nil
 | e::l,h=>by obtain⟨_,tk,e2⟩:=h e (wH5 ..);have h':EsI l:=λx hx=>h x (wHP _ hx);show IntsAre (e.2::l.map (·.2)) (numOf e.2::zDJ l);rw[e2];exact .cons _ tk h'.ints
def zHc {l l':List (Int × Value)} (p:l.Perm l'):(zDJ l).Perm (zDJ l'):=p.map _
def zOk {es:Array (Int × Value)} {pl:List Nat} (p:pl.Perm (List.range es.size)):∃l:List (Int × Value),l.Perm es.toList/\(pl.map λp=>(es[p]?.map (·.2)).getD Value.none)=l.map (·.2):=by
 refine⟨pl.map λp=>es.getD p (0,.none),?_,?_⟩
 ·refine (p.map _).trans (List.Perm.of_eq ?_);refine List.ext_getElem (by simp) λi h1 h2=>?_;have hi:i < es.size:=by simpa using h1
  simp[hi]
 rw[List.map_map];refine List.map_congr_left λq hq=>?_;have:q < es.size:=List.mem_range.mp (p.mem_iff.mp hq);simp[this]
theorem zN8 {a:Addr} {o:Obj} {es:Array (Int × Value)} {ep:Nat} {t:SetTable} {Q:Nat->Shared->Prop} (ho:s.heap.get? a=some o) (hd:o.data=.set es ep t) (hf:t.fits es.size=true) (h:Q es.size s) :
  wpAny (model prog w) A (Builtin.Frozenset.sizeOf a) Q E s:=by
 unfold Builtin.Frozenset.sizeOf;exact wHe (zD1 ho hd hf (wHk h))
def zIT {a:Addr} {o:Obj} {es:Array (Int × Value)} {ep:Nat} {t:SetTable} {Q:Bool->Shared->Prop} (ho:s.heap.get? a=some o) (hd:o.data=.set es ep t) (hf:t.fits es.size=true)
  (h:Q (!zBW w && (!t.plain && decide (es.size > 1))) s):wpAny (model prog w) A (setDrawn a) Q E s:=by
 rw[zHG];exact wHe (wpAny_setState_of ho hd hf (wHe (zCW (wHk h))))
def zO9 (S:Addr):Builtin.«frozenset.__iter__» ⟨[.ref S],[]⟩=(do
 let n ← Builtin.Frozenset.sizeOf S
 let first ← if ← setDrawn S then newTuple ((← drawOrder n (List.range n)).map λ(i:Nat)=>rawInt i) else pure (rawInt 0)
 ret (← newFields "set_iterator" [first,rawInt 0,.ref S,rawInt n,rawInt (← setEpoch S)])):=rfl
def zMA {ks:List Int} {Q:Value->Shared->Prop} (x:zFz w s.heap S ks)
  (h:∀(h':Heap) d it vs ns fp,IntsAre vs ns->ns.Perm ks->zFi w fp h' it S vs 0->S∈fp->it∈fp->S≠it->(∀b∈fp,b < h'.objs.size)->(∀b∈fp,b=S∨s.heap.objs.size<=b)->(∀b o,s.heap.get? b=some o->h'.get? b=some o)->
   Q (.ref it) { s with heap:=h',drawn:=d }):wpAny (model prog w) A (pyIter (.ref S)) Q E s:=by
 obtain⟨o,es,ep,t,e1,e2,e3,e4,e5,e6,e7,e8,tab⟩:=x;have hT:s.TypeIs (.ref S) "set":=⟨o,e1,e2.1⟩;refine wpAny_pyIter_slot hT F.slot_set_iter (wpAny_call_entry F.slot_set_iter hT zFy ?_ (F.args_set_iter_1 _));rw[zO9];refine wHe (zN8 e1 e3 e8 (wHe (zIT e1 e3 e8 ?_)));have aF:=wHq e1;have plc:t.place.size=es.size:=by have:=e8;simp only[SetTable.fits,wHN,beq_iff_eq,decide_eq_true_eq] at this;exact this.1
 cases hb:zBW w with
 | true=>
  simp only[Bool.not_true,Bool.false_and,Bool.false_eq_true,if_false];refine wHe (wHk (wHe (wpAny_setEpoch_of e1 e3 e8 (wHe (wH0 (wHk ⟨_,rfl,"set_iterator",_,⟨_,wHs _ rfl,rfl⟩,zAH.lookup,?_⟩))))));refine h _ s.drawn s.heap.objs.size ((pickOrder (w.params.setOrder S ep) es).toList.map (·.2)) _ [S,s.heap.objs.size] (EsI.ints (e4.perm (zEE _ _))) (e5 ▸ zHc (zEE _ _)) ?_ (by simp) (by simp) (wHu aF) (λb hb=>?_) (λb hb=>by
    simp only[wId,wH4,or_false] at hb;rcases hb with rfl | rfl
    ·exact .inl rfl
    exact .inr (wHm _)) λb o q=>wHi _ q
  ·exact⟨o,es,ep,t,_,wHi _ e1,e3,e8,by rw[wHf,(zEE _ _).length_eq];simp,wHs _ rfl,.inl ⟨hb,⟨0,rfl⟩,rfl⟩⟩
  rw[wIa];simp only[wId,wH4,or_false] at hb;rcases hb with rfl | rfl
  ·exact wIf aF
  exact wIh _
 | false=>
  simp only[Bool.not_false,Bool.true_and];cases hp:(!t.plain && decide (es.size > 1)) with
  | false=>
   simp only[Bool.false_eq_true,if_false];refine wHe (wHk (wHe (wpAny_setEpoch_of e1 e3 e8 (wHe (wH0 (wHk ⟨_,rfl,"set_iterator",_,⟨_,wHs _ rfl,rfl⟩,zAH.lookup,?_⟩))))));have ris:zEj t.place.toList:=by
    cases aM:t.plain with
    | true=>exact (tab.rise aM).1
    | false=>
     rw[aM] at hp;have:es.size<=1:=by simpa using hp
     match hq:t.place.toList with
     | []=>exact List.Pairwise.nil
     | [a]=>exact List.pairwise_singleton _ _
     | a::b::r=>
      have:=congrArg List.length hq;simp at this;omega
   refine h _ s.drawn s.heap.objs.size (es.toList.map (·.2)) _ [S,s.heap.objs.size] (EsI.ints e4) (e5 ▸ List.Perm.refl _) ?_ (by simp) (by simp) (wHu aF) (λb hb=>?_) (λb hb=>by
    simp only[wId,wH4,or_false] at hb;rcases hb with rfl | rfl
    ·exact .inl rfl
    exact .inr (wHm _)) λb o q=>wHi _ q
   ·exact⟨o,es,ep,t,_,wHi _ e1,e3,e8,by simp,wHs _ rfl,.inr (.inl ⟨hb,hp,by rw[tab.led,hb];rfl,ris,⟨0,rfl,zJ2 ris⟩,rfl⟩)⟩
   rw[wIa];simp only[wId,wH4,or_false] at hb;rcases hb with rfl | rfl
   ·exact wIf aF
   exact wIh _
  | true=>
   simp only[if_true];refine wHe (zJE _ _ _ (by simp) λpl d aM=>?_);have pz:pl.length=es.size:=by rw[aM.length_eq,wIl]
   refine wHe (wpAny_newTuple ?_ (by rw[wHf,pz];exact wHv (wIm e7) ⋯));have z1:∀ob,(s.heap.push ob).objs.size=s.heap.objs.size+1:=λob=>wIa ..;have eQ:=wHi ({ cls:=.type "tuple",data:=.seq (pl.map λ(i:Nat)=>rawInt i).toArray }:Obj) e1;refine wHe (wpAny_setEpoch_of eQ e3 e8 (wHe (wH0 (wHk ⟨_,rfl,"set_iterator",_,⟨_,wHs _ rfl,rfl⟩,zAH.lookup,?_⟩))));dsimp only;rw[z1];obtain⟨l,l1,l2⟩:=zOk aM;refine h _ d (s.heap.objs.size+1) (pl.map λp=>(es[p]?.map (·.2)).getD .none) (zDJ l) [S,s.heap.objs.size,s.heap.objs.size+1] (l2 ▸ EsI.ints (e4.perm l1)) (e5 ▸ zHc l1) ?_ (by simp) (by simp) (wHu (wIf aF)) (λb hb=>?_) (λb hb=>by
    simp only[wId,wH4,or_false] at hb;rcases hb with rfl | rfl | rfl
    ·exact .inl rfl
    ·exact .inr (wHm _)
    exact .inr (Nat.le_succ _)) λb o q=>wHi _ (wHi _ q)
   ·refine⟨o,es,ep,t,.ref s.heap.objs.size,wHi _ eQ,e3,e8,by rw[wHf,pz],?_,.inr (.inr ⟨s.heap.objs.size,_,pl,0,rfl,by simp,wHu (wIh _),wHi _ (wHs _ rfl),rfl,pz,λp hp=>List.mem_range.mp (aM.mem_iff.mp hp),rfl⟩)⟩;rw[← z1 ({ cls:=.type "tuple",data:=.seq (pl.map λ(i:Nat)=>rawInt i).toArray }:Obj)];exact wHs _ rfl
   rw[wIa,z1];simp only[wId,wH4,or_false] at hb;rcases hb with rfl | rfl | rfl
   ·exact wIf (wIf aF)
   ·exact wIf (wIh _)
   exact wIh _
end
def zHF:typeLookup (.type "set") "__len__"=pure (some (.builtin "set.__len__")):=F.slot_set_len.lookup
def zKT {vs:List Value} {aH:Array Value} (h:ItemsOf (λi v=>vs[i]?=some v) aH vs.length):aH.toList=vs:=by
 refine List.ext_getElem? λi=>?_;rw[wIr];rcases Nat.lt_or_ge i aH.size with q | q
 ·rw[h.2 i aH[i] (wH9 q),wH9 q]
 rw[Array.getElem?_eq_none q,wH8 (by rw[← h.1];exact q)]
section
variable {prog:Program} {w:World} {A:Around} {E:Value->Shared->Prop} {s:Shared} {S:Addr}
set_option maxHeartbeats 3200000 in
theorem zIp {ks:List Int} {Q:List Value->Shared->Prop} (hh:A.handled=none) (x:zFz w s.heap S ks)
  (hQ:∀s' vs ns,IntsAre vs ns->ns.Perm ks->(∀b o,s.heap.get? b=some o->s'.heap.get? b=some o)->s'.gens=s.gens->s'.os=s.os->s.heap.objs.size<=s'.heap.objs.size->Q vs s'):wpAny (model prog w) A (collect (.ref S)) Q E s:=by
 have hS0:s.TypeIs (.ref S) "set":=let ⟨o,_,_,_,e,f,_⟩:=x;⟨o,e,f.1⟩;have aF:S < s.heap.objs.size:=let ⟨o,_,_,_,e,f,_⟩:=x;wHq e;have mj:ks.length < scanBound:=by obtain⟨_,es,_,_,_,_,_,_,e5,_,e7,_⟩:=x;rw[← e5];simpa [zDJ] using e7
 unfold collect;refine wHe (wpAny_runValue (codeAny_builtin F.entry_proto_collect ?_));rw[Around.under_plainId F.plain_proto_collect _];show wpAny _ A.in1 (newList [] >>= λl=>again (.builtin "list.__iadd__" ⟨[l,.ref S],[]⟩)) _ _ s;refine wHe (wH0 (wHk ⟨plainId_quiet F.plain_list_iadd _,codeAny_builtin F.entry_list_iadd ?_⟩));rw[Around.under_plainId F.plain_list_iadd _];show wpAny _ A.in1 (Builtin.List.listExtendWith (.ref s.heap.objs.size) (.ref S) (.ref s.heap.objs.size)) _ _ _;generalize hH:s.heap.push { cls:=.type "list",data:=.seq ([]:List Value).toArray }=H;have old:∀b o,s.heap.get? b=some o->H.get? b=some o:=λb o q=>hH ▸ wHi _ q;have hHs:H.objs.size=s.heap.objs.size+1:=by rw[← hH,wIa]
 have hL:H.get? s.heap.objs.size=some { cls:=.type "list",data:=.seq ([]:List Value).toArray }:=hH ▸ wHs _ rfl;have x1:zFz w H S ks:=x.at λo q=>old _ _ q;have hT:Shared.TypeIs { s with heap:=H } (.ref S) "set":=let ⟨o,e,f⟩:=hS0;⟨o,old _ _ e,f⟩;unfold Builtin.List.listExtendWith;refine wHe (wpAny_typeOf hT ?_);have h1:Builtin.List.listSameRef (.ref s.heap.objs.size) (.ref S)=false:=by show (s.heap.objs.size == S)=false;simp only[beq_eq_false_iff_ne];exact Ne.symm (wHu aF)
 have h2:(Value.type "set" == Value.type "list")=false:=by decide
 have h3:(Value.type "set" == Value.type "tuple")=false:=by decide
 simp only[h1,h2,h3,Bool.or_false,Bool.false_eq_true,if_false];refine wHe (zMA (w:=w) (s:={ s with heap:=H }) x1 λh2 d it vs ns fp i1 i2 i3 i4 i5 i6 i7 i8 i9=>?_);have dP:Shared.TypeIs { s with heap:=h2,drawn:=d } (.ref S) "set":=let ⟨o,e,f⟩:=hT;⟨o,i9 _ _ e,f⟩;refine wHe (wHZ ?_);unfold Builtin.List.listLengthHint;refine wHe (wpAny_specialOf dP zHF ?_)
 wp_delta
 refine wHe (wpAny_isInstance (T:="set") (b:=true) dP (by rw[isSubtype_type];kernel_rfl) ?_);show wpAny _ A.in1 (typeOf (Value.ref S) >>= _) _ _ _;refine wHe (wpAny_typeOf dP (wHk ?_));rw[wHl ⋯];refine wHe (wpAny_rule ?_);have hL2:=i9 _ _ hL;show wpAny _ A.in1 ((updateSeq s.heap.objs.size (·.push .none) >>= λ_=>updateSeq s.heap.objs.size (·.pop)) >>= _) _ _ _;refine wHe (wHe (wpAny_updateSeq hL2 rfl ?_));have hL3:=wIb (Obj.mapSeq (·.push Value.none)) hL2 rfl;refine wpAny_updateSeq hL3 rfl ?_;have hL4:=wIb (Obj.mapSeq (·.pop)) hL3 rfl;have eT:s.heap.objs.size < H.objs.size:=by rw[hHs];exact wIh _
 have hLf:s.heap.objs.size∉fp:=λhm=>by
  rcases i8 _ hm with q | q
  ·exact absurd q (Ne.symm (wHu aF))
  exact absurd eT (Nat.not_lt.mpr q)
 have jL:ns.length=vs.length:=i1.length.symm;have hvs:vs.length < scanBound:=by rw[← jL,i2.length_eq];exact mj
 have oth:∀b o,b≠s.heap.objs.size->h2.get? b=some o->((h2.update s.heap.objs.size (Obj.mapSeq (·.push Value.none))).update s.heap.objs.size (Obj.mapSeq (·.pop))).get? b=some o:=
  λb o hb e=>(wHG _ _ (Ne.symm hb)).trans ((wHG _ _ (Ne.symm hb)).trans e)
 dsimp only at hL4 ⊢;refine wHk ⟨plainId_quiet F.plain_extend_loop _,codeAny_extend_loopS (zLI (vs:=vs) (A:=A.in1) hh i6 i4 i5).toS (wIm (wHy hvs ⋯)) _ hLf _ vs.length 0 _ _ _ rfl (wHQ _)
  (i3.frame i4 i5 λb hb o e=>oth b o (λq=>hLf (q ▸ hb)) e) hL4 (ItemsOf.nil _) λs' acc' c' hm jY n8=>?_⟩
 show wpAny _ A (load s.heap.objs.size >>= _) _ _ s';refine wHe (wpAny_load jY ?_);have e:=zKT n8;refine wHk ?_;rw[e];refine hQ s' vs ns i1 i2 (λb o q=>?_) hm.gens hm.os (wIm (wHq jY));have hb:=wHq q;refine hm.heap b o (λmU=>?_) (oth b o (wHu hb) (i9 _ _ (old _ _ q)));rcases wID mU with r | r
 ·exact absurd r (wHu hb)
 rw[wIz r] at hb;rcases i8 _ i5 with q | q
 ·exact i6 q.symm
 exact absurd (wHy eT q) (Nat.not_lt.mpr (wIm hb))
end
def zPx (w:World) (l:Addr) (ks:List Int):HO:=.ext λh=>zFz w h l ks
section
variable {X:Cx}
def Inv.drawn {pins:List (Addr × Obj)} {σ:List (Option V)} {H:Hp} {s s':Shared} (I:Inv X pins σ H s) (h:s'.heap=s.heap) (g:s'.gens=s.gens) (o:s'.os=s.os):Inv X pins σ H s':=by obtain⟨h1,g1,d1,t1,o1⟩:=s';obtain⟨h2,g2,d2,t2,o2⟩:=s;dsimp only at h g o;subst h;subst g;subst o;exact⟨I.ok,I.os,I.bare,I.base,I.loc,I.cell,I.free,I.freeC,I.pin,I.hok,I.len⟩
def zPw {P:Program} {w:World} {H:Hp} {h:Heap} {l:Addr} {ks:List Int} (x:zFz w h l ks):ObjOk P w H h l (zPx w l ks):=
 ⟨x,let ⟨o,_,_,_,e,_⟩:=x;⟨o,e⟩,λ_ _ y k=>y.at k⟩
def zLz (K:W.Frag) (hc:X.calm=true) (hK:X.K=K:=by rfl):zB7 X (.type "set") (λxs H Q=>∃(p:Addr) (ns:List Int),xs=[.ref p]/\SqL K H p (ns.map V.int)/\ns.length+1 < 4096/\
  ∀(l:Addr) (ks:List Int),H l=none->(∀y,y∈ks↔y∈ns)->ks.Nodup->ks.length<=ns.length->Q (.ref l) (upd H l (zPx X.w l ks))):=by
 subst hK;intro pins s σ H xs us Q I r h;obtain⟨p,ns,rfl,hS,hb,q⟩:=h;obtain⟨u,rfl,ru⟩:=r.one;cases ru;obtain⟨its,rv,pl,hz⟩:=I.list hS;have hi:IntsAre its ns:=zC6 rv;refine zMN (w:=X.w) (ns:=ns) (I.ok.hd hc) pl.isList hi hb λh' tk ks g1 g2 g3 g4=>?_;have hl:H s.heap.objs.size=none:=I.hok.fresh (wHm _);exact⟨.ref s.heap.objs.size,_,I.laid (o:=zPx X.w s.heap.objs.size ks) (t':=tk) g4 (wHm _) (zPw g1),rfl,q _ ks hl g2 (let ⟨_,_,_,_,_,_,_,_,_,e6,_⟩:=g1;e6) g3⟩
def zC8:zRA X (zQ1 X.K):=by
 intro pins s σ H o i ov iv Q I ro ri h;obtain⟨p,xs,k,z,rfl,rfl,hq,he,q⟩:=h;cases ro;obtain⟨t,rfl⟩:=ri;obtain⟨its,r,pl,hz⟩:=I.list hq;obtain⟨j,h1,h2,h3,h4,h5⟩:=zG1 he;obtain⟨w,ew,fR⟩:=r.get h2;have hl:=r.length;have hn:=zDY;by_cases h0:0<=k
 ·have hj:k.toNat=j:=by rw[seqIndex_of h0 h5] at h1;exact wHo h1
  exact wpAny_getItem_list pl.isList h0 ∅ (by rw[hj];simpa using ew) ⟨z,H,I,fR,q⟩
 have hj:(k+(its.toArray.size:Int)).toNat=j:=by rw[seqIndex_neg ∅ h4] at h1;rw[wHz,← hl];exact wHo h1
 exact wpAny_getItem_list_neg pl.isList ∅ (by rw[wHz]<;>omega) ∅ (by rw[hj];simpa using ew) ⟨z,H,I,fR,q⟩
end
def tab {α:Type} (n:Nat) (f:Nat->α):List α:=(List.range n).map f
section
variable {α:Type} {n:Nat} {f g:Nat->α}
def zW:(tab n f).length=n:=by unfold tab;rw[wHf,wIl]
theorem zCK {i:Nat} (h:i < n):(tab n f)[i]?=some (f i):=by unfold tab;rw[wHn,List.getElem?_range h];rfl
def zEl {i:Nat} (h:¬i < n):(tab n f)[i]?=none:=wH8 (by rw[zW];omega)
def zA5 {i:Nat} {x:α} (h:(tab n f)[i]?=some x):i < n/\x=f i:=by
 by_cases c:i < n
 ·rw[zCK c] at h;exact⟨c,(wHo h).symm⟩
 rw[zEl c] at h;cases h
def zA0 (h:∀i,i < n->f i=g i):tab n f=tab n g:=by unfold tab;exact List.map_congr_left λi hi=>h i (List.mem_range.mp hi)
def zCq {i:Nat} {v:α}:(tab n f).set i v=tab n λj=>if j=i then v else f j:=by
 refine List.ext_getElem? λj=>?_;by_cases c:j < n
 ·rw[zCK c,List.getElem?_set,zCK c];by_cases e:i=j
  ·subst e;simp[zW,c]
  rw[wHj e,wHj (Ne.symm e)]
 rw[zEl c,List.getElem?_set,zEl c];by_cases e:i=j
 ·subst e;simp[zW,c]
 rw[wHj e]
theorem zFO {v:α}:List.replicate n v=tab n λ_=>v:=by
 refine List.ext_getElem? λj=>?_;by_cases c:j < n
 ·rw[zCK c,List.getElem?_replicate,wHl c]
 rw[zEl c,List.getElem?_replicate,wHj c]
theorem zP4 {v:α}:∀k:Nat,(List.replicate k [v]).flatten=List.replicate k v
 | 0=>rfl
 | k+1=>by rw[wIc,wIt,zP4 k];rfl
def zAD:tab n f++[f n]=tab (n+1) f:=by unfold tab;rw[List.range_succ,wHr];rfl
def zEs {β:Type} {u:α->β}:(tab n f).map u=tab n λi=>u (f i):=by unfold tab;rw[List.map_map];rfl
def zGm {x:α}:x∈tab n f↔∃i,i < n/\x=f i:=by
 unfold tab;rw[List.mem_map];constructor
 ·rintro⟨i,h,e⟩;exact⟨i,List.mem_range.mp h,e.symm⟩
 rintro⟨i,h,e⟩;exact⟨i,List.mem_range.mpr h,e.symm⟩
end
def zH0 {n:Nat} {f:Nat->V} {k:Int} (h0:0<=k) (h:k < n):atI (tab n f) k=some (f k.toNat):=zAB h0 (zCK ∅)
def zAk {n:Nat} {f:Nat->V} {k:Nat} (h:k < n):atI (tab n f) (k:Int)=some (f k):=by rw[zH0 ∅ ∅];rfl
def zBp {n:Nat} {f:Nat->V} {k:Nat} (h:k < n):ixN (tab n f).length (k:Int)=some k:=by rw[zW,zNi ∅ ∅];rfl
def Sg (f:Nat->Int):Nat->Int
 | 0=>0
 | n+1=>Sg f n+f n
theorem zA7 {f g:Nat->Int}:∀{n:Nat},(∀i,i < n->f i=g i)->Sg f n=Sg g n
 | 0,_=>rfl
 | n+1,h=>by unfold Sg;rw[zA7 (n:=n) λi hi=>h i ∅,h n ∅]
theorem zJ5 {f:Nat->Int}:∀{n:Nat},(∀i,i < n->0<=f i)->0<=Sg f n
 | 0,_=>wIi _
 | n+1,h=>by have a:=zJ5 (n:=n) λi hi=>h i ∅;have b:=h n ∅;unfold Sg;omega
def zCU {f:Nat->Int} {n:Nat} (h:∀i,i < n->f i=0):Sg f n=0:=by
 induction n with
 | zero=>rfl
 | succ n ih=>unfold Sg;rw[ih λi hi=>h i ∅,h n ∅];rfl
theorem zH2 {f g:Nat->Int}:∀{n:Nat},Sg (λi=>f i+g i) n=Sg f n+Sg g n
 | 0=>rfl
 | n+1=>by unfold Sg;rw[zH2 (n:=n)];omega
theorem zFh {f g:Nat->Int}:∀{n:Nat},Sg (λi=>f i-g i) n=Sg f n-Sg g n
 | 0=>rfl
 | n+1=>by unfold Sg;rw[zFh (n:=n)];omega
theorem zBH {c:Int} {f:Nat->Int}:∀{n:Nat},Sg (λi=>c*f i) n=c*Sg f n
 | 0=>by unfold Sg;rw[Int.mul_zero]
 | n+1=>by unfold Sg;rw[zBH (n:=n),Int.mul_add]
theorem zOT {f g:Nat->Int}:∀{n:Nat},(∀i,i < n->f i<=g i)->Sg f n<=Sg g n
 | 0,_=>wIi _
 | n+1,h=>by have a:=zOT (n:=n) λi hi=>h i ∅;have b:=h n ∅;unfold Sg;omega
theorem zEd {f:Nat->Int} {p:Nat}:∀{n:Nat},p < n->Sg f n=f p+Sg (λi=>if i=p then 0 else f i) n
 | n+1,h=>by
  unfold Sg;by_cases c:p=n
  ·subst c;rw[wHl rfl,zA7 (f:=f) (g:=λi=>if i=p then 0 else f i) λi hi=>by rw[wHj ∅]];omega
  have hp:p < n:=by omega
  rw[zEd hp,wHj (Ne.symm c)];omega
def zC3 {c:Int} {p:Nat} {n:Nat} (h:p < n):Sg (λi=>if i=p then c else 0) n=c:=by rw[zEd h,wHl rfl,zCU λi _=>by by_cases e:i=p<;>simp[e]];omega
theorem zFg {f:Nat->Nat->Int} {m:Nat}:∀{n:Nat},Sg (λi=>Sg (λj=>f i j) m) n=Sg (λj=>Sg (λi=>f i j) n) m
 | 0=>by show 0=Sg (λj=>0) m;rw[zCU λ_ _=>rfl]
 | n+1=>by show Sg (λi=>Sg (λj=>f i j) m) n+Sg (λj=>f n j) m=Sg (λj=>Sg (λi=>f i j) n+f n j) m;rw[zFg (n:=n),zH2]
theorem zHA {f:Nat->Int}:∀{n:Nat},(tab n f).sum=Sg f n
 | 0=>rfl
 | n+1=>by rw[← zAD,List.sum_append,zHA (n:=n)];simp[Sg]
abbrev Wys:=List (Nat × Nat × Int)
def wg (ws:Wys) (k:Nat):Nat:=(ws.getD k (0,0,0)).1
def wt (ws:Wys) (k:Nat):Nat:=(ws.getD k (0,0,0)).2.1
def wp (ws:Wys) (k:Nat):Int:=(ws.getD k (0,0,0)).2.2
def zAV (ws:Wys) (i h:Nat):Int:=Sg (λk=>if wg ws k=h then wp ws k else 0) i
def keeps (ws:Wys) (h:Nat):Int:=1000-zAV ws ws.length h
structure WyOk (n:Nat) (ws:Wys):Prop where
 g:∀k,k < ws.length->wg ws k < n
 t:∀k,k < ws.length->wt ws k < n
 d:∀k,k < ws.length->wg ws k≠wt ws k
 p:∀k,k < ws.length->1<=wp ws k/\wp ws k<=1000
 o:∀h,zAV ws ws.length h<=1000
structure WyAt (K:W.Frag) (H:Hp) (r:Addr) (rs:List V) (ws:Wys):Prop where
 sq:SqL K H r rs
 len:rs.length=ws.length
 at_:∀k,k < ws.length->∃q,rs[k]?=some (.ref q)/\H q=some (.tup [.int (wg ws k:Nat),.int (wt ws k:Nat),.int (wp ws k)])
def WyAt.mono {K:W.Frag} {H H':Hp} {r:Addr} {rs:List V} {ws:Wys} (h:WyAt K H r rs ws) (s:zAh H H'):WyAt K H' r rs ws:=
 ⟨s.seq h.sq,h.len,λk hk=>let ⟨q,e1,e2⟩:=h.at_ k hk;⟨q,e1,s _ _ e2⟩⟩
def zCI {ws:Wys} {w:Nat × Nat × Int} {k:Nat} (h:k < ws.length):(ws++[w]).getD k (0,0,0)=ws.getD k (0,0,0):=by rw[wHh,wHh,wHE h]
theorem zCJ {ws:Wys} {w:Nat × Nat × Int}:(ws++[w]).getD ws.length (0,0,0)=w:=by rw[wHh,wHC (wHm _),Nat.sub_self];rfl
def zJk {ws:Wys} {w:Nat × Nat × Int} {h:Nat}:zAV (ws++[w]) (ws.length+1) h=zAV ws ws.length h+if w.1=h then w.2.2 else 0:=by unfold zAV;show Sg _ ws.length+_=_;rw[zA7 (g:=λk=>if wg ws k=h then wp ws k else 0) λi hi=>by unfold wg wp;rw[zCI hi]];show _+(if ((ws++[w]).getD ws.length (0,0,0)).1=h then ((ws++[w]).getD ws.length (0,0,0)).2.2 else 0)=_;rw[zCJ]
theorem WyOk.nil (n:Nat):WyOk n []:=⟨λk h=>absurd h (wHA _),λk h=>absurd h (wHA _),λk h=>absurd h (wHA _),λk h=>absurd h (wHA _),λh=>by show (0:Int)<=1000;decide⟩
def WyOk.snoc {n:Nat} {ws:Wys} {g t:Nat} {p:Int} (h:WyOk n ws) (h1:g < n) (h2:t < n) (h3:g≠t) (h4:1<=p) (h5:p<=1000-zAV ws ws.length g) (h6:p<=1000):WyOk n (ws++[(g,t,p)]):=by
 have L:(ws++[(g,t,p)]).length=ws.length+1:=by rw[wHp];rfl
 have ki:∀{P:Nat × Nat × Int->Prop},(∀k,k < ws.length->P (ws.getD k (0,0,0)))->P (g,t,p)->∀k,k < (ws++[(g,t,p)]).length->P ((ws++[(g,t,p)]).getD k (0,0,0)):=by
  intro P a b k hk;by_cases c:k < ws.length
  ·rw[zCI c];exact a k c
  have:k=ws.length:=by omega
  subst this;rw[zCJ];exact b
 refine⟨ki (P:=λw=>w.1 < n) h.g h1,ki (P:=λw=>w.2.1 < n) h.t h2,ki (P:=λw=>w.1≠w.2.1) h.d h3,ki (P:=λw=>1<=w.2.2/\w.2.2<=1000) h.p ⟨h4,h6⟩,λx=>?_⟩;rw[L,zJk];have:=h.o x;show _+(if g=x then p else 0)<=1000;by_cases c:g=x
 ·subst c;rw[wHl rfl];omega
 rw[wHj c];omega
def zDj {n:Nat} {ws:Wys} (h:WyOk n ws) (x:Nat):∀i,i<=ws.length->0<=zAV ws i x:=λi hi=>zJ5 λk hk=>by
 by_cases c:wg ws k=x
 ·rw[wHl c];have:=(h.p k ∅).1;omega
 rw[wHj c];exact wIi _
def WyAt.snoc {K:W.Frag} {H H':Hp} {r q:Addr} {rs:List V} {ws:Wys} {g t:Nat} {p:Int} (h:WyAt K H r rs ws) (s:∀b xs,H b=some (.tup xs)->H' b=some (.tup xs)) (e:H' r=some (.lst (rs++[.ref q]))) (e2:H' q=some (.tup [.int (g:Nat),.int (t:Nat),.int p])) :
  WyAt K H' r (rs++[.ref q]) (ws++[(g,t,p)]):=by
 refine⟨SqL.of e,by rw[wHp,wHp,h.len];rfl,λk hk=>?_⟩;by_cases c:k < ws.length
 ·obtain⟨q',a,b⟩:=h.at_ k c;refine⟨q',by rw[wHE (by rw[h.len];exact c)];exact a,?_⟩;unfold wg wt wp;rw[zCI c];exact s _ _ b
 have:k=ws.length:=by rw[wHp] at hk;simp at hk;omega
 subst this;refine⟨q,by rw[wHC (by rw[h.len];exact wHm _),h.len,Nat.sub_self];rfl,?_⟩;unfold wg wt wp;rw[zCJ];exact e2
inductive Rch (m:Nat) (a b:Nat->Nat) (mk:Nat->Bool):Nat->Prop
 | base {j:Nat}:mk j=true->Rch m a b mk j
 | step {k:Nat}:k < m->Rch m a b mk (a k)->Rch m a b mk (b k)
def zCs (a b:Nat->Nat) (mk:Nat->Bool):Nat->Nat->Bool
 | 0=>mk
 | i+1=>if zCs a b mk i (a i)=true then λj=>if j=b i then true else zCs a b mk i j else zCs a b mk i
def trn (m:Nat) (a b:Nat->Nat) (mk:Nat->Bool):Nat->Nat->Bool
 | 0=>mk
 | t+1=>zCs a b (trn m a b mk t) m
section
variable {m n:Nat} {a b:Nat->Nat} {mk:Nat->Bool}
theorem zCr {j:Nat} (h:mk j=true):∀i,zCs a b mk i j=true
 | 0=>h
 | i+1=>by
  have:=zCr h i;unfold zCs;split
  ·show (if j=b i then true else zCs a b mk i j)=true
   split
   ·rfl
   exact this
  exact this
def zNK {j:Nat} {i:Nat} (h:zCs a b mk i j=true):zCs a b mk (i+1) j=true:=by
 show (if zCs a b mk i (a i)=true then λj=>if j=b i then true else zCs a b mk i j else zCs a b mk i) j=true
 split
 ·show (if j=b i then true else zCs a b mk i j)=true
  split
  ·rfl
  exact h
 exact h
theorem zJP {j:Nat} {i:Nat} (h:zCs a b mk i j=true):∀d,zCs a b mk (i+d) j=true
 | 0=>h
 | d+1=>zNK (zJP h d)
def zLK {k:Nat} (hk:k < m) (h:mk (a k)=true):zCs a b mk m (b k)=true:=by
 have e:zCs a b mk (k+1) (b k)=true:=by show (if zCs a b mk k (a k)=true then λj=>if j=b k then true else zCs a b mk k j else zCs a b mk k) (b k)=true;rw[wHl (zCr h k)];show (if b k=b k then true else _)=true;rw[wHl rfl]
 have:=zJP e (m-(k+1))
 rwa [show k+1+(m-(k+1))=m by omega] at this
theorem zD3 {R:Nat->Prop} (h0:∀j,mk j=true->R j) (hs:∀k,k < m->R (a k)->R (b k)):∀i,i<=m->∀j,zCs a b mk i j=true->R j
 | 0,_,j,h=>h0 j h
 | i+1,hi,j,h=>by
  have ih:=zD3 h0 hs i ∅;unfold zCs at h
  split at h
  ·rename_i c
   have h':(if j=b i then true else zCs a b mk i j)=true:=h
   split at h'
   ·rename_i e;rw[e];exact hs i ∅ (ih _ c)
   exact ih j h'
  exact ih j h
theorem zG9:∀t j,trn m a b mk t j=true->Rch m a b mk j
 | 0,j,h=>.base h
 | t+1,j,h=>zD3 (R:=Rch m a b mk) (λj h=>zG9 t j h) (λk hk h=>.step hk h) m (wHm _) j h
def Clo (m:Nat) (a b:Nat->Nat) (f:Nat->Bool):Prop:=∀k,k < m->f (a k)=true->f (b k)=true
def cnt (f:Nat->Bool):Nat->Nat
 | 0=>0
 | n+1=>cnt f n+if f n=true then 1 else 0
theorem zIQ (f:Nat->Bool):∀n,cnt f n<=n
 | 0=>wHm _
 | n+1=>by have:=zIQ f n;unfold cnt;split<;>omega
theorem zLw {f:Nat->Bool}:∀{n:Nat},n<=cnt f n->∀j,j < n->f j=true
 | n+1,h,j,hj=>by
  have:=zIQ f n;unfold cnt at h
  split at h
  ·rename_i c
   by_cases e:j=n
   ·rw[e];exact c
   exact zLw (n:=n) ∅ j ∅
  omega
theorem zGw {f g:Nat->Bool} (h:∀j,f j=true->g j=true):∀n,cnt f n<=cnt g n
 | 0=>wHm _
 | n+1=>by
  have:=zGw h n;unfold cnt;by_cases c:f n=true
  ·rw[wHl c,wHl (h n c)];omega
  rw[wHj c];split<;>omega
theorem zGv {f g:Nat->Bool} {j:Nat} (h:∀j,f j=true->g j=true) (h1:¬f j=true) (h2:g j=true):∀{n:Nat},j < n->cnt f n+1<=cnt g n
 | n+1,hj=>by
  unfold cnt;by_cases e:j=n
  ·have:=zGw h n;rw[← e] at *;rw[wHj h1,wHl h2];omega
  have ih:=zGv h h1 h2 (n:=n) ∅;by_cases c:f n=true
  ·rw[wHl c,wHl (h n c)];omega
  rw[wHj c];split<;>omega
def zML {f:Nat->Bool} (h:Clo m a b f):∀j,zCs a b f m j=true->f j=true:=λj q=>zD3 (R:=λj=>f j=true) (λ_ z=>z) h m (wHm _) j q
theorem zIy (hb:∀k,k < m->b k < n):∀t,Clo m a b (trn m a b mk t)∨t<=cnt (trn m a b mk t) n
 | 0=>.inr (wHQ _)
 | t+1=>by
  by_cases c:Clo m a b (trn m a b mk t)
  ·refine .inl λk hk h=>?_;exact zCr (c k hk (zML c _ h)) m
  rcases zIy hb t with z | z
  ·exact absurd z c
  have:∃k,k < m/\trn m a b mk t (a k)=true/\¬trn m a b mk t (b k)=true:=by refine wHW λno=>c λk hk h=>wHW λq=>no ⟨k,hk,h,q⟩
  obtain⟨k,hk,h1,h2⟩:=this;have:=zGv (f:=trn m a b mk t) (g:=trn m a b mk (t+1)) (λj h=>zCr h m) h2 (zLK hk h1) (hb k hk);exact .inr ∅
def zNC (ha:∀k,k < m->a k < n) (hb:∀k,k < m->b k < n):Clo m a b (trn m a b mk n):=by
 rcases zIy (mk:=mk) (a:=a) hb n with z | z
 ·exact z
 exact λk hk _=>zLw z _ (hb k hk)
def zPj {j t:Nat} (h:mk j=true):trn m a b mk t j=true:=by
 induction t with
 | zero=>exact h
 | succ t ih=>exact zCr ih m
def zNB (ha:∀k,k < m->a k < n) (hb:∀k,k < m->b k < n) {j:Nat}:trn m a b mk n j=true↔Rch m a b mk j:=by
 refine⟨zG9 n j,λh=>?_⟩
 induction h with
 | base h=>exact zPj h
 | step hk _ ih=>exact zNC ha hb _ hk ih
end
def plc (f:Nat->Bool):Nat->List Int
 | 0=>[]
 | n+1=>if f n=true then plc f n++[(n:Int)] else plc f n
theorem zDE (f:Nat->Bool):∀n,(plc f n).length<=n
 | 0=>wHm _
 | n+1=>by
  have:=zDE f n;unfold plc;split
  ·rw[wHp];simp;omega
  omega
theorem zCn {f:Nat->Bool} {z:Int}:∀{n:Nat},z∈plc f n↔∃j:Nat,j < n/\f j=true/\z=(j:Int)
 | 0=>⟨λh=>(by cases h),λ⟨j,h,_⟩=>absurd h (wHA _)⟩
 | n+1=>by
  unfold plc
  split
  ·rename_i c
   rw[List.mem_append,zCn (n:=n),List.mem_singleton];constructor
   ·rintro (⟨j,h1,h2⟩ | h)
    ·exact⟨j,by omega,h2⟩
    exact⟨n,by omega,c,h⟩
   rintro⟨j,h1,h2,h3⟩;by_cases e:j=n
   ·exact .inr (by rw[h3,e])
   exact .inl ⟨j,by omega,h2,h3⟩
  rename_i c
  rw[zCn (n:=n)];constructor
  ·rintro⟨j,h1,h2⟩;exact⟨j,by omega,h2⟩
  rintro⟨j,h1,h2,h3⟩;refine⟨j,?_,h2,h3⟩;by_cases e:j=n
  ·rw[e] at h2;exact absurd h2 c
  omega
theorem zGM {f g:Nat->Bool}:∀{n:Nat},(∀j,j < n->(f j=true↔g j=true))->plc f n=plc g n
 | 0,_=>rfl
 | n+1,h=>by
  unfold plc;rw[zGM (n:=n) λj hj=>h j ∅];by_cases c:f n=true
  ·rw[wHl c,wHl ((h n ∅).mp c)]
  rw[wHj c,wHj λz=>c ((h n ∅).mpr z)]
structure PrAt (K:W.Frag) (H:Hp) (r:Addr) (rs:List V) (m:Nat) (a b:Nat->Nat):Prop where
 sq:SqL K H r rs
 len:rs.length=m
 at_:∀k,k < m->∃q,rs[k]?=some (.ref q)/\H q=some (.tup [.int (a k:Nat),.int (b k:Nat)])
def PrAt.mono {K:W.Frag} {H H':Hp} {r:Addr} {rs:List V} {m:Nat} {a b:Nat->Nat} (h:PrAt K H r rs m a b) (s:zAh H H'):PrAt K H' r rs m a b:=
 ⟨s.seq h.sq,h.len,λk hk=>let ⟨q,e1,e2⟩:=h.at_ k hk;⟨q,e1,s _ _ e2⟩⟩
def PrAt.snoc {K:W.Frag} {H H':Hp} {r q:Addr} {rs:List V} {m:Nat} {a b:Nat->Nat} (h:PrAt K H r rs m a b) (s:∀b xs,H b=some (.tup xs)->H' b=some (.tup xs)) (e:H' r=some (.lst (rs++[.ref q]))) (e2:H' q=some (.tup [.int (a m:Nat),.int (b m:Nat)])) :
  PrAt K H' r (rs++[.ref q]) (m+1) a b:=by
 refine⟨SqL.of e,by rw[wHp,h.len];rfl,λk hk=>?_⟩;by_cases c:k < m
 ·obtain⟨q',x,y⟩:=h.at_ k c;exact⟨q',by rw[wHE (by rw[h.len];exact c)];exact x,s _ _ y⟩
 have:k=m:=by omega
 subst this;exact⟨q,by rw[wHC (by rw[h.len];exact wHm _),h.len,Nat.sub_self];rfl,e2⟩
def zPv {c b:Int} (hc:0 < c) (h:c*b<=0):b<=0:=by
 rcases Int.lt_or_le 0 b with z | z
 ·have:=wIv hc z;omega
 exact z
def zEw {c b:Int} (hc:0 < c) (h:0<=c*b):0<=b:=by
 rcases Int.lt_or_le b 0 with z | z
 ·have:=Int.mul_neg_of_pos_of_neg hc z;omega
 exact z
def zCZ {c b:Int} (hc:0 < c) (h:0 < c*b):0 < b:=by
 rcases Int.lt_or_le 0 b with z | z
 ·exact z
 have:=Int.mul_nonpos_of_nonneg_of_nonpos (wIn hc) z;omega
def zB2 {c a b:Int} (hc:0 < c) (h:c*a=c*b):a=b:=Int.eq_of_mul_eq_mul_left ∅ h
def zCG {a b:Int} (ha:0<=a) (hb:0<=b):0<=a*b:=Int.mul_nonneg ha hb
def zKH {a b:Int} (ha:0<=a) (hb:b<=0):a*b<=0:=Int.mul_nonpos_of_nonneg_of_nonpos ha hb
def zPW {a b:Int} (ha:a<=0) (hb:b<=0):0<=a*b:=by have:=Int.mul_nonneg (a:=-a) (b:=-b) ∅ ∅;rw[Int.neg_mul_neg] at this;exact this
def zRn {f:Nat->Int} {n:Nat} (h:∀i,i < n->f i<=0):Sg f n<=0:=by have:=zOT (g:=λ_=>0) h;rw[zCU (f:=λ_=>0) λ_ _=>rfl] at this;exact this
abbrev Mx:=Nat->Nat->Int
structure Good (n k:Nat) (A:Mx):Prop where
 off:∀i j,i < n->j < n->i≠j->A i j<=0
 rhs:∀i,i < n->0<=A i n
 zero:∀i j,i < n->j < k->i≠j->A i j=0
 cert:∃y:Nat->Int,(∀i,i < n->0 < y i)/\∀j,j < n->0 < Sg (λi=>y i*A i j) n
section
variable {n k p:Nat} {A B:Mx} {c x:Nat->Int} {l:Int}
def Good.piv (h:Good n k A) (hp:p < n):0 < A p p:=by
 obtain⟨y,y0,ys⟩:=h.cert;have h1:=ys p hp;rw[zEd hp] at h1;have h2:Sg (λi=>if i=p then 0 else y i*A i p) n<=0:=zRn λi hi=>by
  show (if i=p then 0 else y i*A i p)<=0;by_cases e:i=p
  ·rw[wHl e];exact wIi _
  rw[wHj e];exact zKH (wIn (y0 i hi)) (h.off i p hi hp e)
 exact zCZ (y0 p hp) ∅
structure Stp (n p:Nat) (A B:Mx) (c:Nat->Int):Prop where
 own:∀j,j<=n->B p j=A p j
 pos:∀i,i < n->i≠p->0 < c i
 eq:∀i j,i < n->i≠p->j<=n->c i*B i j=A p p*A i j-A i p*A p j
def Good.step (h:Good n p A) (hp:p < n) (s:Stp n p A B c):Good n (p+1) B:=by
 have pv:=h.piv hp;refine⟨λi j hi hj ne=>?_,λi hi=>?_,λi j hi hj ne=>?_,?_⟩
 ·by_cases e:i=p
  ·subst e;rw[s.own j ∅];exact h.off _ _ hi hj ne
  refine zPv (s.pos i hi e) ?_;rw[s.eq i j hi e ∅];by_cases e2:j=p
  ·subst e2;rw[wH1 (A j j)];omega
  have a1:=zKH (wIn pv) (h.off i j hi hj ne);have a2:=zPW (h.off i p hi hp e) (h.off p j hp hj (Ne.symm e2));omega
 ·by_cases e:i=p
  ·subst e;rw[s.own n (wHm _)];exact h.rhs _ hi
  refine zEw (s.pos i hi e) ?_;rw[s.eq i n hi e (wHm _)];have a1:=zCG (wIn pv) (h.rhs i hi);have a2:=zKH (h.rhs p hp) (h.off i p hi hp e);rw[wH1] at a2;omega
 ·have hjn:j < n:=by omega
  by_cases e:i=p
  ·subst e;rw[s.own j ∅];exact h.zero _ _ hi ∅ ne
  refine zB2 (s.pos i hi e) ?_;rw[s.eq i j hi e ∅,Int.mul_zero];by_cases e2:j=p
  ·subst e2;rw[wH1 (A j j)];omega
  rw[h.zero i j hi ∅ ne,h.zero p j hp ∅ (Ne.symm e2)];simp
 obtain⟨y,y0,ys⟩:=h.cert;refine⟨λi=>if i=p then Sg (λi=>y i*A i p) n else y i*c i,λi hi=>?_,λj hj=>?_⟩
 ·show 0 < (if i=p then _ else _);by_cases e:i=p
  ·rw[wHl e];exact ys p hp
  rw[wHj e];exact wIv (y0 i hi) (s.pos i hi e)
 have e1:Sg (λi=>(if i=p then Sg (λi=>y i*A i p) n else y i*c i)*B i j) n=A p p*Sg (λi=>y i*A i j) n:=by
  rw[zEd hp,wHl rfl,s.own j ∅,zEd (f:=λi=>y i*A i p) hp,zEd (f:=λi=>y i*A i j) hp];have e2:Sg (λi=>if i=p then 0 else (if i=p then y p*A p p+Sg (λi=>if i=p then 0 else y i*A i p) n else y i*c i)*B i j) n =
    Sg (λi=>A p p*(if i=p then 0 else y i*A i j)-A p j*(if i=p then 0 else y i*A i p)) n:=zA7 λi hi=>by
   show (if i=p then 0 else _)=_;by_cases e:i=p
   ·rw[wHl e,wHl e,wHl e];simp
   rw[wHj e,wHj e,wHj e,wHj e,Int.mul_assoc,s.eq i j hi e ∅]
   grind
  rw[e2,zFh,zBH,zBH]
  grind
 rw[e1];exact wIv pv (ys j hj)
def Sol (n:Nat) (A:Mx) (x:Nat->Int) (l:Int):Prop:=∀i,i < n->Sg (λj=>A i j*x j) n=A i n*l
def Stp.sums (s:Stp n p A B c) {i:Nat} (hi:i < n) (e:i≠p):c i*Sg (λj=>B i j*x j) n=A p p*Sg (λj=>A i j*x j) n-A i p*Sg (λj=>A p j*x j) n:=by
 rw[← zBH,← zBH,← zBH,← zFh];refine zA7 λj hj=>?_;rw[← Int.mul_assoc,s.eq i j hi e ∅]
 grind
def Stp.owns (s:Stp n p A B c):Sg (λj=>B p j*x j) n=Sg (λj=>A p j*x j) n:=zA7 λj hj=>by rw[s.own j ∅]
theorem Stp.back (s:Stp n p A B c) (pv:0 < A p p) (hp:p < n) (h:Sol n B x l):Sol n A x l:=by
 have hpp:Sg (λj=>A p j*x j) n=A p n*l:=by rw[← s.owns,h p hp,s.own n (wHm _)]
 intro i hi;by_cases e:i=p
 ·rw[e];exact hpp
 have h1:=s.sums (x:=x) hi e;have h2:=s.eq i n hi e (wHm _);rw[h i hi,hpp] at h1;refine zB2 pv ?_;have h3:c i*(B i n*l)=c i*B i n*l:=by rw[Int.mul_assoc]
 rw[h3,h2] at h1
 grind
def Stp.forth (s:Stp n p A B c) (hp:p < n) (h:Sol n A x l):Sol n B x l:=by
 intro i hi;by_cases e:i=p
 ·rw[e,s.owns,h p hp,s.own n (wHm _)]
 have h1:=s.sums (x:=x) hi e;have h2:=s.eq i n hi e (wHm _);rw[h i hi,h p hp] at h1;refine zB2 (s.pos i hi e) ?_;rw[h1,← Int.mul_assoc (c i),h2]
 grind
def Good.last (h:Good n n A) {i:Nat} (hi:i < n):Sg (λj=>A i j*x j) n=A i i*x i:=by
 rw[zEd hi,zCU (f:=λj=>if j=i then 0 else A i j*x j) λj hj=>by
  show (if j=i then 0 else _)=_;by_cases e:j=i
  ·rw[wHl e]
  rw[wHj e,h.zero i j hi hj (Ne.symm e)];simp]
 omega
def Good.sol (h:Good n n A):Sol n A x l↔∀i,i < n->A i i*x i=A i n*l:=
 ⟨λs i hi=>by rw[← h.last hi];exact s i hi,λs i hi=>by rw[h.last hi];exact s i hi⟩
end
def Bt (k:Nat) (i:Int):Prop:=i.natAbs < 2 ^ k
def Bt.mono {j k:Nat} {i:Int} (h:Bt j i) (e:j<=k):Bt k i:=wHy h (Nat.pow_le_pow_right ⋯ e)
def Bt.mul {j k:Nat} {a b:Int} (h:Bt j a) (h':Bt k b):Bt (j+k) (a*b):=by unfold Bt at *;rw[wIs,Nat.pow_add];exact Nat.mul_lt_mul'' h h'
def Bt.sub {k:Nat} {a b:Int} (h:Bt k a) (h':Bt k b):Bt (k+1) (a-b):=by unfold Bt at *;rw[Nat.pow_succ];omega
def Bt.div {k:Nat} {c b:Int} (hc:0 < c) (h:Bt k (c*b)):Bt k b:=by unfold Bt at *;rw[wIs] at h;exact wHK (Nat.le_mul_of_pos_left _ ∅) h
def Bt.bits {k:Nat} {i:Int} (h:Bt k i):Builtin.Int.intBits i<=k:=by
 unfold Builtin.Int.intBits
 split
 ·exact wHQ _
 rename_i c
 have h0:i.natAbs≠0:=by intro z;exact c (by simp[Int.natAbs_eq_zero.mp z])
 exact (Nat.log2_lt h0).mpr h
def zAO {j k:Nat} {a b:Int} (h:Bt j a) (h':Bt k b) (e:j+k<=134217728):IntMulOk a b:=by
 unfold IntMulOk;have b1:=h.bits;have b2:=h'.bits;have:Builtin.Int.intTooBig ((Builtin.Int.intBits a:Int)+(Builtin.Int.intBits b:Int))=false:=by unfold Builtin.Int.intTooBig;refine wHJ λz=>?_;have z':((Builtin.Int.intBits a:Int)+(Builtin.Int.intBits b:Int)) > ((bitsLine:Nat):Int):=z;rw[show bitsLine=134217728 from rfl] at z';omega
 rw[this,Bool.and_false];exact wHx
def Bt.small {k:Nat} {i:Int} (h:i.natAbs < 1024) (e:10<=k):Bt k i:=Bt.mono (j:=10) h e
def zRo (X:Cx):Prop:=∃(env:Env) (l:List Env),X.stack=env::l/\env.scope.isGenerator=false/\env.scope.isCoroutine=false/\env.builtins=builtinsNs/\env.globals=mainGlobals
section
variable {X:Cx}
def zB5 {k:Nat} (hr:Room k X.A) (hk:32<=k) (ht:X.prog.given.tree=none) (hs:zRo X):OpR X (binaryOp .FloorDiv) (rI (λ_ j=>j≠0) λi j=>.int (i.fdiv j)):=by intro pins s σ H x y v u Q I rx ry h;obtain⟨i,j,rfl,rfl,hc,q⟩:=h;obtain⟨t,rfl⟩:=rx;obtain⟨t',rfl⟩:=ry;obtain⟨env,l,e1,e2,e3,e4,e5⟩:=hs;refine floordiv_int hc ⟨.int (i.fdiv j),H,I.tok _,⟨_,rfl⟩,q⟩ (.inr (PylongRoom.of I.nolimit ?_ (SeerAt.of (I.ok.mod.seer.keeps I.bk) ht (by rw[I.ok.frames,e1]) e2 e3 e4 e5)));have:=hr.dp;show X.A.depth+100 < recursionLimit;omega
def zBs:OpR X (binaryOp .Mult) (rI (λi j=>IntMulOk i j) λi j=>.int (i*j)):=opI λ_ _ _ _ _ _ _ hc q=>mul_int q hc
end
def zMG {K:W.Frag} {a:Addr} {ys:List V} {g:TG} {tb:TS} {D:Ends} {σ:St} {H:Hp} (Pv:Nat->St->Hp->Prop) (h0:Pv 0 σ H) (hl:∀i σ H,i<=ys.length->Pv i σ H->SqL K H a ys)
  (hs:∀i x σ H T,ys[i]?=some x->Pv i σ H->H T=none->g (.ref T) σ (upd H T (.tup [.int (i:Int),x])) λσ2 H2=>tb { D with nx:=Pv (i+1),ct:=Pv (i+1),bk:=D.nx } σ2 H2) (hd:∀σ H,Pv ys.length σ H->D.nx σ H) :
  ∃W:Nat->Nat->St->Hp->Prop,(∃m,W 0 m σ H)/\∀i m σ H,W i m σ H->
   ((Ite K a).stop i H/\D.nx σ H)∨((Ite K a).go i H/\∃N:St->Hp->Prop,(∀σ' H',N σ' H'->∃m',m' < m/\W (i+1) m' σ' H')/\∀x H',(Ite K a).yld i H x H'->g x σ H' λσ2 H2=>tb { D with nx:=N,ct:=N,bk:=D.nx } σ2 H2):=by
 refine⟨λi m σ H=>m=ys.length-i/\i<=ys.length/\Pv i σ H,⟨ys.length,by simp,wHQ _,h0⟩,?_⟩;rintro i m σ H ⟨rfl,hi,p⟩;have q:=hl i σ H hi p;by_cases aF:i < ys.length
 ·refine .inr ⟨⟨ys,ys[i],q,by simp[aF]⟩,Pv (i+1),λσ' H' p'=>⟨ys.length-(i+1),by omega,rfl,aF,p'⟩,λx H' y=>?_⟩;obtain⟨T,z,e1,e2,e3,y⟩:=y;subst e1 e3;exact hs i z σ _ T (y ys q) p e2
 have e:i=ys.length:=by omega
 subst e;exact .inl ⟨⟨ys,q,wHm _⟩,hd σ H p⟩
def zGu {K:W.Frag} {a b l:Addr} {xs ys:List V} {g:TG} {tt:TT} {te:TE} {fin:Hp->Prop} {σ0:St} {H0:Hp} (he:xs.length=ys.length) (Pv:Nat->St->Hp->Prop) (h0:Pv 0 σ0 H0) (hl:∀i σ H,i<=xs.length->Pv i σ H->SqL K H a xs/\SqL K H b ys)
  (hs:∀i x y σ H T,xs[i]?=some x->ys[i]?=some y->Pv i σ H->H T=none->g (.ref T) σ (upd H T (.tup [x,y])) λσ2 H2=>tt σ2 H2 λb H3=>if b=true then te σ2 H3 λv H4=>∃xs,H4 l=some (.lst xs)/\xs.length < sizeLine/\Pv (i+1) σ2 (upd H4 l (.lst (xs++[v]))) else Pv (i+1) σ2 H3)
  (hd:∀σ H,Pv xs.length σ H->fin H):zEt l (Itz K a b) g tt te fin σ0 H0:=by
 refine⟨λi m σ H=>m=xs.length-i/\i<=xs.length/\Pv i σ H,⟨xs.length,by simp,wHQ _,h0⟩,?_⟩;rintro i m σ H ⟨rfl,hi,p⟩;obtain⟨q,r⟩:=hl i σ H hi p;by_cases aF:i < xs.length
 ·refine .inr ⟨⟨xs,ys,xs[i],ys[i]' ∅,q,r,by simp[aF],by simp[show i < ys.length by omega]⟩,Pv (i+1),λσ' H' p'=>⟨xs.length-(i+1),by omega,rfl,aF,p'⟩,λx H' y=>?_⟩;obtain⟨T,z,z',e1,e2,e3,y1,y2⟩:=y;subst e1 e3;exact hs i z z' σ _ T (y1 xs q) (y2 ys r) p e2
 have e:i=xs.length:=by omega
 subst e;exact .inl ⟨⟨xs,ys,q,r,.inl (wHm _)⟩,hd σ H p⟩
structure MxAt (H:Hp) (r:Addr) (q:Nat->Addr) (n:Nat) (A:Mx):Prop where
 top:H r=some (.lst (tab n λi=>V.ref (q i)))
 row:∀i,i < n->H (q i)=some (.lst (tab (n+1) λj=>V.int (A i j)))
def MxAt.mono {H H':Hp} {r:Addr} {q:Nat->Addr} {n:Nat} {A:Mx} (h:MxAt H r q n A) (s:zAh H H'):MxAt H' r q n A:=⟨s _ _ h.top,λi hi=>s _ _ (h.row i hi)⟩
structure FrAt (H:Hp) (r:Addr) (q:Nat->Addr) (n:Nat) (x y:Nat->Int):Prop where
 top:H r=some (.lst (tab n λi=>V.ref (q i)))
 row:∀i,i < n->H (q i)=some (.tup [.int (x i),.int (y i)])
def FrAt.mono {H H':Hp} {r:Addr} {q:Nat->Addr} {n:Nat} {x y:Nat->Int} (h:FrAt H r q n x y) (s:zAh H H'):FrAt H' r q n x y:=⟨s _ _ h.top,λi hi=>s _ _ (h.row i hi)⟩
structure FrOk (n:Nat) (x y:Nat->Int):Prop where
 pos:∀i,i < n->0 < y i
 one:∀i,i < n->Nat.gcd (x i).natAbs (y i).natAbs=1
 nn:∀i,i < n->0<=x i
 bx:∀i,i < n->Bt 400000 (x i)
 by_:∀i,i < n->Bt 400000 (y i)
def gT (f:Nat->Int):Nat->Nat
 | 0=>0
 | n+1=>Nat.gcd (f n).natAbs (gT f n)
theorem zNo {f:Nat->Int}:∀{n j:Nat},j < n->(gT f n:Int) ∣ f j
 | n+1,j,h=>by
  by_cases e:j=n
  ·subst e;exact Int.ofNat_dvd_left.mpr (Nat.gcd_dvd_left _ _)
  exact Int.dvd_trans (Int.natCast_dvd_natCast.mpr (Nat.gcd_dvd_right _ _)) (zNo (n:=n) ∅)
theorem zNn {f:Nat->Int}:∀{n j:Nat},j < n->f j≠0->0 < gT f n
 | n+1,j,h,h0=>by
  by_cases e:j=n
  ·subst e;exact Nat.gcd_pos_of_pos_left _ ∅
  exact Nat.gcd_pos_of_pos_right _ (zNn (n:=n) (j:=j) ∅ h0)
def zDr {c a:Int} (hc:0 < c) (h:c ∣ a):c*a.fdiv c=a:=by obtain⟨b,rfl⟩:=h;rw[Int.mul_fdiv_cancel_left _ ∅]
def M0 (n:Nat) (ws:Wys) (s0:Nat):Mx:=λi j=>if j=n then (if i=s0 then 1000 else 0) else (if i=j then 1000 else 0)-Sg (λk=>if wt ws k=i/\wg ws k=j then wp ws k else 0) ws.length
section
variable {n s0:Nat} {ws:Wys}
def zK1 (wo:WyOk n ws) {i j:Nat}:0<=Sg (λk=>if wt ws k=i/\wg ws k=j then wp ws k else 0) ws.length:=zJ5 λk hk=>by
 split
 ·have:=(wo.p k hk).1;omega
 exact wIi _
def zOo (wo:WyOk n ws) {i j:Nat}:Sg (λk=>if wt ws k=i/\wg ws k=j then wp ws k else 0) ws.length<=1000:=by
 refine Int.le_trans (zOT λk hk=>?_) (wo.o j);show (if _ then _ else _)<=(if _ then _ else _);by_cases c:wg ws k=j
 ·rw[wHl c]
  split
  ·exact wIi _
  have:=(wo.p k hk).1;omega
 rw[wHj c,wHj λz=>c z.2];exact wIi _
def zRs (wo:WyOk n ws) {i j:Nat}:(M0 n ws s0 i j).natAbs < 1024:=by
 have h1:=zK1 wo (i:=i) (j:=j);have h2:=zOo wo (i:=i) (j:=j);unfold M0
 split
 ·split<;>decide
 split<;>omega
def zQz (wo:WyOk n ws) {y:Nat->Int} {j:Nat} (hj:j < n):Sg (λi=>y i*M0 n ws s0 i j) n=1000*y j-Sg (λk=>if wg ws k=j then wp ws k*y (wt ws k) else 0) ws.length:=by
 have e1:∀i,i < n->y i*M0 n ws s0 i j=(if i=j then 1000*y j else 0)-Sg (λk=>if wt ws k=i/\wg ws k=j then wp ws k*y i else 0) ws.length:=λi hi=>by
  unfold M0;rw[wHj ∅,Int.mul_sub,← zBH]
  congr 1
  ·by_cases c:i=j
   ·rw[wHl c,wHl c,c,wH1]
   rw[wHj c,wHj c,Int.mul_zero]
  refine zA7 λk hk=>?_;show y i*(if _ then _ else _)=(if _ then _ else _)
  split
  ·exact wH1 _ _
  exact Int.mul_zero _
 rw[zA7 e1,zFh,zC3 hj,zFg]
 congr 1
 refine zA7 λk hk=>?_;show _=(if _ then _ else _);by_cases c:wg ws k=j
 ·rw[wHl c,← zC3 (p:=wt ws k) (c:=wp ws k*y (wt ws k)) (wo.t k hk)];refine zA7 λi hi=>?_;show (if _ then _ else _)=(if _ then _ else _);by_cases e:i=wt ws k
  ·rw[wHl ⟨e.symm,c⟩,wHl e,e]
  rw[wHj λz=>e z.1.symm,wHj e]
 rw[wHj c];exact zCU λi hi=>wHj λz=>c z.2
def zN2 (wo:WyOk n ws) {x:Nat->Int} {i:Nat} (hi:i < n):Sg (λj=>M0 n ws s0 i j*x j) n=1000*x i-Sg (λk=>if wt ws k=i then wp ws k*x (wg ws k) else 0) ws.length:=by
 have e1:∀j,j < n->M0 n ws s0 i j*x j=(if j=i then 1000*x i else 0)-Sg (λk=>if wt ws k=i/\wg ws k=j then wp ws k*x j else 0) ws.length:=λj hj=>by
  unfold M0;rw[wHj ∅,Int.sub_mul,wH1 (Sg _ _),← zBH]
  congr 1
  ·by_cases c:i=j
   ·rw[wHl c,wHl c.symm,c]
   rw[wHj c,wHj (Ne.symm c),Int.zero_mul]
  refine zA7 λk hk=>?_;show x j*(if _ then _ else _)=(if _ then _ else _)
  split
  ·exact wH1 _ _
  exact Int.mul_zero _
 rw[zA7 e1,zFh,zC3 hi,zFg]
 congr 1
 refine zA7 λk hk=>?_;show _=(if _ then _ else _);by_cases c:wt ws k=i
 ·rw[wHl c,← zC3 (p:=wg ws k) (c:=wp ws k*x (wg ws k)) (wo.g k hk)];refine zA7 λj hj=>?_;show (if _ then _ else _)=(if _ then _ else _);by_cases e:j=wg ws k
  ·rw[wHl ⟨c,e.symm⟩,wHl e,e]
  rw[wHj λz=>e z.2.symm,wHj e]
 rw[wHj c];exact zCU λj hj=>wHj λz=>c z.1
def zL7 {i:Nat}:M0 n ws s0 i n=if i=s0 then 1000 else 0:=by unfold M0;rw[wHl rfl]
theorem zN1 (wo:WyOk n ws) {x:Nat->Int} {l:Int}:Sol n (M0 n ws s0) x l↔∀i,i < n->1000*x i=(if i=s0 then 1000 else 0)*l+Sg (λk=>if wt ws k=i then wp ws k*x (wg ws k) else 0) ws.length:=by
 constructor
 ·intro h i hi;have:=h i hi;rw[zN2 wo hi,zL7] at this;omega
 intro h i hi;have:=h i hi;rw[zN2 wo hi,zL7];omega
def Lv (ws:Wys):Nat->Nat->Prop
 | 0,j=>0 < keeps ws j
 | t+1,j=>Lv ws t j∨∃k,k < ws.length/\wg ws k=j/\Lv ws t (wt ws k)
def zN0 (n:Nat) (ws:Wys):Prop:=∀j,j < n->Rch ws.length (wt ws) (wg ws) (λj=>decide (0 < keeps ws j)) j
def zP5 {j:Nat} (h:Rch ws.length (wt ws) (wg ws) (λj=>decide (0 < keeps ws j)) j):∃t,Lv ws t j:=by
 induction h with
 | base h=>exact⟨0,(wHw h:0 < keeps ws _)⟩
 | step hk _ ih=>
  obtain⟨t,h⟩:=ih;exact⟨t+1,.inr ⟨_,hk,rfl,h⟩⟩
def zQV {P:Nat->Prop}:∀t,P t->∃s,s<=t/\P s/\∀r,r < s->¬P r
 | 0,h=>⟨0,wHm _,h,λr hr=>absurd hr (wHA _)⟩
 | t+1,h=>by
  by_cases c:∃s,s<=t/\P s
  ·obtain⟨s,h1,h2⟩:=c;clear h;have:∀m s,s<=m->P s->∃s',s'<=s/\P s'/\∀r,r < s'->¬P r:=by
    intro m
    induction m with
    | zero=>intro s hs ps;exact⟨s,wHm _,ps,λr hr=>by omega⟩
    | succ m ih=>
     intro s hs ps;by_cases d:∃r,r < s/\P r
     ·obtain⟨r,r1,r2⟩:=d;obtain⟨s',a,b,cc⟩:=ih r ∅ r2;exact⟨s',by omega,b,cc⟩
     exact⟨s,wHm _,ps,λr hr pr=>d ⟨r,hr,pr⟩⟩
   obtain⟨s',a,b,cc⟩:=this t s h1 h2;exact⟨s',by omega,b,cc⟩
  exact⟨t+1,wHm _,h,λr hr pr=>c ⟨r,by omega,pr⟩⟩
theorem zNx {P:Nat->Nat->Prop}:∀n,(∀j,j < n->∃t,P t j)->∃D,∀j,j < n->∃t,t<=D/\P t j
 | 0,_=>⟨0,λj hj=>absurd hj (wHA _)⟩
 | n+1,h=>by
  obtain⟨D,hD⟩:=zNx n λj hj=>h j ∅;obtain⟨t,ht⟩:=h n ∅;refine⟨D+t,λj hj=>?_⟩;by_cases c:j=n
  ·subst c;exact⟨t,by omega,ht⟩
  obtain⟨t',a,b⟩:=hD j ∅;exact⟨t',by omega,b⟩
def zL6 {f:Nat->Int} {n p:Nat} (h:∀i,i < n->0<=f i) (hp:p < n):f p<=Sg f n:=by
 rw[zEd hp];have:=zJ5 (f:=λi=>if i=p then 0 else f i) (n:=n) λi hi=>by
  split
  ·exact wIi _
  exact h i hi
 omega
def zEo (a:Nat):(0:Int) < 1001 ^ a:=Int.pow_pos ⋯
def zKt {a b:Nat} (h:a<=b):(1001:Int) ^ a<=1001 ^ b:=by
 have:(1001:Nat) ^ a<=1001 ^ b:=Nat.pow_le_pow_right ⋯ h;have e:∀c:Nat,(1001:Int) ^ c=((1001 ^ c:Nat):Int):=λc=>by rw[Int.natCast_pow];rfl
 rw[e,e];omega
def zOV (wo:WyOk n ws) (ho:zN0 n ws):∃y:Nat->Int,(∀i,i < n->0 < y i)/\∀j,j < n->0 < Sg (λi=>y i*M0 n ws s0 i j) n:=by
 obtain⟨D,hD⟩:=zNx (P:=Lv ws) n λj hj=>zP5 (ho j hj);have hd:∀j,∃t,j < n->t<=D/\Lv ws t j/\∀r,r < t->¬Lv ws r j:=λj=>by
  by_cases c:j < n
  ·obtain⟨t,h1,h2⟩:=hD j c;obtain⟨s,a,b,cc⟩:=zQV (P:=λt=>Lv ws t j) t h2;exact⟨s,λ_=>⟨by omega,b,cc⟩⟩
  exact⟨0,λz=>absurd z c⟩
 obtain⟨d,hd⟩:=Classical.axiomOfChoice hd;have eb:∀j,j < n->(1001:Int) ^ (D-d j)<=1001 ^ D:=λj hj=>zKt ∅;have Mp:=zEo D;refine⟨λj=>1001*1001 ^ D-1001 ^ (D-d j),λi hi=>by have:=eb i hi;show 0 < 1001*1001 ^ D-1001 ^ (D-d i);omega,λj hj=>?_⟩;rw[zQz wo hj];have split:Sg (λk=>if wg ws k=j then wp ws k*(1001*1001 ^ D-1001 ^ (D-d (wt ws k))) else 0) ws.length=1001*1001 ^ D*zAV ws ws.length j-Sg (λk=>if wg ws k=j then wp ws k*1001 ^ (D-d (wt ws k)) else 0) ws.length:=by
  unfold zAV;rw[← zBH,← zFh];refine zA7 λk hk=>?_;show (if _ then _ else _)=_*(if _ then _ else _)-(if _ then _ else _);by_cases c:wg ws k=j
  ·rw[wHl c,wHl c,wHl c,Int.mul_sub,wH1 (wp ws k)]
  rw[wHj c,wHj c,wHj c];simp
 rw[split];have Fn:∀k,k < ws.length->0<=(if wg ws k=j then wp ws k*1001 ^ (D-d (wt ws k)) else 0:Int):=λk hk=>by
  split
  ·exact zCG (by have:=(wo.p k hk).1;omega) (wIn (zEo _))
  exact wIi _
 have F0:=zJ5 Fn;have on:=zDj wo j ws.length (wHm _);have o1:=wo.o j;obtain⟨dj,lv,mn⟩:=hd j hj;have e1:=zEo (D-d j);cases hdj:d j with
 | zero=>
  rw[hdj] at lv;have kp:0 < keeps ws j:=lv;unfold keeps at kp;have:1001*1001 ^ D*zAV ws ws.length j<=1001*1001 ^ D*999:=Int.mul_le_mul_of_nonneg_left ∅ ∅;rw[Nat.sub_zero];omega
 | succ t=>
  rw[hdj] at lv mn dj e1;have nl:=mn t ∅;rcases lv with z | ⟨k,hk,h1,h2⟩
  ·exact absurd z nl
  obtain⟨dk,_,mk⟩:=hd (wt ws k) (wo.t k hk);have dt:d (wt ws k)<=t:=wHW λz=>mk t ∅ h2;have ge:=zL6 Fn hk;rw[wHl h1] at ge;have g2:(1001:Int) ^ (D-t)<=1001 ^ (D-d (wt ws k)):=zKt ∅;have g3:(1001:Int) ^ (D-t)=1001 ^ (D-(t+1))*1001:=by rw[← Int.pow_succ];congr 1;omega
  have g4:1*1001 ^ (D-d (wt ws k))<=wp ws k*1001 ^ (D-d (wt ws k)):=Int.mul_le_mul_of_nonneg_right (wo.p k hk).1 (wIn (zEo _));have:1001*1001 ^ D*zAV ws ws.length j<=1001*1001 ^ D*1000:=Int.mul_le_mul_of_nonneg_left o1 ∅;omega
def zOU (wo:WyOk n ws) (ho:zN0 n ws):Good n 0 (M0 n ws s0):=by
 refine⟨λi j hi hj ne=>?_,λi hi=>?_,λi j hi hj=>absurd hj (wHA _),zOV wo ho⟩
 ·have:=zK1 wo (i:=i) (j:=j);unfold M0;rw[wHj ∅,wHj ne];omega
 rw[zL7];split<;>decide
end
section
variable {X:Cx}
inductive RNeT (K:W.Frag) (x:V) (y:V) (H:Hp) (Q:VK):Prop
 | mk (a b:Addr) (u v:Int):(x=.ref a)->(y=.ref b)->(SqT K H a [.int u,.int v])->(SqT K H b [.int u,.int v])->(Q (.bl false) H)->RNeT K x y H Q
def zPK (hu:X.A.units+64 < cLine):OpR X (compareOp .NotEq) (λx y H Q=>RNeT X.K x y H Q):=by
 intro pins s σ H x y vx vy Q I rx ry h;obtain⟨a,b,u,v,rfl,rfl,h1,h2,q⟩:=h;cases rx;cases ry;have rd:∀{c:Addr},SqT X.K H c [.int u,.int v]->Reads s.heap (.ref c) (.tuple [.int u,.int v]) []:=λ{c} hq=>by obtain⟨its,r,pl,hz⟩:=I.tuple hq;obtain⟨v1,v2,e,r1,r2⟩:=r.two;subst e;obtain⟨t1,rfl⟩:=r1;obtain⟨t2,rfl⟩:=r2;obtain⟨o,e1,e2,n,e3⟩:=pl;exact .tuple e1 e2 e3 (.cons (.int _ _) (.cons (.int _ _) .nil))
 refine ne_dataH (rd h1) (rd h2) rfl rfl hu ?_;have e:(PyData.tuple [.int u,.int v]).eqv (.tuple [.int u,.int v])=true:=by simp[PyData.eqv,PyData.eqvAll]
 rw[e];exact⟨.bl false,H,I,rfl,q⟩
end
def zO3 {x y x' y':Int} (hy:0 < y) (jG:0 < y') (g:Nat.gcd x.natAbs y.natAbs=1) (g':Nat.gcd x'.natAbs y'.natAbs=1) (e:x*y'=x'*y):x=x'/\y=y':=by
 have en:x.natAbs*y'.natAbs=x'.natAbs*y.natAbs:=by rw[← wIs,← wIs,e]
 have d1:y.natAbs ∣ y'.natAbs:=by
  refine Nat.Coprime.dvd_of_dvd_mul_left (k:=y.natAbs) (m:=x.natAbs) (n:=y'.natAbs) ?_ ?_
  ·show Nat.gcd _ _=1;rw[Nat.gcd_comm];exact g
  rw[en];exact Nat.dvd_mul_left _ _
 have d2:y'.natAbs ∣ y.natAbs:=by
  refine Nat.Coprime.dvd_of_dvd_mul_left (k:=y'.natAbs) (m:=x'.natAbs) (n:=y.natAbs) ?_ ?_
  ·show Nat.gcd _ _=1;rw[Nat.gcd_comm];exact g'
  rw[← en];exact Nat.dvd_mul_left _ _
 have ey:y=y':=by have:=Nat.dvd_antisymm d1 d2;omega
 subst ey;refine⟨?_,rfl⟩;rw[wH1 x,wH1 x'] at e;exact zB2 hy e
theorem zG2 {Y:Nat->Int}:∀n,(∀i,i < n->0 < Y i)->∃P,0 < P/\∀i,i < n->Y i ∣ P
 | 0,_=>⟨1,by decide,λi hi=>absurd hi (wHA _)⟩
 | n+1,h=>by
  obtain⟨P,p0,hP⟩:=zG2 n λi hi=>h i ∅;refine⟨P*Y n,wIv p0 (h n ∅),λi hi=>?_⟩;by_cases e:i=n
  ·subst e;exact Int.dvd_mul_left _ _
  exact Int.dvd_trans (hP i ∅) (Int.dvd_mul_right _ _)
section
variable {n s0:Nat} {ws:Wys}
def zNL (wo:WyOk n ws) (sn:s0 < n) {x:Nat->Int} {l:Int} (h:Sol n (M0 n ws s0) x l):Sg (λi=>keeps ws i*x i) n=1000*l:=by
 have e:=(zN1 wo).mp h;have e1:Sg (λi=>1000*x i) n=Sg (λi=>(if i=s0 then 1000*l else 0)+Sg (λk=>if wt ws k=i then wp ws k*x (wg ws k) else 0) ws.length) n:=zA7 λi hi=>by
  show 1000*x i=_;rw[e i hi];by_cases c:i=s0
  ·rw[wHl c,wHl c]
  rw[wHj c,wHj c,Int.zero_mul]
 rw[zH2,zC3 sn,zFg] at e1;have e2:Sg (λk=>Sg (λi=>if wt ws k=i then wp ws k*x (wg ws k) else 0) n) ws.length=Sg (λk=>wp ws k*x (wg ws k)) ws.length:=zA7 λk hk=>by
  refine Eq.trans ?_ (zC3 (p:=wt ws k) (c:=wp ws k*x (wg ws k)) (wo.t k hk));refine zA7 λi hi=>?_;show (if _ then _ else _)=(if _ then _ else _);by_cases c:i=wt ws k
  ·rw[wHl c.symm,wHl c]
  rw[wHj (Ne.symm c),wHj c]
 have e3:Sg (λj=>zAV ws ws.length j*x j) n=Sg (λk=>wp ws k*x (wg ws k)) ws.length:=by
  have:Sg (λj=>zAV ws ws.length j*x j) n=Sg (λj=>Sg (λk=>if wg ws k=j then wp ws k*x j else 0) ws.length) n:=zA7 λj hj=>by
   unfold zAV;rw[wH1,← zBH];refine zA7 λk hk=>?_;show x j*(if _ then _ else _)=(if _ then _ else _)
   split
   ·exact wH1 _ _
   exact Int.mul_zero _
  rw[this,zFg];refine zA7 λk hk=>?_;refine Eq.trans ?_ (zC3 (p:=wg ws k) (c:=wp ws k*x (wg ws k)) (wo.g k hk));refine zA7 λi hi=>?_;show (if _ then _ else _)=(if _ then _ else _);by_cases c:i=wg ws k
  ·rw[wHl c.symm,wHl c,c]
  rw[wHj (Ne.symm c),wHj c]
 have e4:Sg (λi=>keeps ws i*x i) n=Sg (λi=>1000*x i) n-Sg (λj=>zAV ws ws.length j*x j) n:=by rw[← zFh];refine zA7 λi hi=>?_;unfold keeps;rw[Int.sub_mul]
 rw[e4,e1,e2,e3];omega
def zF4 (wo:WyOk n ws) (sn:s0 < n) {X Y U W T:Nat->Int} {low:Int} (fo:∀i,i < n->0 < Y i) (fw:∀i,i < n->0 < W i) (key:∀(x:Nat->Int) (l:Int),(∀i,i < n->x i*Y i=X i*l)->Sol n (M0 n ws s0) x l)
  (sh:∀i,i < n->U i*(1000*Y i)=keeps ws i*X i*W i) (tp:∀i,i < n->T i*W i=U i*low):Sg T n=low:=by
 obtain⟨P,p0,hP⟩:=zG2 n fo;have hR:∀i,∃R,i < n->Y i*R=P:=λi=>by
  by_cases c:i < n
  ·obtain⟨R,e⟩:=hP i c;exact⟨R,λ_=>e.symm⟩
  exact⟨0,λz=>absurd z c⟩
 obtain⟨R,hR⟩:=Classical.axiomOfChoice hR;have so:=key (λi=>X i*R i) P λi hi=>by show X i*R i*Y i=X i*P;rw[← hR i hi];grind
 have ss:=zNL wo sn so;refine zB2 (c:=1000*P) ∅ ?_;rw[← zBH];have e:Sg (λi=>1000*P*T i) n=Sg (λi=>low*(keeps ws i*(X i*R i))) n:=zA7 λi hi=>by
  show 1000*P*T i=low*(keeps ws i*(X i*R i));refine zB2 (fw i hi) ?_;have a:=sh i hi;have b:=tp i hi;have c:=hR i hi
  grind
 rw[e,zBH,ss]
 grind
end
section
variable {X:Cx}
theorem zDp {α β:Type} (f:α->β):∀(l:List α) (j:Nat),(l.eraseIdx j).map f=(l.map f).eraseIdx j
 | [],_=>rfl
 | _::_,0=>rfl
 | x::l,j+1=>by show f x::(l.eraseIdx j).map f=f x::(l.map f).eraseIdx j;rw[zDp f l j]
def zOg:V->List V->Hp->VK->Prop:=λx vs H Q=>∃(l:Addr) (ns:List Int) (i:Int),x=.ref l/\vs=[.int i]/\H l=some (.lst (ns.map V.int))/\i∈ns/\Q .non (upd H l (.lst ((ns.erase i).map V.int)))
def zKI:MtM X "list.remove" zOg:=by
 intro pins s σ H x vs v us Q I rx rv h;obtain⟨l,ns,i,rfl,rfl,hH,hi,q⟩:=h;cases rx;obtain⟨u,rfl,ru⟩:=rv.one;obtain⟨tu,rfl⟩:=ru;obtain⟨z,its,n,r,hl,e⟩:=I.lstM hH;have ia:IntsAre its ns:=zC6 r;have hn:its.length=ns.length:=ia.length;obtain⟨j,hj,ej,fj⟩:∃j,∃hj:j < ns.length,ns[j]=i/\∀m (hm:m < ns.length),m < j->ns[m]≠i:=by
  refine⟨ns.idxOf i,List.idxOf_lt_length_of_mem hi,List.getElem_idxOf (List.idxOf_lt_length_of_mem hi),λm hm aF e=>?_⟩;have:ns.idxOf i<=m:=by refine wHW λc=>?_;have hfi:List.findIdx (λx=>x == i) ns=ns.idxOf i:=rfl;have:=List.not_of_lt_findIdx (p:=(· == i)) (xs:=ns) (i:=m) ∅;simp[e] at this
  omega
 have at_:∀m (hm:m < its.toArray.size),∃t,its.toArray[m]=Value.int (ns[m]'(by simp at hm;omega)) t:=λm hm=>by
  have mV:m < its.length:=by simpa using hm
  obtain⟨t,et⟩:=IntsAre.int_at ia m its[m] (by simp[mV]);have hm3:m < ns.length:=by omega
  refine⟨t,?_⟩;simp only[List.getElem_toArray];rw[et,wHh,wHg hm3]
  rfl
 refine call_meets F.slot_list_remove ⟨_,e,rfl⟩ F.entry_list_remove (F.args_list_remove_2 _ _) (MeetsSeq.list_remove l its.toArray n (.int i tu) (λy=>match y with | .int k _=>k == i | _=>false) (λy hy=>?_) j (by simp;omega) ?_ λm hm aF=>?_) ⟨e,?_⟩
 ·obtain⟨m,hm,rfl⟩:=Array.mem_iff_getElem.mp hy;obtain⟨t,et⟩:=at_ m hm
  rw[et];exact MeetsSeq.EqGives.int _ _ _ _
 ·obtain⟨t,et⟩:=at_ j (by simp;omega)
  rw[et];simp[ej]
 ·obtain⟨t,et⟩:=at_ m hm
  rw[et];have:=fj m (by simp at hm;omega) aF;simp[this]
 have ee:ns.erase i=ns.eraseIdx j:=by
  have hji:ns.idxOf i=j:=by
   have h1:ns.idxOf i < ns.length:=List.idxOf_lt_length_of_mem hi;have h2:ns[ns.idxOf i]=i:=List.getElem_idxOf h1;rcases Nat.lt_trichotomy (ns.idxOf i) j with c | c | c
   ·exact absurd h2 (fj _ h1 c)
   ·exact c
   exfalso
   have:=List.not_of_lt_findIdx (p:=(· == i)) (xs:=ns) (i:=j) c;simp[ej] at this
  rw[← hji];exact List.erase_eq_eraseIdx_of_idxOf rfl
 have em:(ns.erase i).map V.int=(ns.map V.int).eraseIdx j:=by rw[ee,zDp]
 rw[em] at q;refine⟨.non,_,I.lset (its':=its.eraseIdx j) hH e ?_ (r.eraseIdx j) ?_,rfl,q⟩
 ·show its.toArray.eraseIdxIfInBounds j=(its.eraseIdx j).toArray;rw[List.eraseIdxIfInBounds_toArray]
 have:=zHa (ns.map V.int) j;omega
theorem zH8:∀{xs:List V} {vs:List Value},xs.length=vs.length->(∀(i:Nat) (x:V) (v:Value),xs[i]?=some x->vs[i]?=some v->zBg x v)->zA4 xs vs
 | [],[],_,_=>.nil
 | x::xs,v::vs,hl,h=>.cons (h 0 x v rfl rfl) (zH8 (by simpa using hl) λi x' v' h1 h2=>h (i+1) x' v' (by simpa using h1) (by simpa using h2))
def tLR (ta:TA):TE:=λσ H Q=>ta σ H λvs H1=>∃j:Nat,vs=[.int (j:Nat)]/\j<=1000/\∀l,H1 l=none->Q (.ref l) (upd H1 l (.lst (tab j λi=>V.int (i:Nat))))
def zGN {a:Expr} {ta:TA} {p pos p2 cN:Pos} (hgl:Gl X "list") (hml:X.mg "list"=none) (hg:Gl X "range") (hm:X.mg "range"=none) (ha:PA X [a] ta) (hc:X.calm=true) (hs:starEach [a] X.env=[(false,eval a X.env)]:=by rfl)
  (eZ:starEach [.Call (.Name "range" p2) [a] [] cN] X.env=[(false,eval (.Call (.Name "range" p2) [a] [] cN) X.env)]:=by rfl):PE X (.Call (.Name "list" p) [.Call (.Name "range" p2) [a] [] cN] [] pos) (tLR ta):=by
 intro pins s σ H Q I h;refine wpAny_Call_Name_kw (zDq I hgl hml boot_list ?_);refine PyProof.Rows.callWith_type1 ?_ eZ rfl;rw[eZ];show wpAny _ _ (spliced ((false,eval (.Call (.Name "range" p2) [a] [] cN) X.env)::[])) _ _ s;refine Calls.spliced_cons ?_;refine Call_ (zDq I hg hm boot_range (PyProof.Rows.callWith_type1 (thn (ha cN pins s σ H _ I h) λus s1 ⟨vs,H1,I1,r1,q1⟩=>?_) hs rfl));obtain⟨j,e,hj,q⟩:=q1;subst e;obtain⟨u,rfl,ru⟩:=r1.one;obtain⟨t,rfl⟩:=ru;refine call_range_1 ?_;refine Calls.spliced_nil ?_;have rs:Builtin.Range.rangeSize 0 (j:Int) 1=((j:Nat):Int):=by rw[rangeSize_one];split<;>omega
 refine call_list_range (n:=j) (I.ok.hd hc) (IsRange.new ..) (small_one ∅ ∅ ∅ ∅) rs ∅ λh' tk aH c' kp e hi=>?_;have I2:Inv X pins σ H1 { s1 with heap:=s1.heap.push { cls:=.type "range",data:=.fields #[.int 0 s1.toks,.int (j:Int) t,.int 1 (s1.toks+1)] },toks:=s1.toks+1+1 }:=I1.kept λb o e=>wHi _ e;obtain⟨hn,hv⟩:=hi;refine⟨.ref _,_,I2.laid (t':=tk) kp (wHm _) (show ObjOk X.prog X.w _ h' _ (.lst (tab j λi=>V.int (i:Nat))) from ⟨by rw[zW];exact small hj,aH.toList,c',zH8 (by rw[zW];simp[hn]) λi x v h1 h2=>?_,by simpa using e⟩),rfl,q _ (I2.hok.fresh (wHm _))⟩;obtain⟨hi,rfl⟩:=zA5 h1;obtain⟨t',rfl⟩:=hv i v (by simpa using h2);refine⟨t',?_⟩
 congr 1
 omega
end
open PySem.W (KasT)
def AllK {α:Type} (n:Nat) (P:α->Prop):KasT α->Prop
 | .ret a=>P a
 | .ask i j k=>i < n/\j < n/\∀b,AllK n P (k b)
theorem AllK.bind {α β:Type} {n:Nat} {P:α->Prop} {R:β->Prop} {f:α->KasT β}:∀{t:KasT α},AllK n P t->(∀a,P a->AllK n R (f a))->AllK n R (t.bind f)
 | .ret a,h,k=>k a h
 | .ask i j g,⟨h1,h2,h3⟩,k=>⟨h1,h2,λb=>AllK.bind (h3 b) k⟩
theorem AllK.wp {α:Type} {n:Nat} {P:α->Prop} {cmp:Nat->Nat->(Bool->Shared->Prop)->Shared->Prop} {Q:α->Shared->Prop} {s:Shared} (hc:∀i j C,i < n->j < n->(∀b,C b s)->cmp i j C s) (hq:∀a,P a->Q a s):∀{t:KasT α},AllK n P t->KasT.kasWp cmp t Q s
 | .ret a,h=>hq a h
 | .ask i j g,⟨h1,h2,h3⟩=>hc i j _ h1 h2 λb=>AllK.wp hc hq (h3 b)
def Pm (n:Nat) (p:Array Nat):Prop:=p.toList.Perm (List.range n)
def Pm.lt {n:Nat} {p:Array Nat} (h:Pm n p) (hn:0 < n) (k:Nat):p.getD k 0 < n:=by
 rw[Array.getD_eq_getD_getElem?];cases e:p[k]? with
 | none=>exact hn
 | some x=>
  have:x∈p.toList:=by have:=Array.mem_of_getElem? e;exact Array.mem_toList_iff.mpr this
  exact List.mem_range.mp (h.mem_iff.mp this)
def Pm.rev {n:Nat} {p:Array Nat} (h:Pm n p) (i j:Nat):Pm n (W.kas_rev p i j):=by have:=foldl_swaps_perm (λk=>i+k) (λk=>j-1-k) (List.range ((j-i) / 2)) p;exact (Array.perm_iff_toList_perm.mp this).trans h
def Pm.bub {n:Nat} {p:Array Nat} (h:Pm n p) (k d:Nat):Pm n (bubble p k d):=by have:=foldl_swaps_perm (λx=>k-x) (λx=>k-x-1) (List.range d) p;exact (Array.perm_iff_toList_perm.mp this).trans h
section
variable {n:Nat} (hn:0 < n)
include hn
end
section
variable {X:Cx} {pins:List (Addr × Obj)} {σ:St} {H:Hp} {s:Shared}
def _root_.L2.ObjOk.there {P:Program} {w:World} {H:Hp} {h:Heap} {a:Addr} {o:HO} (x:ObjOk P w H h a o):∃u,h.get? a=some u:=by
 cases o with
 | lst xs=>obtain⟨_,_,_,_,e⟩:=x;exact⟨_,e⟩
 | tup xs=>obtain⟨_,_,_,p⟩:=x;obtain⟨o,e,_⟩:=p;exact⟨o,e⟩
 | dK aJ=>obtain⟨_,_,_,_,o,_,_,e,_⟩:=x;exact⟨_,e⟩
 | dT aJ=>obtain⟨_,_,_,_,o,_,_,e,_⟩:=x;exact⟨_,e⟩
 | set S n=>obtain⟨o,_,_,_,e,_⟩:=x;exact⟨_,e⟩
 | ins C dx fs=>obtain⟨_,_,_,e,_⟩:=x;exact⟨_,e⟩
 | own y=>obtain⟨_,e⟩:=x;exact⟨_,e⟩
 | xd fs=>obtain⟨_,⟨_,_,_,e,_⟩,_⟩:=x;exact⟨_,e⟩
 | rng lo hi=>obtain⟨_,_,_,e⟩:=x;exact⟨_,e⟩
 | frz ob u=>obtain⟨e,_⟩:=x;exact⟨_,e⟩
 | tbl ps=>exact⟨_,(show h.get? a=some _ from x)⟩
 | met f y=>exact⟨_,(show h.get? a=some _ from x)⟩
 | ext φ=>obtain⟨_,⟨_,e⟩,_⟩:=x;exact⟨_,e⟩
def zLj {P:Program} {w:World} {H:Hp} {h:Heap} {a:Addr} (x:HOk P w H h) (e:h.get? a=none):H a=none:=by
 cases q:H a with
 | none=>rfl
 | some o=>
  obtain⟨u,eu⟩:=(x a o q).there;rw[e] at eu;cases eu
def Inv.locNew {D:Addr} {o:HO} {h':Heap} {t':Nat} (I:Inv X pins σ H s) (hD:s.heap.get? D=none) (k:∀b u,b≠X.env.locals->s.heap.get? b=some u->h'.get? b=some u) (ns:∀m,s.heap.Ns X.env.locals m->h'.Ns X.env.locals m)
  (new:ObjOk X.prog X.w (upd H D o) h' D o):Inv X pins σ (upd H D o) { s with heap:=h',toks:=t' }:=by
 have fresh:H D=none:=zLj I.hok hD;have neD:∀b u,s.heap.get? b=some u->b≠D:=λb u e z=>by rw[z,hD] at e;cases e
 have nl:∀b u,H b=some u->b≠X.env.locals:=λb u e z=>by rw[z,I.free] at e;cases e
 refine I.step (g':=s.gens) (d':=s.drawn) (ch:=[]) (λb hb=>by cases hb) (λb u n _ _ e _=>k b u n e) (λb u n _ _ e _=>⟨u.slots,k b u n e⟩) (λb u _ e n=>by rw[zO (neD b u e)];exact n)
  (λb u _ e=>?_) (λb xs e=>by rw[zO (zN e fresh)];exact e) (λb u xs e=>by rw[zO (zN e fresh)];exact e) (λb ps e=>⟨#[],by rw[zO (zN e fresh),e];simp⟩) ns (λb u e=>?_) I.bare
 ·by_cases z:b=X.env.locals
  ·obtain⟨m,hm,_⟩:=I.loc;obtain⟨o',_,_,bQ,_⟩:=ns m hm;exact⟨o',by rw[z];exact bQ⟩
  exact⟨u,k b u z e⟩
 by_cases hb:b=D
 ·subst hb;rw[zB] at e;cases e;exact new
 rw[zO hb] at e;refine (I.hok b u e).stay (λc v hc q=>k c v ?_ q) (λc q=>by rw[zO (zN q fresh)];exact q) λc xs q=>by rw[zO (zN q fresh)];exact q
 rcases hc with rfl | hc
 ·exact nl _ _ e
 exact nl _ _ hc
end
structure Ord (n:Nat) (sp:Nat->Nat):Prop where
 lt:∀k,k < n->sp k < n
 inj:∀k j,k < n->j < n->sp k=sp j->k=j
 sur:∀h,h < n->∃k,k < n/\sp k=h
def Ord.of {n:Nat} {π:List Nat} (h:π.Perm (List.range n)):Ord n (λk=>π.getD k 0):=by
 have hl:π.length=n:=by rw[h.length_eq,wIl]
 have hg:∀k (hk:k < n),π.getD k 0=π[k]:=λk hk=>by rw[wHh,wHg ∅];rfl
 refine⟨λk hk=>?_,λk j hk hj e=>?_,λx hx=>?_⟩
 ·show π.getD k 0 < n;rw[hg k hk];exact List.mem_range.mp (h.mem_iff.mp (wHF _))
 ·have e':π.getD k 0=π.getD j 0:=e;rw[hg k hk,hg j hj] at e';exact (List.getElem_inj (h.nodup_iff.mpr List.nodup_range)).mp e'
 obtain⟨k,hk,ek⟩:=List.mem_iff_getElem.mp (h.mem_iff.mpr (List.mem_range.mpr hx));exact⟨k,by omega,by show π.getD k 0=x;rw[hg k ∅];exact ek⟩
def tx (l:List Nat):Str:=⟨l.toArray⟩
def zJH (a b:List Nat):tx a++tx b=tx (a++b):=by show Str.mk (a.toArray++b.toArray)=Str.mk (a++b).toArray;simp
def zCD (l:List Nat):(tx l).length=l.length:=by show l.toArray.size=_;simp
def zEr (l:List Nat):(tx l).cps.toList=l:=by show l.toArray.toList=l;simp
def zIe (x:Str):x=tx x.cps.toList:=by cases x;show Str.mk _=Str.mk _;simp
def zPh {a b:List Nat} (h:tx a=tx b):a=b:=by have:=congrArg (λs:Str=>s.cps.toList) h;simpa [zEr] using this
def zBv (x:Str):x.length=x.cps.toList.length:=by show x.cps.size=_;simp
def dg (m:Nat):List Nat:=(Nat.toDigits 10 m).map Char.toNat
def zOL (m:Nat):Str.ofString (toString ((m:Nat):Int))=tx (dg m):=by rw[zIe (Str.ofString (toString ((m:Nat):Int))),PySem.W.KIN.signs_num];rfl
def zGt {m:Nat} (h:m < 10):dg m=[48+m]:=by
 unfold dg;rw[Nat.toDigits_of_lt_base h]
 revert m
 decide
def zOM {m:Nat} (h:10<=m):dg m=dg (m / 10)++[48+m%10]:=by
 have e:m=10*(m / 10)+m%10:=by omega
 have p:0 < m / 10:=by omega
 have q:m%10 < 10:=by omega
 have:dg m=dg (m / 10)++dg (m%10):=by
  unfold dg
  conv=>lhs;rw[e]
  rw[← Nat.toDigits_append_toDigits ⋯ p q,wHr]
 rw[this,zGt q]
theorem zQo {m:Nat} (h:0 < m):Str.ofString (toString (-((m:Nat):Int)))=tx (45::dg m):=by
 obtain⟨k,rfl⟩:∃k,m=k+1:=⟨m-1,by omega⟩;rw[zIe (Str.ofString _),signs_ofString];have e:(toString (-((k+1:Nat):Int))).toList='-'::Nat.toDigits 10 (k+1):=by show ("-"++Nat.repr (k+1)).toList=_;rw[String.toList_append,Nat.toList_repr];rfl
 rw[e];rfl
theorem zLq:∀(k m:Nat),m < 10 ^ (k+1)->(dg m).length<=k+1
 | 0,m,h=>by rw[zGt ∅];exact wHm _
 | k+1,m,h=>by
  by_cases c:m < 10
  ·rw[zGt c];exact Nat.le_add_left _ _
  rw[zOM ∅,wHp];have:=zLq k (m / 10) (by rw[Nat.pow_succ] at h;omega);show _+1<=_;omega
def sz (n:Nat) (h:n<=16777216):n<=sizeLine:=by rw[sizeLine_eq];exact h
def Shw:V->Str->Prop
 | .int i,y=>i.natAbs.log2 < 1920/\y=Str.ofString (toString i)
 | .str z,y=>z.length<=sizeLine/\y=z
 | _,_=>False
abbrev TJ:=St->Hp->Str->(Str->Hp->Prop)->Prop
section
variable {X:Cx}
def PJ (X:Cx) (es:List Expr) (t:TJ):Prop:=
 ∀(pins:List (Addr × Obj)) (s:Shared) (σ:St) (H:Hp) (out:Str) (Q:Str->Hp->Prop),Inv X pins σ H s->t σ H out Q->
  wpAny (model X.prog X.w) X.A (joinParts out (evalEach es X.env)) (EP X pins σ λv H'=>∃y,v=.str y/\Q y H') X.xe s
def zRU:TJ:=λ_ H out Q=>out.length<=sizeLine/\Q out H
def zRV (y:Str) (t:TJ):TJ:=λσ H out Q=>(out++y).length<=sizeLine/\t σ H (out++y) Q
inductive JVal (t:TJ) (out:Str) (Q:Str->Hp->Prop) (x:V) (σ:St) (H1:Hp):Prop
 | mk (y:_):Shw x y->((out++y).length<=sizeLine)->(t σ H1 (out++y) Q)->JVal t out Q x σ H1
def zRS (te:TE) (t:TJ):TJ:=λσ H out Q=>te σ H λx H1=>JVal t out Q x σ H1
def zDg:PJ X [] zRU:=λpins s σ H out Q I h=>joinParts_nil ⟨.str out,H,I.tok _,⟨_,rfl⟩,out,rfl,h.2⟩ h.1
def zBT {y:Str} {j pos} {es:List Expr} {t:TJ} (h:PJ X es t):PJ X (.Constant (.str y) j pos::es) (zRV y t):=λpins s σ H out Q I hq=>
 joinParts_cons (Calls.Constant_str ⟨hq.1,h pins _ σ H (out++y) Q (I.tok _) hq.2⟩)
def zDf {e:Expr} {te:TE} {pos} {es:List Expr} {t:TJ} (he:PE X e te) (h:PJ X es t):PJ X (.FormattedValue e (-1) none pos::es) (zRS te t):=λpins s σ H out Q I hq=>by
 refine joinParts_cons (FormattedValue_plain (thn (he pins s σ H _ I hq) λv s1 aB=>?_));obtain⟨x,H1,I1,r1,y,sh,hz,q⟩:=aB;cases x<;>first
  | exact sh.elim
  | skip
 ·obtain⟨hl,rfl⟩:=sh;obtain⟨t1,rfl⟩:=r1;exact formatField_int_small hl ⟨hz,h pins _ σ H1 _ Q (I1.tok _) q⟩
 obtain⟨hl,rfl⟩:=sh;obtain⟨t1,rfl⟩:=r1;exact formatField_str (λt' tk=>⟨hz,h pins _ σ H1 _ Q (I1.tok _) q⟩) hl
def zQH (t:TJ):TE:=λσ H Q=>t σ H Str.empty λy H'=>Q (.str y) H'
def zBm {a b:Expr} {es:List Expr} {pos:Pos} {t:TJ} (h:PJ X (a::b::es) t):PE X (.JoinedStr (a::b::es) pos) (zQH t):=λpins s σ H Q I hq=>
 JoinedStr_many (thn (h pins s σ H _ _ I hq) λv s1 ⟨x,H1,I1,r1,y,e,q⟩=>⟨x,H1,I1,r1,by rw[e];exact q⟩)
theorem zHB:∀{xs:List Str} {us:List Value},zA4 (xs.map V.str) us->StrsAre us xs
 | [],_,.nil=>.nil
 | x::xs,_,.cons ⟨t,e⟩ r=>by subst e;exact .cons x t (zHB r)
inductive RJoin (K:W.Frag) (x:V) (vs:List V) (H:Hp) (Q:VK):Prop
 | mk (sep:Str) (p:Addr) (xs:List Str):(x=.str sep)->(vs=[.ref p])->(SqL K H p (xs.map V.str))->((xs.map (·.length)).sum+xs.length*sep.length<=16777216)->(Q (.str (Str.join sep xs)) H)->RJoin K x vs H Q
def zP6 (K:W.Frag):V->List V->Hp->VK->Prop:=λx vs H Q=>RJoin K x vs H Q
def zO0:MtR X "str.join" (zP6 X.K):=by intro pins s σ H x xs v us Q I rx rs h;obtain⟨sep,p,ys,rfl,rfl,hq,hz,q⟩:=h;obtain⟨t,rfl⟩:=rx;obtain⟨u,rfl,r1⟩:=zA4.one rs;cases (show u=Value.ref p from r1);obtain⟨its,rv,pl,hz'⟩:=I.list hq;refine join_list pl.isList (by simpa using zHB rv) hz λt' k=>⟨.str _,H,I.tok _,⟨_,rfl⟩,?_⟩;have e:Txt.join sep ys=Str.join sep ys:=StrLaws.glued_eq_join sep ys;rw[e];exact q
def zM2 (K:W.Frag) (h:X.K=K:=by rfl):MtR X "str.join" (zP6 K):=by subst h;exact zO0
def zFC:OpR X (binaryOp .Mult) (λx y H Q=>∃z n,x=.str z/\y=.int n/\0<=n/\n<=1000/\z.length<=1000/\Q (.str (tx (List.replicate n.toNat z.cps.toList).flatten)) H):=by
 intro pins s σ H x y v u Q I rx ry h;obtain⟨z,n,rfl,rfl,n0,n1,hz,q⟩:=h;obtain⟨t,rfl⟩:=rx;obtain⟨t',rfl⟩:=ry;have hs:sizeLine=16777216:=sizeLine_eq;have em:Txt.mul z n=tx (List.replicate n.toNat z.cps.toList).flatten:=by
  unfold Txt.mul;by_cases c:n < 1
  ·rw[wHl c];have:n.toNat=0:=by omega
   rw[this];rfl
  rw[wHj c];by_cases d:(n == 1 || z.length == 0)=true
  ·rw[wHl d];rcases Bool.or_eq_true _ _ ▸ d with d | d
   ·have:n=1:=by simpa using d
    subst this;show z=tx ([z.cps.toList].flatten);rw[List.flatten_singleton];exact zIe z
   have d:z.length=0:=by simpa using d
   have e:z.cps.toList=[]:=List.eq_nil_of_length_eq_zero (by rw[← zBv];exact d);rw[e]
   conv=>lhs;rw[zIe z,e]
   congr 1
   generalize n.toNat=k
   induction k with
   | zero=>rfl
   | succ k ih=>rw[wIc,wIt,← ih];rfl
  rw[wHj d];show Str.mk _=Str.mk _
  congr 1
  generalize n.toNat=k;have:∀(k:Nat) (aH:Array Nat),(List.replicate k z.cps).foldl (·++·) aH=aH++(List.replicate k z.cps.toList).flatten.toArray:=by
   intro k
   induction k with
   | zero=>intro aH;simp
   | succ k ih=>
    intro aH;rw[wIc,List.foldl_cons,ih,wIc,wIt,Array.append_assoc]
    congr 1
    rw[← Array.toList_inj];simp
  rw[this];simp
 have b1:z.length*n.toNat<=1000*1000:=Nat.mul_le_mul hz ∅;refine SB.mul ⟨?_,λ_ _=>?_,λ_ _=>?_⟩ λt' k=>⟨.str _,H,I.tok _,⟨_,rfl⟩,by rw[em];exact q⟩
 ·have e1:decide (n < -(2 ^ 63:Int))=false:=wHJ ∅;have e2:decide (n≥2 ^ 63)=false:=wHJ ∅;rw[e1,e2];rfl
 ·rename_i c _
  intro z1;have b2:(1000:Int)*n<=2 ^ 63-1:=by omega
  have:(1000:Int)<=(2 ^ 63-1) / n:=Int.le_ediv_of_mul_le ∅ b2;omega
 unfold Builtin.Str.tooLong;exact wHJ (by rw[hs];omega)
end
def jn (sep:List Nat):List (List Nat)->List Nat
 | []=>[]
 | [x]=>x
 | x::y::r=>x++sep++jn sep (y::r)
def vx (l:List Nat):V:=.str (tx l)
def zMS {xs:List Nat} {k:Int} {v:Nat} (h0:0<=k) (h:xs[k.toNat]?=some v):atI xs k=some v:=by
 have ek:k=((k.toNat:Nat):Int):=by omega
 rw[ek];exact zDL h
def zDM (h:Heap) (e T:Addr) (cls:Value) (dd:Option Addr) (fl:Value):Prop:=
 ∃oe vs oT ts,h.get? e=some oe/\oe.cls=cls/\oe.dict=dd/\oe.data=.fields vs/\vs[1]?=some (.ref T)/\vs[2]?=some .none/\T≠e/\h.get? T=some oT/\oT.data=.fields ts/\ts[3]?=some fl
structure Moved (fs ch:List Addr) (h h':Heap):Prop where
 keep:∀b o,b∉fs->b∉ch->h.get? b=some o->h'.get? b=some o
 slot:∀b o,b∉ch->h.get? b=some o->∃sl,h'.get? b=some { o with slots:=sl }
def Moved.refl {fs ch:List Addr} {h:Heap}:Moved fs ch h h:=⟨λ_ _ _ _ e=>e,λ_ o _ e=>⟨o.slots,e⟩⟩
def Moved.trans {fs ch:List Addr} {h h1 h2:Heap} (x:Moved fs ch h h1) (y:Moved fs ch h1 h2):Moved fs ch h h2:=
 ⟨λb o n m e=>y.keep b o n m (x.keep b o n m e),λb o m e=>let ⟨_,e1⟩:=x.slot b o m e;let ⟨sl,e2⟩:=y.slot b _ m e1;⟨sl,e2⟩⟩
def Moved.mono {fs ch eO ch':List Addr} {h h':Heap} (x:Moved fs ch h h') (a:∀b∈fs,b∈eO) (c:∀b∈ch,b∈ch'):Moved eO ch' h h':=
 ⟨λb o n m e=>x.keep b o (λz=>n (a b z)) (λz=>m (c b z)) e,λb o m e=>x.slot b o (λz=>m (c b z)) e⟩
def Moved.upd1 {h:Heap} {a:Addr} {f:Obj->Obj}:Moved [] [a] h (h.update a f):=by have k:∀b,b∉[a]->(h.update a f).get? b=h.get? b:=λb n=>wHG _ _ λz=>n (by rw[z];exact List.mem_singleton.mpr rfl);exact⟨λb o _ n e=>(k b n).trans e,λb o n e=>⟨o.slots,(k b n).trans e⟩⟩
def Moved.push {h:Heap} {o:Obj}:Moved [] [] h (h.push o):=⟨λb u _ _ e=>wHi _ e,λb u _ e=>⟨u.slots,wHi _ e⟩⟩
def Moved.slots {S:List Addr} {h h':Heap} (x:Heap.SlotsOnly S h h'):Moved S [] h h':=⟨λb o n _ e=>(x.2.1 b n).trans e,λb o _ e=>x.2.2 b o e⟩
def FunFrames.moved {base h h':Heap} {ch:List Addr} {fs:List Addr} {l:List Env} (x:h.FunFrames base l) (m:Moved fs ch h h') (hc:∀b∈ch,∀o,h.get? b=some o->∃vs,o.data=.fields vs):h'.FunFrames base l:=
 x.of_keeps λb o e hn=>by obtain⟨sl,q⟩:=m.slot b o (λz=>let ⟨vs,hv⟩:=hc b z o e;hn vs hv) e;exact⟨_,q,rfl⟩
section
variable {M:Model} {A:Around} {E:Value->Shared->Prop} {s:Shared} {base:Heap} {env:Env} {outer:List Env} {L e:Addr} {Q:Unit->Shared->Prop}
def zNt {oe:Obj} {vs:Array Value} {head:Value} {eM:Bool} (eI:A.frames=some (env::outer)) (hl:s.heap.FunFrames base (env::outer)) (hf:env.frame=some L)
  (he:s.heap.get? e=some oe) (hd:oe.data=.fields vs) (h2:vs[2]?=some .none)
  (k:∀h' T,Moved (frs (env::outer)) [e] s.heap h'->s.heap.get? T=none->zDM h' e T oe.cls oe.dict (rawInt L)->Q PUnit.unit { s with heap:=h' }) :
  wpAny M A (do let a ← frameOf env;let pl ← entryPlaceOf L eM;let b ← EntryCells.newEntry head a .none (rawInt L) .none pl;setField (.ref e) 1 b) Q E s:=by
 have nfr:e∉frs (env::outer):=λz=>by obtain⟨_,o,ho,hn⟩:=hl.mem z;rw[he] at ho;cases ho;exact hn vs hd
 have sz2:2 < vs.size:=(Array.getElem?_eq_some_iff.mp h2).1;refine wHe (wpAny_frameOf_fun eI hl hf λh1 so=>wHe (wpAny_entryPlaceOf λpl ip=>?_));have e1:h1.get? e=some oe:=(so.2.1 e nfr).trans he;unfold EntryCells.newEntry newFields;refine wHe (wH0 ?_ (ip.sizeOk5 _ _ _ _ _));generalize mM:(([head,.ref L,.none,rawInt L,.none]++(if pl.isEmpty then List.replicate 6 Value.none else pl)).toArray:Array Value)=cells;have c3:cells[3]?=some (rawInt L):=by rw[← mM];simp
 refine wpAny_setField (wHi _ e1) hd ∅ (k _ h1.objs.size ?_ ?_ ?_)
 ·exact ((Moved.slots so).mono (λ_ z=>z) (λ_ z=>nomatch z)).trans (((Moved.push).mono (λ_ z=>nomatch z) (λ_ z=>nomatch z)).trans (Moved.upd1.mono (λ_ z=>nomatch z) λ_ z=>z))
 ·exact wIw (wIx so.1.symm)
 have hTe:h1.objs.size≠e:=Nat.ne_of_gt (wHq e1);have cY:=Obj.data_mapFields hd (·.setIfInBounds 1 (Value.ref h1.objs.size));refine⟨_,_,_,cells,wIb _ (wHi _ e1) (Obj.isFreed_of_fields cY),Obj.cls_mapFields _ _,?_,cY,?_,?_,hTe,(wHG _ _ (Ne.symm hTe)).trans (wHs h1 rfl),rfl,c3⟩
 ·obtain⟨c,d,dt,sl⟩:=oe;cases hd
  rfl
 ·rw[Array.getElem?_setIfInBounds_self_of_lt ∅]
 rw[Array.getElem?_setIfInBounds_ne ⋯];exact h2
def zMv {oe:Obj} {vs:Array Value} (eI:A.frames=some (env::outer)) (hl:s.heap.FunFrames base (env::outer)) (hf:env.frame=some L)
  (he:s.heap.get? e=some oe) (hd:oe.data=.fields vs) (h1:vs[1]?=some .none) (h2:vs[2]?=some .none)
  (k:∀h' T,Moved (frs (env::outer)) [e] s.heap h'->s.heap.get? T=none->zDM h' e T oe.cls oe.dict (rawInt L)->Q PUnit.unit { s with heap:=h' }):wpAny M A (noteFrame (.ref e) env) Q E s:=by
 unfold noteFrame;simp only[hf];refine wHe (wIu he hd h1 ?_);rw[wHj ⋯];exact zNt eI hl hf he hd h2 k
def zKF {T:Addr} {cls:Value} {dd:Option Addr} (eI:A.frames=some (env::outer)) (hl:s.heap.FunFrames base (env::outer)) (hf:env.frame=some L) (x:zDM s.heap e T cls dd .none)
  (k:∀h' T',Moved (frs (env::outer)) [e,T] s.heap h'->s.heap.get? T'=none->zDM h' e T' cls dd (rawInt L)->Q PUnit.unit { s with heap:=h' }):wpAny M A (noteFrame (.ref e) env) Q E s:=by
 obtain⟨oe,vs,oT,ts,he,rfl,rfl,hd,h1,h2,aO,hT,fG,h3⟩:=x;unfold noteFrame;simp only[hf];refine wHe (wIu he hd h1 ?_);rw[wHl (show (Value.ref T != Value.none)=true from rfl)];refine wHe (wIu hT fG h3 ?_);rw[wHj (show ¬((Value.none == rawInt L)=true) from by simp[rawInt])];refine wHe (wpAny_setField hT fG (Array.getElem?_eq_some_iff.mp h3).1 ?_);have m1:Moved [] [T] s.heap (s.heap.update T (Obj.mapFields (·.setIfInBounds 3 Value.none))):=Moved.upd1;refine zNt (s:={ s with heap:=_ }) eI (FunFrames.moved hl m1 λb hb o ho=>?_) hf ((wHG _ _ aO).trans he) hd h2 λh' T' m n x'=>k h' T' ((m1.mono (λ_ z=>nomatch z) λb z=>by simp at z;simp[z]).trans (m.mono (λ_ z=>z) λb z=>by simp at z;simp[z])) ?_ x'
 ·rw[wIz hb,hT] at ho;cases ho;exact⟨ts,fG⟩
 cases q:s.heap.get? T' with
 | none=>rfl
 | some o=>
  by_cases z:T'=T
  ·subst z;have:=wIb (Obj.mapFields (·.setIfInBounds 3 Value.none)) hT (Obj.isFreed_of_fields (Obj.data_mapFields fG _));rw[this] at n;cases n
  rw[wHG _ _ (Ne.symm z),q] at n;cases n
def zEV {T:Addr} {cls fl:Value} {dd:Option Addr} (x:zDM s.heap e T cls dd fl) (k:∀h',Moved [] [T] s.heap h'->zDM h' e T cls dd .none->Q PUnit.unit { s with heap:=h' }):wpAny M A (setFlight (.ref e) none) Q E s:=by obtain⟨oe,vs,oT,ts,he,rfl,rfl,hd,h1,h2,aO,hT,fG,h3⟩:=x;have s3:3 < ts.size:=(Array.getElem?_eq_some_iff.mp h3).1;unfold setFlight;refine wHe (wIu he hd h1 ?_);rw[wHl (show (Value.ref T != Value.none)=true from rfl)];refine wpAny_setField hT fG s3 (k _ Moved.upd1 ?_);have cY:=Obj.data_mapFields fG (·.setIfInBounds 3 ((none:Option Addr).elim Value.none λf=>rawInt f));exact⟨oe,vs,_,_,(wHG _ _ aO).trans he,rfl,rfl,hd,h1,h2,aO,wIb _ hT (Obj.isFreed_of_fields cY),cY,by rw[Array.getElem?_setIfInBounds_self_of_lt s3];rfl⟩
def zFG {oe:Obj} {vs:Array Value} (eI:A.frames=some (env::outer)) (hl:s.heap.FunFrames base (env::outer)) (hf:env.frame=some L)
  (he:s.heap.get? e=some oe) (hd:oe.data=.fields vs) (h1:vs[1]?=some .none) (h2:vs[2]?=some .none)
  (k:∀h' T,Moved (frs (env::outer)) [e,T] s.heap h'->s.heap.get? T=none->zDM h' e T oe.cls oe.dict .none->Q PUnit.unit { s with heap:=h' }):wpAny M A (leaving env (.ref e)) Q E s:=
 wHe (zMv eI hl hf he hd h1 h2 λh' T m n x=>zEV (s:={ s with heap:=h' }) x λeN m' x'=>k eN T ((m.mono (λ_ z=>z) λb z=>by simp at z;simp[z]).trans (m'.mono (λ_ z=>nomatch z) λb z=>by simp at z;simp[z])) n x')
def zKQ {T:Addr} {cls:Value} {dd:Option Addr} (eI:A.frames=some (env::outer)) (hl:s.heap.FunFrames base (env::outer)) (hf:env.frame=some L) (x:zDM s.heap e T cls dd .none)
  (k:∀h' T',Moved (frs (env::outer)) [e,T,T'] s.heap h'->s.heap.get? T'=none->zDM h' e T' cls dd .none->Q PUnit.unit { s with heap:=h' }):wpAny M A (leaving env (.ref e)) Q E s:=
 wHe (zKF eI hl hf x λh' T' m n x=>zEV (s:={ s with heap:=h' }) x λeN m' x'=>k eN T' ((m.mono (λ_ z=>z) λb z=>by simp at z;rcases z with z | z<;>simp[z]).trans (m'.mono (λ_ z=>nomatch z) λb z=>by simp at z;simp[z])) n x')
end
def zIM {P:Program} {w:World} {H:Hp} {h:Heap} {a:Addr} {o:HO} (x:HOk P w H h) (e:H a=some o):∃ob,h.get? a=some ob:=by
 have y:=x a o e;cases o with
 | lst xs=>obtain⟨_,_,_,_,e⟩:=y;exact⟨_,e⟩
 | tup xs=>obtain⟨_,_,_,o,e,_⟩:=y;exact⟨_,e⟩
 | dK aJ=>obtain⟨_,_,_,_,o,_,_,e,_⟩:=y;exact⟨_,e⟩
 | dT aJ=>obtain⟨_,_,_,_,o,_,_,e,_⟩:=y;exact⟨_,e⟩
 | set S n=>obtain⟨o,_,_,_,e,_⟩:=y;exact⟨_,e⟩
 | ins C dx fs=>obtain⟨_,_,_,e,_⟩:=y;exact⟨_,e⟩
 | own z=>obtain⟨_,e⟩:=y;exact⟨_,e⟩
 | xd fs=>obtain⟨_,⟨_,_,_,e,_⟩,_⟩:=y;exact⟨_,e⟩
 | rng lo hi=>obtain⟨_,_,_,e⟩:=y;exact⟨_,e⟩
 | frz o u=>exact⟨_,y.1⟩
 | tbl ps=>exact⟨_,y⟩
 | met f z=>exact⟨_,y⟩
 | ext φ=>exact y.2.1
def zC7 {P:Program} {w:World} {H:Hp} {h:Heap} {a:Addr} (x:HOk P w H h) (e:h.get? a=none):H a=none:=by
 cases q:H a with
 | none=>rfl
 | some o=>obtain⟨ob,z⟩:=zIM x q;rw[e] at z;cases z
def HOk.moved {P:Program} {w:World} {H:Hp} {h h':Heap} {fs ch:List Addr} (x:HOk P w H h) (m:Moved fs ch h h') (n:∀b o,H b=some o->b∉fs/\b∉ch):HOk P w H h':=λa u e=>by
 refine (x a u e).stay (λc v hc q=>?_) (λ_ q=>q) λ_ _ q=>q;rcases hc with z | z
 ·rw[z] at q ⊢;exact m.keep _ _ (n a u e).1 (n a u e).2 q
 exact m.keep _ _ (n c _ z).1 (n c _ z).2 q
def Un.moved {fs eO ch:List Addr} {H H':Hp} {h h1 h2:Heap} (u:Un fs [] H H' h h1) (m:Moved eO ch h1 h2) (hc:∀b o,h.get? b=some o->b∉ch) (hf:∀b o,h.get? b=some o->b∈eO->b∈fs):Un fs [] H H' h h2 where
 keep:=λb o e n nf ne=>m.keep b o (λz=>nf (hf b o e z)) (hc b o e) (u.keep b o e n nf ne)
 slot:=λb o e n nf ne=>let ⟨_,q⟩:=u.slot b o e n nf ne;let ⟨sl,q2⟩:=m.slot b _ (hc b o e) q;⟨sl,q2⟩
 free:=u.free
 there:=λb o e ne=>let ⟨o',q⟩:=u.there b o e ne;let ⟨sl,q2⟩:=m.slot b o' (hc b o e) q;⟨_,q2⟩
 tups:=u.tups
 frzs:=u.frzs
 tbls:=u.tbls
def CXx (P:Program) (w:World):CXT:=λouter H s E ev s'=>∃(e T:Addr) (cls:Value) (dd:Option Addr) (H':Hp),ev=.ref e/\s'.os=s.os/\AllBare s'.gens/\Un (frs outer) [] H H' s.heap s'.heap/\HOk P w H' s'.heap/\
 zDM s'.heap e T cls dd .none/\s.heap.get? e=none/\s.heap.get? T=none/\H' e=none/\H' T=none/\E cls dd H'
section
variable {P:Program} {w:World} {K:W.Frag} {mg:Str->Option Value} {base:Heap} {N:List Str} {qual:Str} {scope:Scope} {f:Addr} {cd:Value} {A:Around} {outer:List Env} {s0:Shared} {H0:Hp} {E:XK}
def zK4 {pins:List (Addr × Obj)} {σ:St} {H':Hp} {s s'':Shared} {e T:Addr} {cls:Value} {dd:Option Addr} {ch:List Addr} (I:Inv (zEa (CXx P w) P w K mg base N qual scope f cd A outer s0 H0 E) pins σ H' s)
  (m:Moved (frs (envOfC qual scope s0.heap.objs.size f cd::outer)) ch s.heap s''.heap) (os:s''.os=s.os) (ba:AllBare s''.gens) (x:zDM s''.heap e T cls dd .none) (hc:∀b∈ch,s0.heap.get? b=none) (hH:∀b∈ch,H' b=none) (he:s0.heap.get? e=none) (hT:s0.heap.get? T=none) (fJ:H' e=none) (fK:H' T=none) (q:E cls dd H') :
  CXx P w outer H0 s0 E (.ref e) s'':=by
 have bs:Un (frs outer) [] H0 H' s0.heap s.heap:=I.base;refine⟨e,T,cls,dd,H',rfl,os.trans I.os,ba,bs.moved m (λb o eb z=>by rw[hc b z] at eb;cases eb) (λb o eb z=>?_),I.hok.moved m λb o eb=>⟨λz=>?_,λz=>?_⟩,x,he,hT,fJ,fK,q⟩
 ·unfold frs at z;rw[List.filterMap_cons] at z;rcases wID (show b∈s0.heap.objs.size::frs outer from z) with y | y
  ·rw[y,wIw (wHm _)] at eb;cases eb
  exact y
 ·rw[I.stkFree b z] at eb;cases eb
 rw[hH b z] at eb;cases eb
def zBU:zDx (CXx P w) (zEa (CXx P w) P w K mg base N qual scope f cd A outer s0 H0 E) E:=by
 intro pins σ H s ev s' I hx;obtain⟨e,T,cls,dd,H',rfl,os,bare,un,hok,x,ne,nT,he,hT,q⟩:=hx;have I':=I.call' (ch:=[]) os un hok bare (λb z=>nomatch z);have old:∀b,s.heap.get? b=none->s0.heap.get? b=none:=λb z=>by
  cases y:s0.heap.get? b with
  | none=>rfl
  | some o=>obtain⟨o',h'⟩:=I.base.there b o y (λz=>nomatch z);rw[z] at h';cases h'
 have gP:∀b,s'.heap.get? b=none->s0.heap.get? b=none:=λb z=>by
  cases y:s0.heap.get? b with
  | none=>rfl
  | some o=>obtain⟨o',h'⟩:=I'.base.there b o y (λz=>nomatch z);rw[z] at h';cases h'
 refine zKQ I'.ok.frames I'.stack rfl x λeN T' m n x'=>?_;have hT':H' T'=none:=zC7 hok n;exact zK4 (s'':={ s' with heap:=eN }) I' m rfl I'.bare x' (λb hb=>by
  simp at hb;rcases hb with z | z | z
  ·rw[z];exact old e ne
  ·rw[z];exact old T nT
  ·rw[z];exact gP T' n) (λb hb=>by
  simp at hb;rcases hb with z | z | z
  ·rw[z];exact he
  ·rw[z];exact hT
  rw[z];exact hT') (old e ne) (gP T' n) he hT' q
def zOI {h:Heap} {C:Addr} {bmB:List Value} {newId:String} (X:K.In h) (q:W.excIn K C bmB newId=true) :
  ∃tl ns nm qn bs hd sn sub ab col dd k0 k1 k2 k3 k5 mN,h.get? C=some (excClassObj nm qn C ns bs tl hd sn sub ab col dd k0 k1 k2 k3 k5 newId)/\h.Ns ns mN/\mN "__init__"=none/\OwnTail h bmB tl:=by
 unfold W.excIn at q
 split at q
 case h_2=>cases q
 case h_1 dd cd sl ho=>
  split at q
  case h_2=>cases q
  case h_1 C' tl k0 k1 k2 k3 n k5 hm hs=>
   simp only[wHN,beq_iff_eq,Bool.not_eq_true'] at q;obtain⟨⟨⟨⟨⟨hC,hn⟩,iH⟩,ht⟩,hok⟩,jM⟩:=q;subst hC hn;have dI:sl=#[k0,k1,k2,k3,some (.builtin n),k5]:=Array.toList_inj.mp hs;rcases cd with ⟨nm,bs,mro,ns,qn,hd,sn,sub,ab,col,del⟩;simp only at hm iH hok jM;subst hm iH dI;exact⟨tl,ns,nm,qn,bs,hd,sn,sub,ab,col,dd,k0,k1,k2,k3,k5,_,X _ _ ho,.of_isNs (W.isNs_of_in X hok),W.nsMap_none_of_in X hok jM,W.tail_of_in X ht⟩
abbrev vEr:List Value:=[.type "ValueError",.type "Exception",.type "BaseException",.type "object"]
def zP0 (E:XK) (C:Addr) (te:TE):TS:=λ_ σ H=>te σ H λ_ H1=>E (.ref C) none H1
def zB4 {x:Str} {C:Addr} {e:Expr} {te:TE} {np aC pos:Pos} (hx:W.excIn K C vEr "ValueError.__new__"=true) (hg:Gl (zEa (CXx P w) P w K mg base N qual scope f cd A outer s0 H0 E) x) (hm:mg x=some (.ref C))
  (he:PE (zEa (CXx P w) P w K mg base N qual scope f cd A outer s0 H0 E) e te) (hd:(x == ("__debug__":Str))=false:=by decide)
  (bF:starEach [e] (zEa (CXx P w) P w K mg base N qual scope f cd A outer s0 H0 E).env=[(false,eval e (zEa (CXx P w) P w K mg base N qual scope f cd A outer s0 H0 E).env)]:=by rfl) :
  PS (zEa (CXx P w) P w K mg base N qual scope f cd A outer s0 H0 E) (.Raise (some (.Call (.Name x np) [e] [] aC)) none pos) (zP0 E C te):=by
 intro pins s σ H D I h;obtain⟨tl,ns,nm,qn,bs,gA,sn,sub,ab,col,dd,k0,k1,k2,k3,k5,mN,hC,hN,jM,T⟩:=zOI I.ok.mod.kin hx;refine wpAny_Raise_call_subT (C:=C) (nm:=nm) (q:=qn) (N:=ns) (bs:=bs) (bm:=tl) (hdct:=gA) (sn:=sn) (sub:=sub) (ab:=ab) (col:=col) (dd:=dd) (k0:=k0) (k1:=k1) (k2:=k2) (k3:=k3) (k5:=k5)
  F.excBase_ValueError (mN:=mN) (T.hasType rfl) (I.ok.hd rfl) (by rw[bF];rfl) jM (zBP I hg hm ⟨rfl,?_⟩ hd)
 rw[bF];refine Calls.evalArgs_plain (wHH (Calls.spliced_cons (wHH (he pins s σ H _ I h) (λv s2 ⟨y,H1,I1,r1,q⟩=>Calls.spliced_nil ?_) λ_ _ z=>z)) (λus s2 z=>z) λ_ _ z=>z);refine⟨rfl,(show 1<=sizeLine by decide),I1.bk _ _ hC,hN.keeps I1.bk,T.keeps I1.bk,λh' e' mk=>?_⟩;obtain⟨t,e1,e2,e3⟩:=mk.there;have old:∀b,s2.heap.get? b=none->s0.heap.get? b=none:=λb z=>by
  cases y:s0.heap.get? b with
  | none=>rfl
  | some o=>obtain⟨o',h'⟩:=I1.base.there b o y (λz=>nomatch z);rw[z] at h';cases h'
 have I2:=I1.kept (h':=h') (t':=s2.toks) mk.keeps;refine zFG (s:={ s2 with heap:=h' }) I2.ok.frames I2.stack rfl e1 rfl rfl rfl λeN T' m n x'=>?_;have fJ:H1 e'=none:=zC7 I1.hok mk.new;have nT:s2.heap.get? T'=none:=by
  cases y:s2.heap.get? T' with
  | none=>rfl
  | some o=>have:=mk.keeps _ _ y;rw[show h'.get? T'=none from n] at this;cases this
 have fK:H1 T'=none:=zC7 I1.hok nT;exact zK4 (s'':={ s2 with heap:=eN }) I2 m rfl I2.bare x' (λb hb=>by
  simp at hb;rcases hb with z | z
  ·rw[z];exact old e' mk.new
  ·rw[z];exact old T' nT) (λb hb=>by
  simp at hb;rcases hb with z | z
  ·rw[z];exact fJ
  rw[z];exact fK) (old e' mk.new) (old T' nT) fJ fK q
end
def zFL (e:Addr) (cls:Value) (dd:Option Addr):HO:=.ext λh=>∃oe vs,h.get? e=some oe/\oe.cls=cls/\oe.dict=dd/\oe.data=.fields vs/\vs[2]?=some .none
def zFL.ok {P:Program} {w:World} {H:Hp} {h:Heap} {e T:Addr} {cls fl:Value} {dd:Option Addr} (x:zDM h e T cls dd fl):ObjOk P w H h e (zFL e cls dd):=by obtain⟨oe,vs,oT,ts,he,hc,hd,hf,h1,h2,_⟩:=x;exact⟨⟨oe,vs,he,hc,hd,hf,h2⟩,⟨oe,he⟩,λh1 h2 ⟨oe,vs,a,b⟩ k=>⟨oe,vs,k _ a,b⟩⟩
def zFL.get {P:Program} {w:World} {H:Hp} {h:Heap} {e:Addr} {cls:Value} {dd:Option Addr} (x:HOk P w H h) (q:H e=some (zFL e cls dd)):∃oe vs,h.get? e=some oe/\oe.cls=cls/\oe.dict=dd/\oe.data=.fields vs/\vs[2]?=some .none:=(x e _ q).1
def HOk.put {P:Program} {w:World} {H:Hp} {h:Heap} {a:Addr} {o:HO} (x:HOk P w H h) (n:H a=none) (new:ObjOk P w (upd H a o) h a o):HOk P w (upd H a o) h:=λb u e=>by
 by_cases z:b=a
 ·subst z;rw[zB] at e;cases e;exact new
 rw[zO z] at e;refine (x b u e).stay (λ_ _ _ q=>q) (λc q=>?_) λc xs q=>?_
 ·rw[zO (zN q n)];exact q
 rw[zO (zN q n)];exact q
def Un.put {fs:List Addr} {H H':Hp} {h h':Heap} {a:Addr} {o:HO} (u:Un fs [] H H' h h') (n:h.get? a=none) (n':H' a=none):Un fs [] H (upd H' a o) h h' where
 keep:=u.keep
 slot:=u.slot
 free:=λb ob e q x=>by
  have:b≠a:=λz=>by rw[z,n] at e;cases e
  rw[zO this];exact u.free b ob e q x
 there:=u.there
 tups:=λb xs e=>by have:=u.tups b xs e;rw[zO (zN this n')];exact this
 frzs:=λb ob xs e=>by have:=u.frzs b ob xs e;rw[zO (zN this n')];exact this
 tbls:=λb ps e=>by obtain⟨m,q⟩:=u.tbls b ps e;exact⟨m,by rw[zO (zN q n')];exact q⟩
def Cx.hot (X:Cx) (e:Addr):Cx:={ X with A:=X.A.mark (some (.ref e)),calm:=false,xe:=λ_ _=>False }
section
variable {X:Cx} {pins:List (Addr × Obj)} {σ:St} {H:Hp} {s:Shared} {e:Addr}
def Inv.hot (I:Inv X pins σ H s):Inv (X.hot e) pins σ H s:=
 ⟨⟨I.ok.mod,I.ok.kind,I.ok.glob,I.ok.blt,I.ok.above,I.ok.inj,I.ok.has,I.ok.cab,λz=>(nomatch (show false=true from z)),I.ok.frames,I.ok.stk,I.ok.exf,I.ok.bs,I.ok.bsz,I.ok.noex,I.ok.exfs,I.ok.funs,I.ok.frf⟩,I.os,I.bare,I.base,I.loc,I.cell,I.free,I.freeC,I.pin,I.hok,I.len⟩
def Inv.cool (ok:X.Ok) (I:Inv (X.hot e) pins σ H s):Inv X pins σ H s:=⟨ok,I.os,I.bare,I.base,I.loc,I.cell,I.free,I.freeC,I.pin,I.hok,I.len⟩
def zC2 {M:Model} {A:Around} {E:Value->Shared->Prop} {i:Nat} {x:Str} {pos:Pos} {Q:Unit->Shared->Prop} (I:Inv X pins σ H s) (hN:X.N.Nodup) (hi:X.N[i]?=some x) (hk:X.env.scope.names.lookup x=some .local)
  (h:∀s',Inv X pins (σ.set i none) H s'->Q PUnit.unit s'):wpAny M A (do bindName X.env x .none;unbindBehindTheSuite X.env x pos) Q E s:=by
 obtain⟨m,hn,hl⟩:=id I.loc;have fH:(X.env.scope.kind == .class || (X.env.scope.kind == .module && X.env.locals != X.env.globals))=false:=by rw[I.ok.kind];rfl
 refine wpAny_nameGoes_keeps hk hn fH λh' v fX hs=>h _ ?_;have lt:∀b o,X.s₀.heap.get? b=some o->b≠X.env.locals:=λb o e=>wHu (wHy (wHq e) I.ok.above);have nl:∀b o,H b=some o->b≠X.env.locals:=λb o e z=>by rw[z,I.free] at e;cases e
 refine⟨I.ok,I.os,I.bare,⟨λb o e n hb hx=>(hs.2 b (lt b o e)).trans (I.base.keep b o e n hb hx),λb o e n hb hx=>?_,I.base.free,λb o e hx=>?_,I.base.tups,I.base.frzs,I.base.tbls⟩,⟨_,fX,λj y v' e1 e2 e3=>?_⟩,λy c e=>?_,I.free,I.freeC,λp hp=>?_,λb ob e=>?_,by rw[List.length_set];exact I.len⟩
 ·obtain⟨sl,q⟩:=I.base.slot b o e n hb hx;exact⟨sl,(hs.2 b (lt b o e)).trans q⟩
 ·obtain⟨o',q⟩:=I.base.there b o e hx;exact⟨o',(hs.2 b (lt b o e)).trans q⟩
 ·have hj:j≠i:=λz=>by
   subst z;by_cases q:j < σ.length
   ·rw[List.getElem?_set_self q] at e2;cases e2
   rw[wH8 (by rw[List.length_set];omega)] at e2;cases e2
  rw[List.getElem?_set_ne (Ne.symm hj)] at e2;obtain⟨u',r',q⟩:=hl j y v' e1 e2 e3;refine⟨u',r',?_⟩;rcases q with ⟨k,e⟩ | ⟨k,c,e,z⟩
  ·refine .inl ⟨k,?_⟩;have:y≠x:=λe=>hj (zGl hN e1 (e ▸ hi));simp[this,e]
  exact .inr ⟨k,c,e,z.sameBut hs (I.cne y c e)⟩
 ·obtain⟨w',z⟩:=I.cell y c e;exact⟨w',z.sameBut hs (I.cne y c e)⟩
 ·obtain⟨e,n,ne,nf,d⟩:=I.pin p hp;exact⟨(hs.2 p.1 ne).trans e,n,ne,nf,d⟩
 refine (I.hok b ob e).stay (λc w' hc q=>(hs.2 c ?_).trans q) (λ_ q=>q) λ_ _ q=>q;rcases hc with z | z
 ·rw[z];exact nl b ob e
 exact nl c _ z
end
abbrev XR:=Value->Option Addr->St->Hp->Prop
def XP (X:Cx) (pins:List (Addr × Obj)) (R:XR) (ev:Value) (s':Shared):Prop:=
 ∃σ₁ H₁ s₁,Inv X pins σ₁ H₁ s₁/\CXx X.prog X.w X.stack H₁ s₁ (λcls dd H'=>R cls dd σ₁ H') ev s'
abbrev TEx:=St->Hp->VK->XK->Prop
abbrev TAx:=St->Hp->(List V->Hp->Prop)->XK->Prop
abbrev TSx:=Ends->XR->St->Hp->Prop
def atS (σ:St) (R:XK):XR:=λcls dd σ' H'=>σ'=σ/\R cls dd H'
def PEx (X:Cx) (e:Expr) (t:TEx):Prop:=
 ∀(pins:List (Addr × Obj)) (s:Shared) (σ:St) (H:Hp) (Q:VK) (R:XK),Inv X pins σ H s->t σ H Q R->wpAny (model X.prog X.w) X.A (eval e X.env) (EP X pins σ Q) (XP X pins (atS σ R)) s
def PAx (X:Cx) (es:List Expr) (t:TAx):Prop:=
 ∀(pos:Pos) (pins:List (Addr × Obj)) (s:Shared) (σ:St) (H:Hp) (Q:List V->Hp->Prop) (R:XK),Inv X pins σ H s->t σ H Q R->wpAny (model X.prog X.w) X.A (spliced (backTo pos (starEach es X.env))) (AP X pins σ Q) (XP X pins (atS σ R)) s
def PSx (X:Cx) (st:Stmt) (t:TSx):Prop:=
 ∀(pins:List (Addr × Obj)) (s:Shared) (σ:St) (H:Hp) (D:Ends) (R:XR),Inv X pins σ H s->t D R σ H->wpAny (model X.prog X.w) X.A (exec st X.env) (SP X pins D) (XP X pins R) s
def zR8 (X:Cx) (st:List Stmt) (t:TSx):Prop:=
 ∀(pins:List (Addr × Obj)) (s:Shared) (σ:St) (H:Hp) (D:Ends) (R:XR),Inv X pins σ H s->t D R σ H->wpAny (model X.prog X.w) X.A (execs st X.env) (SP X pins D) (XP X pins R) s
section
variable {X:Cx} {k:Nat} {f:Addr} {fd:FuncData} {ps:List Str} {sp:Sp} {aL:List V} {ds:List Value} {x:Str} {p pos:Pos} {e:Expr} {es:List Expr} {te:TE} {t:TA}
def xOf (t:TE):TEx:=λσ H Q _=>t σ H Q
def zPC (h:PE X e te) (hx:∀v s,X.xe v s->False:=by exact λ_ _ z=>z):PEx X e (xOf te):=λpins s σ H Q R I q=>wHH (h pins s σ H Q I q) (λ_ _ z=>z) λv s' z=>(hx v s' z).elim
def zOd {pins:List (Addr × Obj)} {σ:St} {H:Hp} {s:Shared} {Q:VK} {R:XK} {us:List Value} {vs:List V} (F:FnOk X.prog X.w X.K X.mg X.base (CXx X.prog X.w) k f fd ps sp) (hr:Room k X.A) (hb:zAc X.K fd ps ds) (hd:zA4 aL ds)
  (I:Inv X pins σ H s) (r:zA4 vs us) (h:sp (vs++aL) H Q R):wpAny (model X.prog X.w) X.A (call (.ref f) us) (EP X pins σ Q) (XP X pins (atS σ R)) s:=by
 have r2:zA4 (vs++aL) (us++ds):=r.append hd;have hl:(us++ds).length=ps.length:=by rw[← r2.length];exact F.len _ _ _ _ h
 refine wpAny_call (codeAny_mono (F.run X.A X.stack s H ⟨us,[]⟩ (us++ds) (vs++aL) Q R hr I.env0 (hb s us I.kIn hl) r2 h) λr s' hq=>?_);cases r with
 | error ev=>
  obtain⟨e,T,cls,dd,H',a1,a2,a3,a4,a5,a6,a7,a8,a9,oA,o9⟩:=(show CXx X.prog X.w X.stack H s R ev s' from hq);exact⟨σ,H,s,I,e,T,cls,dd,H',a1,a2,a3,a4,a5,a6,a7,a8,a9,oA,rfl,o9⟩
 | ok fl=>
  cases fl with
  | ret u=>exact I.after hq
  | next=>exact wHX hq
  | brk=>exact wHX hq
  | cont=>exact wHX hq
def zQ7 (sp:Sp) (aL:List V) (t:TA):TEx:=λσ H Q R=>t σ H λvs H1=>sp (vs++aL) H1 Q R
def zMf (F:FnOk X.prog X.w X.K X.mg X.base (CXx X.prog X.w) k f fd ps sp) (hr:Room k X.A) (hg:Gl X x) (hm:X.mg x=some (.ref f)) (hk:W.keepIn X.K (.ref f)=true) (hb:zAc X.K fd ps ds) (hd:zA4 aL ds)
  (ha:PA X (e::es) t) (hx:∀v s,X.xe v s->False:=by exact λ_ _ z=>z) (cA:(x == ("__debug__":Str))=false:=by decide) (he:starEach (e::es) X.env=(false,eval e X.env)::starEach es X.env:=by rfl) (aM:(backTo pos (starEach es X.env)).any (·.1)=false:=by rfl) :
  PEx X (.Call (.Name x p) (e::es) [] pos) (zQ7 sp aL t):=by
 intro pins s σ H Q R I h;refine wpAny_Call_Name_kw (zBP I hg hm ?_ cA);refine W.callWith_K (h₀:=X.base) I.ok.mod.kin hk (wHH (ha pos pins s σ H _ I h) (λus s1 ⟨vs,H1,I1,r,q⟩=>⟨I1.kIn,?_⟩) λv s' z=>(hx v s' z).elim) he aM;exact zOd F hr hb hd I1 r q
end
section
variable {X:Cx} {f:Addr} {x:Str} {p pos:Pos} {e:Expr} {es:List Expr} {ta:TE} {te:TEx} {t:TAx}
def zRg:TAx:=λ_ H Q _=>Q [] H
def zQt (ta:TEx) (tr:TAx):TAx:=λσ H Q R=>ta σ H (λx H1=>tr σ H1 (λxs H2=>Q (x::xs) H2) R) R
def zOn:PAx X [] zRg:=λ_ _ _ _ H Q _ I h=>Calls.spliced_nil ⟨[],H,I,.nil,h⟩
def zIC (ha:PEx X e te) (hr:PAx X es t) (hs:starEach (e::es) X.env=(false,eval e X.env)::starEach es X.env:=by rfl):PAx X (e::es) (zQt te t):=by intro pos pins s σ H Q R I h;rw[hs];refine Calls.spliced_cons (wHH (ha pins s σ H _ R I h) (λu s1 ⟨x,H1,I1,r1,q1⟩=>?_) λ_ _ z=>z);exact wHH (hr pos pins s1 σ H1 _ R I1 q1) (λus s2 ⟨xs,H2,I2,r2,q2⟩=>⟨x::xs,H2,I2,.cons r1 r2,q2⟩) λ_ _ z=>z
def zRE (t:TAx):TEx:=λσ H Q R=>t σ H (λxs H1=>xs.length<=sizeLine/\∀p,H1 p=none->Q (.ref p) (upd H1 p (.lst xs))) R
def zOl (h:PAx X es t):PEx X (.List es pos) (zRE t):=by intro pins s σ H Q R I hq;refine wpAny_List_spliced (wHH (h pos pins s σ H _ R I hq) (λus s1 ⟨xs,H1,I1,r,z,q⟩=>⟨by rw[← r.length];exact z,?_⟩) λ_ _ z=>z);refine⟨.ref s1.heap.objs.size,upd H1 s1.heap.objs.size (.lst xs),I1.laid (t':=s1.toks) (λb u e=>wHi _ e) (wHm _) ?_,rfl,q _ (I1.hok.fresh (wHm _))⟩;exact⟨z,us,0,r,wHs _ rfl⟩
def zRD (i:Nat) (te:TEx):TSx:=λD R σ H=>te σ H (λv H1=>D.nx (σ.set i (some v)) H1) (λcls dd H1=>R cls dd σ H1)
def zQ6 {pins:List (Addr × Obj)} {σ:St} {R:XR} {v:Value} {s:Shared} (h:XP X pins (atS σ λcls dd H1=>R cls dd σ H1) v s):XP X pins R v s:=by obtain⟨σ1,H1,s1,I1,e,T,cls,dd,H',a1,a2,a3,a4,a5,a6,a7,a8,a9,oA,rfl,o9⟩:=h;exact⟨_,H1,s1,I1,e,T,cls,dd,H',a1,a2,a3,a4,a5,a6,a7,a8,a9,oA,o9⟩
def zOi {i:Nat} {pos':Pos} (hN:X.N.Nodup) (hi:X.N[i]?=some x) (hx:Loc X.env.scope x) (he:PEx X e te) (hs:swapsWith e (some (.Name x pos')) pos.line X.env=pure false:=by rfl) (hf:X.fn x=true∨X.env.scope.names.lookup x=some .local:=by first | exact .inl rfl | exact .inr rfl | assumption) :
  PSx X (.Assign [.Name x pos'] e pos) (zRD i te):=by
 intro pins s σ H D R I h;refine wpAny_Assign_Name (wHH (he pins s σ H _ _ I h) (λv s1 ⟨y,H1,I1,r1,q1⟩=>?_) λ_ _ z=>zQ6 z) hs;exact zCY I1 hN hi hx r1 (λs2 I2=>⟨_,H1,I2,q1⟩) hf
def zMc {st:Stmt} {ts:TSx} (h1:PSx X st ts):zR8 X [st] ts:=by
 intro pins s σ H D R I h;refine wpAny_execs_cons (wHH (h1 pins s σ H D R I h) (λf s1 q=>?_) λ_ _ z=>z);cases f with
 | next=>exact wpAny_execs_nil q
 | ret v=>exact q
 | brk=>exact q
 | cont=>exact q
end
def zGq:entryFor table "proto.unchain"=some Builtin.«proto.unchain»:=entryFor_of_tree (by kernel_rfl)
section
variable {prog:Program} {w:World} {A:Around} {E:Value->Shared->Prop} {s:Shared}
def zKq {α:Type} {e a:Addr} {oe oa:Obj} {vs us:Array Value} {Q:α->Shared->Prop} (hh:A.handled=some (.ref e)) (he:s.heap.get? e=some oe) (hd:oe.data=.fields vs) (h2:vs[2]?=some .none)
  (ha:s.heap.get? a=some oa) (da:oa.data=.fields us) (u2:2 < us.size) (aO:e≠a) (k:E (.ref a) { s with heap:=s.heap.update a (Obj.mapFields (·.setIfInBounds 2 (.ref e))) }):wpAny (model prog w) A (raiseNew (.ref a):Sem α) Q E s:=by
 unfold raiseNew;refine wHe (wpAny_handled ?_);rw[hh];have nb:(Value.ref e != Value.ref a)=true:=by rw[bne_iff_ne];intro z;exact aO (Value.ref.inj z)
 simp only[nb,if_true];refine wHe (wHZ (wpAny_runValue (codeAny_builtin zGq ?_)));unfold Builtin.«proto.unchain»;refine wHe (wIu he hd h2 ?_);rw[wHl (by rfl)];refine wHe (wHk (wHk ?_));refine wHe ?_;show wpAny _ _ (setField (.ref a) 2 (.ref e)) _ _ _;exact wpAny_setField (a:=a) ha da u2 (wpAny_throw k)
def zGc {e it:Addr} {oe:Obj} {vs:Array Value} {x left step:Int} {Q:Option Value->Shared->Prop} (hh:A.handled=some (.ref e)) (he:s.heap.get? e=some oe) (hd:oe.data=.fields vs) (h2:vs[2]?=some .none)
  (hit:IsRangeIter s.heap it x left step) (hl:left<=0) (hQ:∀h',Heap.ExtBut it s.heap h'->Q none { s with heap:=h' }):wpAny (model prog w) A (pyNext (.ref it)) Q E s:=by
 have ty:s.TypeIs (.ref it) "range_iterator":=⟨_,hit,rfl⟩;unfold pyNext;refine wHe (wpAny_attempt (wpAny_callSpecial?_slot (name:=Str.ofString "__next__") ty F.slot_range_iterator_next (wpAny_call_entry F.slot_range_iterator_next ty F.entry_range_iterator_next ?_ (F.args_range_iterator_next_1 _))));refine wHe (m:=field (.ref it) 0) (wIu hit rfl (x:=rawInt x) rfl ?_);refine wHe (m:=field (.ref it) 1) (wIu hit rfl (x:=rawInt left) rfl ?_);refine wHe (m:=field (.ref it) 2) (wIu hit rfl (x:=rawInt step) rfl ?_);show wpAny _ _ (if left<=0 then _ else _) _ _ s;rw[wHl hl];refine wHe (wpAny_rule (wHe ?_));refine wHe (m:=newExc (.type "StopIteration") []) ?_;simp only[newExc,newTuple];refine wHe (wH0 ?_ (by size_fits));refine wHe (m:=firstArgMember _ _) (wpAny_of_eq (a:=Value.none) (by first | rfl | (simp only[firstArgMember];rfl)) ?_);refine wH0 ?_ (by size_fits);have lt:=wHq he;refine zKq (s:={ s with heap:=_ }) hh (wHi _ (wHi _ he)) hd h2 (wHs _ rfl) rfl (by rw[Array.size_append];exact wHy (show 2 < 6 by decide) (Nat.le_add_right _ _)) (wHu (wHy lt (by rw[wIa];exact Nat.le_succ _))) ?_;refine wHe (wpAny_isInstance (T:="StopIteration") (b:=true) ⟨_,wIb _ (wHs _ rfl) rfl,rfl⟩ isSubtype_stop ?_);refine wHk (hQ _ λb o hb q=>?_);have lb:=wHq q;rw[wHG _ _ (Ne.symm (wHu (wHy lb (by rw[wIa];exact Nat.le_succ _))))];exact wHi _ (wHi _ q)
end
structure TurnH (P:Program) (w:World) (K:W.Frag) (e:Addr) (tg:Expr) (J:It) (fp:List Addr) (it:Addr) (tn:Nat->Heap->Prop):Prop where
 mem:it∈fp
 obj:∀i h,tn i h->∀b∈fp,∃o,h.get? b=some o/\∀v,o.data≠.cell v
 keep:∀i h h',tn i h->(∀b∈fp,∀o,h.get? b=some o->h'.get? b=some o)->tn i h'
 item:∀(X:Cx),X.prog=P->X.w=w->X.K=K->X.A.handled=some (.ref e)->∀(i:Nat) (pins:List (Addr × Obj)) (s:Shared) (σ:St) (H:Hp) (E:Value->Shared->Prop),Inv X pins σ H s->(∀b∈fp,zEk X pins H b)->tn i s.heap->J.go i H->
  wpAny (model P w) X.A (pyNext (.ref it)) (λr s1=>∃u,r=some u/\
   wpAny (model P w) X.A (letOwnedTupleGo tg (.ref it) u) (λ_ s2=>∃x H',Inv X pins σ H' s2/\zBg x u/\J.yld i H x H'/\tn (i+1) s2.heap/\∀b∈fp,H' b=none) E s1) E s
 done:∀(X:Cx),X.prog=P->X.w=w->X.K=K->X.A.handled=some (.ref e)->∀(i:Nat) (pins:List (Addr × Obj)) (s:Shared) (σ:St) (H:Hp) (E:Value->Shared->Prop),Inv X pins σ H s->(∀b∈fp,zEk X pins H b)->tn i s.heap->J.stop i H->
  wpAny (model P w) X.A (pyNext (.ref it)) (λr s1=>r=none/\Inv X pins σ H s1) E s
 self:∀(A:Around) (i:Nat) (s:Shared) (Q:Value->Shared->Prop) (E:Value->Shared->Prop),tn i s.heap->Q (.ref it) s->wpAny (model P w) A (pyIter (.ref it)) Q E s
def zQ5 (e:Addr) (lo:Int) (n:Nat):It:=⟨λi _=>i < n,λi H x H'=>H'=H/\x=.int (lo+i),λi H=>n<=i/\∃cls dd,H e=some (zFL e cls dd)⟩
def zH9 {P:Program} {w:World} {K:W.Frag} {tg:Expr} {e:Addr} (it:Addr) (lo:Int) (n:Nat):TurnH P w K e tg (zQ5 e lo n) [it] it (λi h=>IsRangeIter h it (lo+(i:Nat)*1) ((n:Int)-(i:Nat)) 1) where
 mem:=by simp
 obj:=λi h st b hb=>by
  have e:b=it:=by simpa using hb
  subst e;exact⟨_,st,λv z=>by have z':Data.fields _=Data.cell v:=z;cases z'⟩
 keep:=λi h h' st k=>k it (by simp) _ st
 item:=by
  intro X hP hw hK hc i pins s σ H E I hf st hg;subst hP hw hK;obtain⟨f0,f1,f2,f3,f4,f5⟩:=hf it (by simp);have hg':i < n:=hg;refine wpAny_pyNext_range_item st ∅ λh' aV sb=>?_;have I1:Inv X pins σ H { s with heap:=h',toks:=s.toks+1 }:=I.turned (λb o hb e=>(sb.2 b hb).trans e) f0 f1 f3 f4 f5;have cL:IsRangeIter h' it (lo+((i+1:Nat):Int)*1) ((n:Int)-((i+1:Nat):Int)) 1:=by
   have e1:lo+((i+1:Nat):Int)*1=lo+(i:Int)*1+1:=by omega
   have e2:(n:Int)-((i+1:Nat):Int)=(n:Int)-(i:Int)-1:=by omega
   rw[e1,e2];exact aV
  refine⟨_,rfl,zLf (s:={ s with heap:=h',toks:=s.toks+1 }) (n:="range_iterator") aV rfl rfl ⋯ ⟨.int (lo+i),H,I1,⟨s.toks,?_⟩,⟨rfl,rfl⟩,cL,λb hb=>(hf b hb).1⟩⟩;rw[Int.mul_one]
 done:=by intro X hP hw hK hc i pins s σ H E I hf st hg;subst hP hw hK;obtain⟨f0,f1,f2,f3,f4,f5⟩:=hf it (by simp);obtain⟨hn,cls,dd,ex⟩:=hg;obtain⟨oe,vs,g1,_,_,g2,g3⟩:=zFL.get I.hok ex;exact zGc hc g1 g2 g3 st ∅ λh' eb=>⟨rfl,I.turned (t':=s.toks) (λb o hb e=>eb b o hb e) f0 f1 f3 f4 f5⟩
 self:=λ_ _ _ _ _ st h=>wpAny_pyIter_rangeiter st h
def zR9 (X:Cx) (e:Addr) (pins:List (Addr × Obj)) (σ:St) (tg:Expr) (R:It->Hp->Prop) (fT:Value) (s2:Shared):Prop:=
 ∃(it:Addr) (fp:List Addr) (tn:Nat->Heap->Prop) (J:It) (H':Hp),fT=.ref it/\Inv X pins σ H' s2/\TurnH X.prog X.w X.K e tg J fp it tn/\tn 0 s2.heap/\(∀b∈fp,zEk X pins H' b)/\R J H'
def PIH (X:Cx) (e:Addr) (tg iter:Expr) (wi:TI):Prop:=
 ∀(pins:List (Addr × Obj)) (s:Shared) (σ:St) (H:Hp) (R:It->Hp->Prop),Inv X pins σ H s->wi σ H R->
  wpAny (model X.prog X.w) X.A (eval iter X.env) (λv s1=>wpAny (model X.prog X.w) X.A (pyIter v) (zR9 X e pins σ tg R) X.xe s1) X.xe s
def zQW (e:Addr) (ta:TA):TI:=λσ H R=>ta σ H λvs H1=>∃j:Int,vs=[.int j]/\-(2 ^ 62)<=j/\j < 2 ^ 62/\R (zQ5 e 0 j.toNat) H1
def zKp {X:Cx} {e:Addr} {tg:Expr} {pins:List (Addr × Obj)} {σ:St} {H:Hp} {s:Shared} {R:It->Hp->Prop} {E:Value->Shared->Prop} {hi:Int} {t u v:Tok} {tk:Nat} (I:Inv X pins σ H s) (h3:-(2 ^ 62)<=hi) (h4:hi < 2 ^ 62)
  (q:R (zQ5 e 0 hi.toNat) H):wpAny (model X.prog X.w) X.A (pyIter (.ref s.heap.objs.size)) (zR9 X e pins σ tg R) E { s with heap:=s.heap.push { cls:=.type "range",data:=.fields #[.int 0 t,.int hi u,.int 1 v] },toks:=tk }:=by
 generalize ho:({ cls:=.type "range",data:=.fields #[.int 0 t,.int hi u,.int 1 v] }:Obj)=ob;refine wpAny_pyIter_range (by rw[← ho];exact IsRange.new ..) (small_one ⋯ ⋯ h3 h4) ?_;have I1:Inv X pins σ H { s with heap:=s.heap.push ob,toks:=tk }:=I.kept λb o e=>wHi _ e;refine⟨(s.heap.push ob).objs.size,[(s.heap.push ob).objs.size],_,_,H,rfl,I1.kept (t':=tk) λb o e=>wHi _ e,zH9 _ 0 hi.toNat,?_,λb hb=>?_,q⟩
 ·have e1:(0:Int)+((0:Nat):Int)*1=0:=by simp
  have e2:((hi.toNat:Nat):Int)-((0:Nat):Int)=Builtin.Range.rangeSize 0 hi 1:=by rw[rangeSize_one];split<;>omega
  show IsRangeIter _ _ (0+((0:Nat):Int)*1) (((hi.toNat:Nat):Int)-((0:Nat):Int)) 1;rw[e1,e2];exact wHs _ rfl
 have e:b=(s.heap.push ob).objs.size:=by simpa using hb
 rw[e];exact I1.fpOk (wHm _) (I1.hok.fresh (wHm _))
def zKx {X:Cx} {e:Addr} {tg:Expr} {a:Expr} {ta:TA} {p pos:Pos} (hg:Gl X "range") (hm:X.mg "range"=none) (ha:PA X [a] ta) (hs:starEach [a] X.env=[(false,eval a X.env)]:=by rfl):PIH X e tg (.Call (.Name "range" p) [a] [] pos) (zQW e ta):=by
 intro pins s σ H R I h;refine Call_ (zDq I hg hm boot_range (PyProof.Rows.callWith_type1 (thn (ha pos pins s σ H _ I h) λus s1 ⟨vs,H1,I1,r1,q1⟩=>?_) hs rfl));obtain⟨j,e1,q1,q2,q⟩:=q1;subst e1;cases r1 with
 | cons r rr=>
  cases rr;obtain⟨t,rfl⟩:=r;exact call_range_1 (zKp I1 q1 q2 q)
section
variable {X:Cx} {scope:Scope} {N':List Str} {mp:List (Option Nat)} {C:Addr} {s3:Shared} {H3:Hp} {fp:List Addr} {pins:List (Addr × Obj)} {σ:St}
def zJ1 {use:Option (Value->Sem Unit)} {Qo:Value->Shared->Prop} {elt tg iter:Expr} {ifs:List Expr} {pos p0:Pos} {wi:TI} {g:TG} {tt:TT} {te:TE} {H:Hp} {s:Shared} {fin:Addr->Hp->Prop} (B:BlkOk X scope N' mp) {hx:Addr} (hc:X.A.handled=some (.ref hx)) (hi:PIH X hx tg iter wi)
  (hg:∀C s3 H3 fp pins,PG (X.blk scope N' C s3 H3 fp pins) tg g) (eG:∀C s3 H3 fp pins,PIf (X.blk scope N' C s3 H3 fp pins) ifs tt) (he:∀C s3 H3 fp pins,PE (X.blk scope N' C s3 H3 fp pins) elt te)
  (hs:∀x,foldedSetIterable iter X.env x=pure x) (I:Inv X pins σ H s) (h:zI0 mp wi g tt te σ H fin)
  (fE:∀(l C:Addr) (H':Hp) (s':Shared) (m:Str->Option Value),s'.heap.Ns C m->Inv X pins σ H' s'->zEk X pins H' C->fin l H'->compPost (model X.prog X.w) X.A X.xe use Qo (.ref l) C (.ok .next) s') :
  wpAny (model X.prog X.w) X.A (comprehension (.ListComp elt [⟨tg,iter,ifs,0⟩] scope pos) scope X.env p0 (newList []) false (eval iter X.env) use) Qo X.xe s:=by
 refine wpAny_comprehension_free (use:=use) rfl hs (zEZ (B.cells I.ok)) B.kind B.names (thn (hi pins s σ H _ I h) λv s1 h1=>thn h1 λfT s2 h2=>?_);obtain⟨it,fp,tn,J,H2,e,I2,T,cL,f2,hl⟩:=h2;subst e;obtain⟨W,⟨m0,w0⟩,turn⟩:=hl _ I2.fresh;refine wH0 ?_;have I3:=I2.lnew (its:=[]) (t':=s2.toks) .nil (wHQ _);obtain⟨s3,fC⟩:∃s3:Shared,s3={ s2 with heap:=s2.heap.push { cls:=.type "list",data:=.seq ([]:List Value).toArray } }:=⟨_,rfl⟩;have I3:Inv X pins σ (upd H2 s2.heap.objs.size (.lst [])) s3:=by rw[fC];exact I3
 have gZ:∀b o,s2.heap.get? b=some o->s3.heap.get? b=some o:=λb o q=>by rw[fC];exact wHi _ q
 have aF:∀b∈fp,b < s2.heap.objs.size:=λb hb=>by obtain⟨o,q,_⟩:=T.obj _ _ cL b hb;exact wHq q
 have cV:∀b∈fp,b < s3.heap.objs.size:=λb hb=>by obtain⟨o,q,_⟩:=T.obj _ _ cL b hb;exact wHq (gZ _ _ q)
 have f3:∀b∈fp,zEk X pins (upd H2 s2.heap.objs.size (.lst [])) b:=λb hb=>by have f:=f2 b hb;exact⟨by rw[zO (wHu (aF b hb))];exact f.1,f.2⟩
 show wpAny _ _ (newFunctionEnv scope X.env.globals (zAM X.env scope.names []) [] X.env.qual none .none (some X.env)) _ _ { s2 with heap:=s2.heap.push { cls:=.type "list",data:=.seq ([]:List Value).toArray } };rw[← fC];refine wpAny_newFunctionEnv B.nocell (λy hy=>by simp at hy) (λh4 mR lP=>?_) B.kind;have gY:∀b o,s3.heap.get? b=some o->h4.get? b=some o:=λb o q=>lP.extBut b o (wHu (wHq q)) (wHi _ q);have I4:=B.inv I3 rfl f3 cV (t':=s3.toks+([]:List (Str × Value)).length) gY mR;have gK:tn 0 h4:=T.keep _ _ _ cL λb _ o q=>gY b o (gZ b o q);have fL:∀{H':Hp},(∀b∈fp,H' b=none)->∀b∈fp,zEk (X.blk scope N' s3.heap.objs.size s3 (upd H2 s2.heap.objs.size (.lst [])) fp pins) [] H' b:=λhn b hb=>zEk.blk I3 (wHm _) (f3 b hb) hb (cV b hb) (hn b hb);have loop:codeAny (model X.prog X.w) X.A (.compLoop (.ListComp elt [⟨tg,iter,ifs,0⟩] scope pos) 0 (.ref it) (.ref s2.heap.objs.size) (compEnvC scope (zAM X.env scope.names []) s3.heap.objs.size X.env))
   (compPost (model X.prog X.w) X.A X.xe use Qo (.ref s2.heap.objs.size) s3.heap.objs.size) { s3 with heap:=h4,toks:=s3.toks+([]:List (Str × Value)).length }:=by
  refine codeAny_loop rfl (λn s'=>∃i σ' H',Inv (X.blk scope N' s3.heap.objs.size s3 (upd H2 s2.heap.objs.size (.lst [])) fp pins) [] σ' H' s'/\tn i s'.heap/\(∀b∈fp,H' b=none)/\W i n σ' H') (λn s' hI=>?_) m0 ⟨0,_,_,I4,gK,λb hb=>(f3 b hb).1,w0⟩;obtain⟨i,σ',H',I',aV,iP,w'⟩:=hI;refine wpAny_noted ?_;rw[compTurn_list];refine wHe (wpAny_standAt (wHe ?_));rcases turn i n σ' H' w' with ⟨stop,qn⟩ | ⟨go,N,hN,step⟩
  ·refine thn (T.done (X.blk scope N' s3.heap.objs.size s3 (upd H2 s2.heap.objs.size (.lst [])) fp pins) rfl rfl rfl hc i [] s' σ' H' _ I' (fL iP) aV stop) λr s5 aB=>?_;obtain⟨hr,I5⟩:=aB;subst hr;obtain⟨m5,n5,_⟩:=I5.loc;refine wHk (fE _ _ H' s5 m5 n5 (I3.call' (ch:=fp) I5.os I5.base I5.hok I5.bare λb hb=>?_) (I3.fpOk (wHm _) I5.free) qn);obtain⟨_,g1,_,g3,g4,g5⟩:=f3 b hb;exact⟨g3,g1,g4,g5⟩
  refine thn (T.item (X.blk scope N' s3.heap.objs.size s3 (upd H2 s2.heap.objs.size (.lst [])) fp pins) rfl rfl rfl hc i [] s' σ' H' _ I' (fL iP) aV go) λr s5 aB=>?_;obtain⟨u,hr,h5⟩:=aB;subst hr;refine wHe (thn h5 λ_ s6 aB=>?_);obtain⟨x,H6,I6,r6,y6,fq,nD⟩:=aB;have oB:=I6.pinned (fL nD) (T.obj _ _ fq);have keep:∀{σ7:St} {H7:Hp} {s7:Shared},Inv (X.blk scope N' s3.heap.objs.size s3 (upd H2 s2.heap.objs.size (.lst [])) fp pins) ([]++zF9 fp s6.heap) σ7 H7 s7->N σ7 H7->
    ∃m,m < n/\∃i σ' H',Inv (X.blk scope N' s3.heap.objs.size s3 (upd H2 s2.heap.objs.size (.lst [])) fp pins) [] σ' H' s7/\tn i s7.heap/\(∀b∈fp,H' b=none)/\W i m σ' H':=λ{σ7 H7 s7} I7 n7=>by
   obtain⟨m',hm,w7⟩:=hN σ7 H7 n7;have pin:=λ(b:Addr) (hb:b∈fp) (o:Obj) (q:s6.heap.get? b=some o)=>I7.pin (b,o) (wHI _ (wHI _ (zC5 hb q)));refine⟨m',hm,i+1,σ7,H7,I7.unpinned,T.keep _ _ _ fq λb hb o q=>(pin b hb o q).1,λb hb=>?_,w7⟩;obtain⟨o,q,_⟩:=T.obj _ _ fq b hb;exact (pin b hb o q).2.1
  refine wHe (wHH (hg _ _ _ _ _ _ s6 σ' H6 x u _ oB r6 (step x H6 y6)) (λ_ s7 ⟨σ7,H7,I7,q7⟩=>?_) λ_ _ z=>z.elim);refine wHe (wHH (eG _ _ _ _ _ _ s7 σ7 H7 _ I7 q7) (λok s8 ⟨H8,I8,q8⟩=>?_) λ_ _ z=>z.elim);cases ok with
  | false=>exact wHk ⟨rfl,keep I8 q8⟩
  | true=>
   refine wHe (wHe (wHH (he _ _ _ _ _ _ s8 σ7 H8 _ I8 q8) (λy s9 ⟨v9,H9,I9,r9,xs,e9,z9,q9⟩=>?_) λ_ _ z=>z.elim));refine wHe (wHH (zA3 (X:=(X.blk scope N' s3.heap.objs.size s3 (upd H2 s2.heap.objs.size (.lst [])) fp pins)) _ s9 σ7 H9 (.ref s2.heap.objs.size) [v9] (.ref s2.heap.objs.size) [y] (λ_ H'=>N σ7 H') I9 rfl (.cons r9 .nil) ⟨_,xs,v9,rfl,rfl,e9,z9,q9⟩) (λ_ s10 ⟨_,H10,I10,_,q10⟩=>?_) λ_ _ z=>z.elim);exact wHk (wHk ⟨rfl,keep I10 q10⟩)
 exact codeAny_compStart_list loop (T.self _ 0 _ _ _ gK loop)
def zMd {x:Str} {elt tg iter:Expr} {ifs:List Expr} {pos px cM:Pos} {wi:TI} {g g2:TG} {tt:TT} {te:TE} (N':List Str) (mp:List (Option Nat)) (hk:zHu X.env.scope X.N scope N' mp=true) {hx:Addr} (hc:X.A.handled=some (.ref hx)) (hi:PIH X hx tg iter wi)
  (hg:∀C s3 H3 fp pins,PG (X.blk scope N' C s3 H3 fp pins) tg g) (eG:∀C s3 H3 fp pins,PIf (X.blk scope N' C s3 H3 fp pins) ifs tt) (he:∀C s3 H3 fp pins,PE (X.blk scope N' C s3 H3 fp pins) elt te)
  (h2:PG X (.Name x px) g2) (mC:swapsWith (.ListComp elt [⟨tg,iter,ifs,0⟩] scope pos) (some (.Name x px)) cM.line X.env=pure true:=by rfl)
  (hs:∀x,foldedSetIterable iter X.env x=pure x:=by intro _;rfl):PS X (.Assign [.Name x px] (.ListComp elt [⟨tg,iter,ifs,0⟩] scope pos) cM) (zP2 mp wi g tt te g2):=by
 intro pins s σ H D I h;rw[exec_Assign_Name_used _ _ _ _ mC];refine wHe (wpAny_standAt (wHe ?_));show wpAny _ _ (comprehension (.ListComp elt [⟨tg,iter,ifs,0⟩] scope pos) scope X.env (firstIterPos [⟨tg,iter,ifs,0⟩] pos) (newList []) false (eval iter X.env) (some (assign (.Name x px) X.env)) >>= λ_=>pure PUnit.unit) _ _ s;refine wHe (thn (zJ1 (use:=some (assign (.Name x px) X.env)) (Qo:=λ_ s'=>SP X pins D .next s') (BlkOk.of hk) hc hi hg eG he hs I h λl C H' s' m hn I' f q=>?_) λ_ s' q=>wHk (wHk q));show wpAny _ _ (assign (.Name x px) X.env (.ref l)) _ _ s';obtain⟨o,es,ep,ho,hr⟩:=id hn;obtain⟨f0,f1,f2,f3,f4,f5⟩:=f;have I2:Inv X (pins++[(C,o)]) σ H' s':=I'.pins_of λp hp=>by
  rcases wIC hp with z | z
  ·exact I'.pin p (wHI _ z)
  have e:p=(C,o):=by simpa using z
  subst e;exact⟨ho,f0,f1,f2,λv z=>by rw[hr.1] at z;cases z⟩
 refine thn (h2 _ s' σ H' (.ref l) (.ref l) _ I2 rfl q) λ_ s7 aB=>?_;obtain⟨σ7,H7,I7,q7⟩:=aB;have p7:=I7.pin (C,o) (wHI _ (wHI _ (by simp)));refine⟨m,⟨o,es,ep,p7.1,hr⟩,λh' sb=>⟨σ7,H7,?_,q7⟩⟩;exact I7.unpinned.turned (t':=s7.toks) (λb o hb e=>sb.extBut b o hb e) p7.2.1 f1 f3 f4 f5
end
def zIo {e l:Addr} {lo:Int} {n:Nat} {g:TG} {tt:TT} {te:TE} {fin:Hp->Prop} {σ0:St} {H0:Hp} (Pv:Nat->St->Hp->Prop) (h0:Pv 0 σ0 H0) (hx:∀σ H,Pv n σ H->∃cls dd,H e=some (zFL e cls dd))
  (hs:∀i σ H,i < n->Pv i σ H->g (.int (lo+i)) σ H λσ2 H2=>tt σ2 H2 λb H3=>if b=true then te σ2 H3 λv H4=>∃xs,H4 l=some (.lst xs)/\xs.length < sizeLine/\Pv (i+1) σ2 (upd H4 l (.lst (xs++[v]))) else Pv (i+1) σ2 H3)
  (hd:∀σ H,Pv n σ H->fin H):zEt l (zQ5 e lo n) g tt te fin σ0 H0:=by
 refine⟨λi m σ H=>m=n-i/\i<=n/\Pv i σ H,⟨n,by simp,wHQ _,h0⟩,?_⟩;rintro i m σ H ⟨rfl,hi,p⟩;by_cases aF:i < n
 ·refine .inr ⟨aF,Pv (i+1),λσ' H' p'=>⟨n-(i+1),by omega,rfl,aF,p'⟩,λx H' y=>?_⟩;obtain⟨e,y⟩:=y;subst e y;exact hs i σ _ aF p
 have e:i=n:=by omega
 subst e;exact .inl ⟨⟨wHm _,hx σ H p⟩,hd σ H p⟩
section
variable {P:Program} {w:World} {K:W.Frag} {mg:Str->Option Value} {base:Heap}
def Fun.okX {x qual:Str} {st:Stmt} {f:Addr} {fd:FuncData} {N ps:List Str} {k:Nat} {sp:Sp} (F:Fun K x qual st f fd) (S:FnScope N ps (zL st)) (len:∀vs H Q E,sp vs H Q E->vs.length=ps.length)
  (aS:∀(cdv:Value) (A:Around) (outer:List Env) (s:Shared) (H:Hp) (vs:List V) (Q:VK) (E:XK),Room k (A.deeper (envOfC qual (zL st) s.heap.objs.size f cdv))->sp vs H Q E->
   ∃t,PSs (zEa (CXx P w) P w K mg base N qual (zL st) f cdv A outer s H E) (zBa st) t/\t { nx:=λ_ H'=>Q .non H',rt:=Q } (zD2 N vs) H):FnOk P w K mg base (CXx P w) (k+1) f fd ps sp:=by
 obtain⟨oc,od,kV,doc,pm,an,cdv,ct,dG,rfl,lk,aQ⟩:=F.ex;exact zQj lk aQ S len λA outer s H vs Q E hr bX=>aS cdv A outer s H vs Q E hr bX
def zR5 (A:Around):Around:={ A with handled:=none }
structure RoomH (k:Nat) (e:Addr) (A:Around):Prop where
 hd:A.handled=some (.ref e)
 rm:Room k (zR5 A)
def RoomH.mono {j k:Nat} {e:Addr} {A:Around} (r:RoomH k e A) (h:j<=k):RoomH j e A:=⟨r.hd,r.rm.mono h⟩
def RoomH.of {k:Nat} {e:Addr} {A:Around} (r:Room k A):RoomH k e (A.mark (some (.ref e))):=⟨rfl,⟨rfl,r.dp,r.un⟩⟩
structure FnOkH (P:Program) (w:World) (K:W.Frag) (mg:Str->Option Value) (base:Heap) (k:Nat) (f:Addr) (fd:FuncData) (ps:List Str) (sp:Addr->Sp):Prop where
 len:∀e vs H Q E,sp e vs H Q E->vs.length=ps.length
 run:∀(e:Addr) (A:Around) (outer:List Env) (s:Shared) (H:Hp) (args:Args) (us:List Value) (vs:List V) (Q:VK) (E:XK),RoomH k e A->Env0 P w K mg base A outer s H->BindsTo s fd args (ps.zip us)->zA4 vs us->sp e vs H Q E->
  codeAny (model P w) A (.call (.ref f) args) (CR CX0 outer P w H s Q E) s
def FnOkH.mono {j k:Nat} {f:Addr} {fd:FuncData} {ps:List Str} {sp:Addr->Sp} (F:FnOkH P w K mg base j f fd ps sp) (h:j<=k):FnOkH P w K mg base k f fd ps sp:=⟨F.len,λe A outer s H args us vs Q E hr=>F.run e A outer s H args us vs Q E (hr.mono h)⟩
def cxH (P:Program) (w:World) (K:W.Frag) (mg:Str->Option Value) (base:Heap) (N:List Str) (qual:Str) (scope:Scope) (f:Addr) (cd:Value) (A:Around) (outer:List Env) (s:Shared) (H:Hp) (E:XK):Cx:=
 { zEa CX0 P w K mg base N qual scope f cd A outer s H E with calm:=false,xe:=λ_ _=>False }
def Fun.okH {x qual:Str} {st:Stmt} {f:Addr} {fd:FuncData} {N ps:List Str} {k:Nat} {sp:Addr->Sp} (F:Fun K x qual st f fd) (S:FnScope N ps (zL st)) (len:∀e vs H Q E,sp e vs H Q E->vs.length=ps.length)
  (aS:∀(cdv:Value) (e:Addr) (A:Around) (outer:List Env) (s:Shared) (H:Hp) (vs:List V) (Q:VK) (E:XK),RoomH k e (A.deeper (envOfC qual (zL st) s.heap.objs.size f cdv))->sp e vs H Q E->
   ∃t,PSs (cxH P w K mg base N qual (zL st) f cdv A outer s H E) (zBa st) t/\t { nx:=λ_ H'=>Q .non H',rt:=Q } (zD2 N vs) H):FnOkH P w K mg base (k+1) f fd ps sp:=by
 obtain⟨oc,od,kV,doc,pm,an,cdv,ct,dG,rfl,lk,aQ⟩:=F.ex;refine⟨len,λe A outer s H args us vs Q E hr e0 hb r bX=>?_⟩;have hl:=len _ _ _ _ _ bX;have kx:K.In s.heap:=e0.mod.kin.keeps λb o q=>(e0.bs b o q).1;have lim:s.heap.NoLimit:=e0.mod.nolimit.keeps λb o q=>(e0.bs b o q).1;refine codeAny_call_function (show A.depth < recursionLimit from hr.rm.depth) (kx _ _ lk) rfl S.co S.gen rfl (W.codeRec_of kx aQ) (hb _ _ _ _ ?_);refine wpAny_newFunctionEnv_cells S.kind (λy hy=>?_) λenv he s1 x=>?_
 ·rcases S.par y.1 (List.of_mem_zip (a:=y.1) (b:=y.2) hy).1 with q | q
  ·exact .inl q
  exact .inr ⟨q,W.cellsFrom_some _ _ _ (.inl q)⟩
 subst he;refine⟨lim.keeps x.toInCall.keep,codeAny_func ?_⟩;obtain⟨t,ht,hq⟩:=aS cdv e A outer s H vs Q E ⟨hr.hd,⟨rfl,(hr.rm.deeper (envOfC qual (zL st) s.heap.objs.size f cdv)).dp,(hr.rm.deeper (envOfC qual (zL st) s.heap.objs.size f cdv)).un⟩⟩ bX;have I0:Inv (zEa CX0 P w K mg base N qual (zL st) f cdv (zR5 A) outer s H E) [] (zD2 N vs) H s1:=zHf S rfl ⟨e0.frames,e0.mod,e0.bs,e0.bsz,e0.funs,e0.frf,e0.hok,e0.bare⟩ hl r x;have I:Inv (cxH P w K mg base N qual (zL st) f cdv A outer s H E) [] (zD2 N vs) H s1:=
  ⟨⟨I0.ok.mod,I0.ok.kind,I0.ok.glob,I0.ok.blt,I0.ok.above,I0.ok.inj,I0.ok.has,I0.ok.cab,λz=>(nomatch (show false=true from z)),I0.ok.frames,I0.ok.stk,I0.ok.exf,I0.ok.bs,I0.ok.bsz,I0.ok.noex,I0.ok.exfs,I0.ok.funs,I0.ok.frf⟩,I0.os,I0.bare,I0.base,I0.loc,I0.cell,I0.free,I0.freeC,I0.pin,I0.hok,I0.len⟩
 refine wHH (ht [] s1 (zD2 N vs) H _ I hq) (λfl s' hs=>?_) λ_ _ z=>z.elim;cases fl with
 | ret u=>
  obtain⟨v,σ',H',J,rv,q⟩:=hs;exact⟨v,H',J.os,J.bare,J.base,J.hok,rv,q⟩
 | next=>
  obtain⟨σ',H',J,q⟩:=hs;exact⟨V.non,H',J.os,J.bare,J.base,J.hok,rfl,q⟩
 | brk=>
  obtain⟨_,_,_,q⟩:=hs;exact wHX q
 | cont=>
  obtain⟨_,_,_,q⟩:=hs;exact wHX q
end
section
variable {X:Cx} {k:Nat} {f:Addr} {fd:FuncData} {ps:List Str} {x:Str} {p pos:Pos} {a:Expr} {es:List Expr} {t:TA}
def zPq (e:Addr) (sp:Addr->Sp) (t:TA):TE:=λσ H Q=>t σ H λvs H1=>sp e vs H1 Q E0
def zIA {sp:Addr->Sp} {e:Addr} (F:FnOkH X.prog X.w X.K X.mg X.base k f fd ps sp) (hr:RoomH k e X.A) (hg:Gl X x) (hm:X.mg x=some (.ref f)) (hk:W.keepIn X.K (.ref f)=true) (hb:zAc X.K fd ps [])
  (ha:PA X (a::es) t) (cA:(x == ("__debug__":Str))=false:=by decide) (he:starEach (a::es) X.env=(false,eval a X.env)::starEach es X.env:=by rfl) (aM:(backTo pos (starEach es X.env)).any (·.1)=false:=by rfl) :
  PE X (.Call (.Name x p) (a::es) [] pos) (zPq e sp t):=by
 intro pins s σ H Q I h;refine wpAny_Call_Name_kw (zBP I hg hm ?_ cA);refine W.callWith_K (h₀:=X.base) I.ok.mod.kin hk (thn (ha pos pins s σ H _ I h) λus s1 ⟨vs,H1,I1,r,q⟩=>⟨I1.kIn,?_⟩) he aM;have hl:us.length=ps.length:=by rw[← r.length];exact F.len _ _ _ _ _ q
 refine wpAny_call (codeAny_mono (F.run e X.A X.stack s1 H1 ⟨us,[]⟩ us vs Q E0 hr I1.env0 (by have:=hb s1 us I1.kIn (by rw[wHR];exact hl);rwa [wHR] at this) r q) λr s' hq=>?_);cases r with
 | error ev=>exact wHX hq
 | ok fl=>
  cases fl with
  | ret u=>exact I1.after hq
  | next=>exact wHX hq
  | brk=>exact wHX hq
  | cont=>exact wHX hq
end
def zLo {K:W.Frag} {C:Addr} {od:Option Obj} {name:Str} {a g:Value} (hc:(W.clsIn K C).isSome=true) (ha:W.findIn K (.ref C) name=some (some a)) (hg:W.specialIn K a "__get__"=some (some g)) (ht:W.takesIn K a=some true) :
  W.findObj K C od name=some (.bind g a):=by
 cases q:W.clsIn K C with
 | none=>rw[q] at hc;cases hc
 | some cd=>simp[W.findObj,q,ha,hg,ht]
def vcl:V->Value
 | .ref D=>.ref D
 | .ty n=>.type n
 | _=>.none
def Its (x:Str):It:=⟨λi _=>i < x.length,λi H v H'=>H'=H/\∃c,x.cps.toList[i]?=some c/\v=.str (tx [c]),λi _=>x.length<=i⟩
def zLu {x:Str} {i c:Nat} (h:x.cps.toList[i]?=some c):x.cps[i]?=some c:=by simpa using h
def zJJ {P:Program} {w:World} {K:W.Frag} {tg:Expr} (it:Addr) (x:Str) (t:Tok):Turn P w K tg (Its x) [it] it (λi h=>h.IsStrIter it "str_ascii_iterator" x t i) where
 mem:=by simp
 obj:=λi h st b hb=>by obtain⟨o,e,c,d⟩:=st;rw[show b=it from by simpa using hb];exact⟨o,e,λv z=>by rw[d] at z;cases z⟩
 keep:=λi h h' ⟨o,e,r⟩ k=>⟨o,k it (by simp) o e,r⟩
 item:=by
  intro X hP hw hK hc i pins s σ H E I hf st hg;subst hP hw hK;obtain⟨f0,f1,f2,f3,f4,f5⟩:=hf it (by simp);have hi:i < x.cps.toList.length:=by rw[← zBv];exact hg
  have hx:x.cps.toList[i]?=some x.cps.toList[i]:=wHg hi;refine wpAny_pyNext_ascii_item st (zLu hx) λh' aV sb=>?_;have I1:Inv X pins σ H { s with heap:=h',toks:=s.toks+1 }:=I.turned (λb o hb e=>(sb.2 b hb).trans e) f0 f1 f3 f4 f5;obtain⟨o,e,c,d⟩:=id aV;exact⟨_,rfl,zLf (s:={ s with heap:=h',toks:=s.toks+1 }) e c d ⋯ ⟨.str (tx [x.cps.toList[i]]),H,I1,⟨_,rfl⟩,⟨rfl,_,hx,rfl⟩,aV,λb hb=>(hf b hb).1⟩⟩
 done:=by
  intro X hP hw hK hc i pins s σ H E I hf st hg;subst hP hw hK;obtain⟨f0,f1,f2,f3,f4,f5⟩:=hf it (by simp);have hn:x.cps[i]?=none:=by rw[← wIr];exact wH8 (by rw[← zBv];exact hg)
  exact wpAny_pyNext_ascii_end (I.ok.hd hc) st hn λh' eb=>⟨rfl,I.turned (t':=s.toks) (λb o hb e=>eb b o hb e) f0 f1 f3 f4 f5⟩
 self:=λ_ _ _ _ _ st h=>wpAny_pyIter_striter_ascii st h
def zJI {P:Program} {w:World} {K:W.Frag} {tg:Expr} (it:Addr) (x:Str) (t:Tok):Turn P w K tg (Its x) [it] it (λi h=>h.IsStrIter it "str_iterator" x t i) where
 mem:=by simp
 obj:=λi h st b hb=>by obtain⟨o,e,c,d⟩:=st;rw[show b=it from by simpa using hb];exact⟨o,e,λv z=>by rw[d] at z;cases z⟩
 keep:=λi h h' ⟨o,e,r⟩ k=>⟨o,k it (by simp) o e,r⟩
 item:=by
  intro X hP hw hK hc i pins s σ H E I hf st hg;subst hP hw hK;obtain⟨f0,f1,f2,f3,f4,f5⟩:=hf it (by simp);have hi:i < x.cps.toList.length:=by rw[← zBv];exact hg
  have hx:x.cps.toList[i]?=some x.cps.toList[i]:=wHg hi;refine wpAny_pyNext_wide_item st (zLu hx) λh' aV sb=>?_;have I1:Inv X pins σ H { s with heap:=h',toks:=s.toks+1 }:=I.turned (λb o hb e=>(sb.2 b hb).trans e) f0 f1 f3 f4 f5;obtain⟨o,e,c,d⟩:=id aV;exact⟨_,rfl,zLf (s:={ s with heap:=h',toks:=s.toks+1 }) e c d ⋯ ⟨.str (tx [x.cps.toList[i]]),H,I1,⟨_,rfl⟩,⟨rfl,_,hx,rfl⟩,aV,λb hb=>(hf b hb).1⟩⟩
 done:=by
  intro X hP hw hK hc i pins s σ H E I hf st hg;subst hP hw hK;obtain⟨f0,f1,f2,f3,f4,f5⟩:=hf it (by simp);have hn:x.cps[i]?=none:=by rw[← wIr];exact wH8 (by rw[← zBv];exact hg)
  exact wpAny_pyNext_wide_end (I.ok.hd hc) st hn λh' eb=>⟨rfl,I.turned (t':=s.toks) (λb o hb e=>eb b o hb e) f0 f1 f3 f4 f5⟩
 self:=λ_ _ _ _ _ st h=>wpAny_pyIter_striter_wide st h
section
variable {X:Cx} {tg:Expr}
inductive IStr (x:V) (H1:Hp) (R:It->Hp->Prop):Prop
 | mk (z:_):(x=.str z)->(R (Its z) H1)->IStr x H1 R
def zRX (tl:TE):TI:=λσ H R=>tl σ H λx H1=>IStr x H1 R
def zPA {l:Expr} {tl:TE} (hl:PE X l tl):PI X tg l (zRX tl):=by
 intro pins s σ H R I h;refine thn (hl pins s σ H _ I h) λv s1 aB=>?_;obtain⟨x,H1,I1,r1,z,e,q⟩:=aB;subst e;obtain⟨t,rfl⟩:=r1;have fp:∀b∈[s1.heap.objs.size],zEk X pins H1 b:=λb hb=>by rw[show b=s1.heap.objs.size from by simpa using hb];exact I1.fpOk (wHm _) (I1.hok.fresh (wHm _))
 cases ha:z.cps.all (· < 128)
 ·exact wpAny_pyIter_wide ha ⟨s1.heap.objs.size,[s1.heap.objs.size],_,_,H1,rfl,I1.kept (t':=s1.toks) λb o e=>wHi _ e,zJI _ z t,⟨_,wHs _ rfl,rfl,rfl⟩,fp,q⟩
 exact wpAny_pyIter_ascii ha ⟨s1.heap.objs.size,[s1.heap.objs.size],_,_,H1,rfl,I1.kept (t':=s1.toks) λb o e=>wHi _ e,zJJ _ z t,⟨_,wHs _ rfl,rfl,rfl⟩,fp,q⟩
end
def zMI {l:Addr} {x:Str} {g:TG} {tt:TT} {te:TE} {fin:Hp->Prop} {σ0:St} {H0:Hp} (Pv:Nat->St->Hp->Prop) (h0:Pv 0 σ0 H0)
  (hs:∀i c σ H,x.cps.toList[i]?=some c->Pv i σ H->g (.str (tx [c])) σ H λσ2 H2=>tt σ2 H2 λb H3=>if b=true then te σ2 H3 λv H4=>∃xs,H4 l=some (.lst xs)/\xs.length < sizeLine/\Pv (i+1) σ2 (upd H4 l (.lst (xs++[v]))) else Pv (i+1) σ2 H3)
  (hd:∀σ H,Pv x.length σ H->fin H):zEt l (Its x) g tt te fin σ0 H0:=by
 refine⟨λi m σ H=>m=x.length-i/\i<=x.length/\Pv i σ H,⟨x.length,by simp,wHQ _,h0⟩,?_⟩;rintro i m σ H ⟨rfl,hi,p⟩;by_cases aF:i < x.length
 ·refine .inr ⟨aF,Pv (i+1),λσ' H' p'=>⟨x.length-(i+1),by omega,rfl,aF,p'⟩,λv H' aB=>?_⟩;obtain⟨e,c,hc,ev⟩:=aB;subst e ev;exact hs i c σ _ hc p
 have e:i=x.length:=by omega
 subst e;exact .inl ⟨wHm _,hd σ H p⟩
open Builtin.Str in
theorem zQc (i:Int) (u:Option Int) (n:Nat) (h:0<=i):strSliceIndices (some i) u 1 n=strSliceIndices (some (min i n)) u 1 n:=by
 have e:max 0 (min i (n:Int))=max 0 (min (min i (n:Int)) (n:Int)):=by omega
 have e1:(if i < 0 then i+(n:Int) else i)=i:=wHj ∅;have e2:(if min i (n:Int) < 0 then min i (n:Int)+(n:Int) else min i (n:Int))=min i (n:Int):=wHj ∅;unfold strSliceIndices;simp only[e1,e2];rw[show (if (1:Int) > 0 then max 0 (min i (n:Int)) else max (-1) (min i ((n:Int)-1)))=(if (1:Int) > 0 then max 0 (min (min i (n:Int)) (n:Int)) else max (-1) (min (min i (n:Int)) ((n:Int)-1))) from by rw[wHl ⋯,wHl ⋯,e]]
open Builtin.Str in
theorem zQd (i:Int) (l:Option Int) (n:Nat) (h:0<=i):strSliceIndices l (some i) 1 n=strSliceIndices l (some (min i n)) 1 n:=by
 have e:max 0 (min i (n:Int))=max 0 (min (min i (n:Int)) (n:Int)):=by omega
 have e1:(if i < 0 then i+(n:Int) else i)=i:=wHj ∅;have e2:(if min i (n:Int) < 0 then min i (n:Int)+(n:Int) else min i (n:Int))=min i (n:Int):=wHj ∅;unfold strSliceIndices;simp only[e1,e2];rw[show (if (1:Int) > 0 then max 0 (min i (n:Int)) else max (-1) (min i ((n:Int)-1)))=(if (1:Int) > 0 then max 0 (min (min i (n:Int)) (n:Int)) else max (-1) (min (min i (n:Int)) ((n:Int)-1))) from by rw[wHl ⋯,wHl ⋯,e]]
theorem zLL (x:Str) (j:Int) (h:0<=j):StrLaws.sliceText x none (some j)=tx (x.cps.toList.take j.toNat):=by
 have e:StrLaws.sliceText x none (some j)=StrLaws.sliceText x none (some (min j x.length)):=by unfold StrLaws.sliceText;rw[zQd j none x.length h]
 have l:=zBv x;rw[e,StrLaws.sliceText_to ⟨by omega,by omega⟩];show tx _=tx _;rw[List.drop_zero,Int.sub_zero];by_cases c:j<=x.length
 ·rw[Int.min_eq_left c]
 rw[Int.min_eq_right ∅,wIk ∅,wIk ∅]
theorem zIZ (x:Str) (i:Int) (h:0<=i):StrLaws.sliceText x (some i) none=tx (x.cps.toList.drop i.toNat):=by
 have e:StrLaws.sliceText x (some i) none=StrLaws.sliceText x (some (min i x.length)) none:=by unfold StrLaws.sliceText;rw[zQc i none x.length h]
 have l:=zBv x;rw[e,StrLaws.sliceText_from ⟨by omega,by omega⟩];show tx _=tx _;by_cases c:i<=x.length
 ·rw[Int.min_eq_left c,wIk (by rw[wIj];omega)]
 rw[Int.min_eq_right ∅,List.drop_of_length_le (show x.cps.toList.length<=i.toNat by omega),List.drop_of_length_le (show x.cps.toList.length<=(x.length:Int).toNat by omega)];simp
section
variable {X:Cx}
def zRN:V->Option Int->Option Int->Hp->VK->Prop:=λx lo hi H Q=>∃z,x=.str z/\z.length<=sizeLine/\((lo=none/\∃j,hi=some j/\0<=j/\Q (.str (tx (z.cps.toList.take j.toNat))) H)∨(∃i,lo=some i/\hi=none/\0<=i/\Q (.str (tx (z.cps.toList.drop i.toNat))) H))
def zMX:SlR X zRN:=by
 intro pins s σ H x v vl vu lo hi sl Q I rx hs pl pu h;obtain⟨z,rfl,hz,h⟩:=h;obtain⟨t,rfl⟩:=rx;refine⟨"str",_,F.slot_str_getitem.lookup,typeIs_str _ _ _,?_⟩;obtain⟨o,g1,g2,g3⟩:=hs;rcases h with ⟨rfl,j,rfl,j0,q⟩ | ⟨i,rfl,rfl,i0,q⟩
 ·cases pl;cases pu with
  | int _ tj=>
   refine wpAny_getItem_str_slice (l:=none) (u:=some (j,tj)) (st:=none) ⟨o,g1,g2,g3⟩ rfl (post_val_or_str (c:=((1:Int) == 1 && (slicePicked z none (some (j,tj)) none).length == z.length)=true) ⟨wHv (Txt.slice_le z _ _) hz,λt' k=>⟨.str _,H,I.tok _,⟨_,rfl⟩,?_⟩⟩);have e:=zLL z j j0;unfold StrLaws.sliceText at e;unfold slicePicked;rw[show (none:Option (Int × Tok)).map (·.1)=none from rfl,show (some (j,tj)).map (·.1)=some j from rfl];rw[show ((none:Option Int)).getD 1=1 from rfl];rw[e];exact q
 cases pu;cases pl with
 | int _ ti=>
  refine wpAny_getItem_str_slice (l:=some (i,ti)) (u:=none) (st:=none) ⟨o,g1,g2,g3⟩ rfl (post_val_or_str (c:=((1:Int) == 1 && (slicePicked z (some (i,ti)) none none).length == z.length)=true) ⟨wHv (Txt.slice_le z _ _) hz,λt' k=>⟨.str _,H,I.tok _,⟨_,rfl⟩,?_⟩⟩);have e:=zIZ z i i0;unfold StrLaws.sliceText at e;unfold slicePicked;rw[show (none:Option (Int × Tok)).map (·.1)=none from rfl,show (some (i,ti)).map (·.1)=some i from rfl];rw[show ((none:Option Int)).getD 1=1 from rfl];rw[e];exact q
inductive RInS (x:V) (y:V) (H:Hp) (Q:VK):Prop
 | mk (c:_) (z:_):(x=.str (tx [c]))->(y=.str z)->(Q (.bl (decide (c∈z.cps.toList))) H)->RInS x y H Q
def zJl:OpR X (compareOp .In) (λx y H Q=>RInS x y H Q):=by intro pins s σ H x y v u Q I rx ry h;obtain⟨c,z,rfl,rfl,q⟩:=h;refine zK5 pins s σ H _ _ v u Q I rx ry ⟨tx [c],z,rfl,rfl,?_⟩;rw[show tx [c]=(⟨#[c]⟩:Str) from rfl,StrLaws.found_one];exact q
theorem zIS:∀{bs:List Bool} {us:List Value},zA4 (bs.map V.bl) us->us=bs.map Value.bool
 | [],_,.nil=>rfl
 | b::bs,_,.cons e r=>by rw[show _=Value.bool b from e,zIS r];rfl
inductive RAll (K:W.Frag) (xs:List V) (H:Hp) (Q:VK):Prop
 | mk (p:Addr) (bs:List Bool):(xs=[.ref p])->(SqL K H p (bs.map V.bl))->(Q (.bl (bs.all id)) H)->RAll K xs H Q
def zMP (hc:X.calm=true):zB7 X (.builtin "all") (λxs H Q=>RAll X.K xs H Q):=by
 intro pins s σ H xs us Q I r h;obtain⟨p,bs,rfl,hS,q⟩:=h;obtain⟨u,rfl,ru⟩:=r.one;cases ru;obtain⟨its,rv,pl,hz⟩:=I.list hS;have hi:=zIS rv;have hp:p < s.heap.objs.size:=by obtain⟨o,n,e,_⟩:=pl;exact wHq e
 refine call_all_walk (wpAny_pyIter_list pl.isList ?_);refine⟨s.heap.objs.size,_,_,_,_,_,λi=>bs.getD i true,rfl,Walks.list (A:=X.A.in1) (show X.A.in1.handled=none from I.ok.hd hc) s.heap.objs.size p (wHu hp) its.toArray,⟨⟨_,wHs _ rfl,rfl,rfl⟩,pl.isList.push _⟩,λi v s' Q' E' hv q'=>?_,λh' tk hm=>?_⟩
 ·have eX:its.toArray[i]?=some v:=hv;have:v=.bool (bs.getD i true):=by
   rw[hi] at eX;simp only[List.getElem?_toArray,wHn] at eX;rw[wHh];cases e:bs[i]? with
   | none=>rw[e] at eX;cases eX
   | some b=>rw[e] at eX;exact (wHo eX).symm
  rw[this];exact wpAny_truthy_bool q'
 have e:(List.range its.toArray.size).all (λi=>bs.getD i true)=bs.all id:=by
  rw[wHz,hi,wHf];rw[Bool.eq_iff_iff,List.all_eq_true,List.all_eq_true];constructor
  ·intro h b hb;obtain⟨i,aF,rfl⟩:=List.getElem_of_mem hb;have:=h i (List.mem_range.mpr aF);rw[wHh,wHg aF] at this;exact this
  intro h i hi;rw[wHh,wHg (List.mem_range.mp hi)];exact h _ (wHF _)
 rw[e];exact⟨.bl (bs.all id),H,I.kept λb o q=>hm b o (λz=>by rw[wIz z] at q;exact absurd (wHq q) (Nat.lt_irrefl _)) (wHi _ q),rfl,q⟩
def zRT (te:TE) (t:TJ):TJ:=λσ H out Q=>te σ H λx H1=>∃z,x=.str z/\(∀c∈z.cps.toList,c < 16 ^ 8)/\z.length<=100000/\∀y:Str,y.length<=1000002->(out++y).length<=sizeLine/\t σ H1 (out++y) Q
def zKv {e:Expr} {te:TE} {pos} {es:List Expr} {t:TJ} (he:PE X e te) (h:PJ X es t):PJ X (.FormattedValue e 114 none pos::es) (zRT te t):=λpins s σ H out Q I hq=>by
 refine joinParts_cons (wpAny_FormattedValue_repr (thn (he pins s σ H _ I hq) λv s1 aB=>?_));obtain⟨x,H1,I1,r1,z,ez,hc,hz,q⟩:=aB;subst ez;obtain⟨t1,rfl⟩:=r1;have lr:=PySem.StrLaws.reprText_len z hc;have lr2:(PySem.reprText z).length<=1000002:=by omega
 have lr3:(PySem.reprText z).length<=sizeLine:=sz _ ∅;obtain⟨q1,q2⟩:=q _ lr2;exact wpAny_pyReprObj_str (formatField_str (λt' tk=>⟨q1,h pins _ σ H1 _ Q (I1.tok _) q2⟩) lr3) lr3
end
def zMi {P:Program} {w:World} {X:Cx}:zDx (CXx P w) X E0:=by intro pins σ H s ev s' I hx;obtain⟨_,_,_,_,_,_,_,_,_,_,_,_,_,_,_,q⟩:=hx;exact q.elim
inductive Deed where
 | house (n:Str)
 | pact (g t:Str) (p f l:Int)
 | loss (h:Str) (d a:Int)
def Deed.tag:Deed->Str
 | .house _=>Str.ofString "house"
 | .pact ..=>Str.ofString "pact"
 | .loss ..=>Str.ofString "loss"
def Deed.rest:Deed->List V
 | .house n=>[.str n]
 | .pact g t p f l=>[.str g,.str t,.int p,.int f,.int l]
 | .loss h d a=>[.str h,.int d,.int a]
def Deed.vs (d:Deed):List V:=.str d.tag::d.rest
def Deed.isH:Deed->Bool
 | .house _=>true
 | _=>false
def Deed.isP:Deed->Bool
 | .pact ..=>true
 | _=>false
def tg1:decide (V.str "pact"=V.str "house")=false:=by nofun
def tg2:decide (V.str "loss"=V.str "house")=false:=by nofun
def tg3:decide (V.str "house"=V.str "pact")=false:=by nofun
def tg4:decide (V.str "loss"=V.str "pact")=false:=by nofun
def zJM (d:Deed):decide (V.str d.tag=V.str "house")=d.isH:=by
 cases d
 ·exact wHM rfl
 ·exact tg1
 exact tg2
def zLG (d:Deed):decide (V.str d.tag=V.str "pact")=d.isP:=by
 cases d
 ·exact tg3
 ·exact wHM rfl
 exact tg4
def zI (ds:List Deed):List Str:=ds.filterMap λd=>match d with | .house n=>some n | _=>none
abbrev Pct:=Str × Str × Int × Int × Int
def Pct.vs (p:Pct):List V:=[.str p.1,.str p.2.1,.int p.2.2.1,.int p.2.2.2.1,.int p.2.2.2.2]
def zU (ds:List Deed):List Pct:=ds.filterMap λd=>match d with | .pact g t p f l=>some (g,t,p,f,l) | _=>none
abbrev Lss:=Str × Int × Int
def Lss.vs (p:Lss):List V:=[.str p.1,.int p.2.1,.int p.2.2]
theorem zEO (a b:List Deed):zI (a++b)=zI a++zI b:=List.filterMap_append
def zEG (a b:List Deed):zU (a++b)=zU a++zU b:=List.filterMap_append
def zEN {ds:List Deed} {i:Nat} {d:Deed} (h:ds[i]?=some d):zI (ds.take (i+1))=zI (ds.take i)++zI [d]:=by rw[← zEO,wHY,h];rfl
def zEF {ds:List Deed} {i:Nat} {d:Deed} (h:ds[i]?=some d):zU (ds.take (i+1))=zU (ds.take i)++zU [d]:=by rw[← zEG,wHY,h];rfl
def zGX (ds:List Deed):(zI ds).length<=ds.length:=List.length_filterMap_le _ _
def zGO (ds:List Deed):(zU ds).length<=ds.length:=List.length_filterMap_le _ _
def zDy (x:Addr) (H H':Hp):Prop:=∀b o,b≠x->H b=some o->H' b=some o
def zDy.of {x:Addr} {H H':Hp} (s:zAh H H'):zDy x H H':=λb o _ e=>s b o e
def zDy.trans {x:Addr} {H H1 H2:Hp} (a:zDy x H H1) (b:zDy x H1 H2):zDy x H H2:=λc o n e=>b c o n (a c o n e)
def zDy.upd {x:Addr} {H:Hp} {o:HO}:zDy x H (upd H x o):=λb u n e=>(zO n).trans e
def zDy.seq {K:W.Frag} {x:Addr} {H H':Hp} {a:Addr} {xs:List V} (k:zDy x H H') (n:a≠x) (h:SqL K H a xs):SqL K H' a xs:=by
 rcases h with (h | ⟨o,h⟩) | h
 ·exact .inl (.inl (k _ _ n h))
 ·exact .inl (.inr ⟨o,k _ _ n h⟩)
 exact .inr h
def zAC (H:Hp) (C b tl:Addr) (ds:List Deed):Prop:=
 ∃(dx:Addr) (q:List Addr),H b=some (.ins C dx [("told",.ref tl)])/\H tl=some (.lst (q.map V.ref))/\q.length=ds.length/\∀(i:Nat) (a:Addr) (d:Deed),q[i]?=some a->ds[i]?=some d->H a=some (.tup d.vs)
def zAC.same {H H':Hp} {C b tl:Addr} {ds:List Deed} (x:zAC H C b tl ds) (s:zAh H H'):zAC H' C b tl ds:=by obtain⟨dx,q,h1,h2,h3,h4⟩:=x;exact⟨dx,q,s _ _ h1,s _ _ h2,h3,λi a d e1 e2=>s _ _ (h4 i a d e1 e2)⟩
def zAC.keep {H H':Hp} {C b tl y:Addr} {ds:List Deed} (x:zAC H C b tl ds) (k:zDy y H H') (n:tl≠y) (ho:∃xs,H y=some (.lst xs)):zAC H' C b tl ds:=by obtain⟨dx,q,h1,h2,h3,h4⟩:=x;obtain⟨xs,hy⟩:=ho;exact⟨dx,q,k _ _ (zCC h1 hy (by intro z;cases z)) h1,k _ _ n h2,h3,λi a d e1 e2=>k _ _ (zCC (h4 i a d e1 e2) hy (by intro z;cases z)) (h4 i a d e1 e2)⟩
def zAC.snoc {H:Hp} {C b tl p:Addr} {ds:List Deed} {d:Deed} {q:List Addr} {dx:Addr} (h1:H b=some (.ins C dx [("told",.ref tl)])) (h2:H tl=some (.lst (q.map V.ref))) (h3:q.length=ds.length)
  (h4:∀(i:Nat) (a:Addr) (d:Deed),q[i]?=some a->ds[i]?=some d->H a=some (.tup d.vs)) (hp:H p=some (.tup d.vs)):zAC (upd H tl (.lst (q.map V.ref++[V.ref p]))) C b tl (ds++[d]):=by
 refine⟨dx,q++[p],?_,?_,by rw[wHp,wHp,h3];rfl,λi a d' e1 e2=>?_⟩
 ·rw[zO (zCC h1 h2 (by intro z;cases z))];exact h1
 ·rw[zB,wHr];rfl
 have g:H a=some (.tup d'.vs):=by
  by_cases c:i < q.length
  ·rw[wHE c] at e1;rw[wHE ∅] at e2;exact h4 i a d' e1 e2
  rw[wHC ∅] at e1;rw[wHC ∅] at e2;have z:i-q.length=0:=by have:=(wIy e1).1;rw[wH7] at this;omega
  have z2:i-ds.length=0:=by omega
  rw[z] at e1;rw[z2] at e2;cases e1;cases e2;exact hp
 rw[zO (zCC g h2 (by intro z;cases z))];exact g
def zOK {n:Nat}:Str.empty.length<=n:=wHQ _
def zR2 {a b:Str} {n k:Nat} (ha:a.length<=n) (hb:b.length<=k):(a++b).length<=n+k:=by rw[zIe a,zIe b,zJH,zCD,wHp];rw[zBv] at ha hb;omega
def zGz:bootBuiltins "ValueError"=some (.type "ValueError"):=by nofun
def zJ9 (n:Str):Prop:=(∀c∈n.cps.toList,97<=c/\c<=122)/\1<=n.length/\n.length<=8
def zKW (c:Nat):Bool:=decide (c∈(Str.ofString "abcdefghijklmnopqrstuvwxyz").cps.toList)
def zHe (c:Nat):zKW c=true↔97<=c/\c<=122:=by
 have e:(Str.ofString "abcdefghijklmnopqrstuvwxyz").cps.toList=(List.range 26).map (97 + ·):=by nofun
 unfold zKW;rw[e,decide_eq_true_iff,List.mem_map];constructor
 ·rintro⟨a,ha,rfl⟩;have:=List.mem_range.mp ha;omega
 rintro⟨h1,h2⟩;exact⟨c-97,List.mem_range.mpr ∅,by omega⟩
instance (n:Str):Decidable (zJ9 n):=inferInstanceAs (Decidable (_/\_/\_))
def zG4 (n:Str):Prop:=(∀c∈n.cps.toList,c < 1114112)/\n.length<=1000
def zG4.c16 {n:Str} (h:zG4 n):∀c∈n.cps.toList,c < 16 ^ 8:=λc hc=>by have:=h.1 c hc;omega
def zJ9.sane {n:Str} (h:zJ9 n):zG4 n:=⟨λc hc=>by have:=h.1 c hc;omega,by have:=h.2.2;omega⟩
def zLa (n:Str) (ns:List Str):inV (.str n) (ns.map V.str)=decide (n∈ns):=by
 unfold inV;rw[Bool.eq_iff_iff,decide_eq_true_iff]
 induction ns with
 | nil=>simp
 | cons x r ih=>
  simp only[wIg,List.any_cons,Bool.or_eq_true,wId];rw[ih];constructor
  ·rintro (z | z)
   ·left
    have z':(x == n)=true:=z;exact (beq_iff_eq.mp z').symm
   exact .inr z
  rintro (z | z)
  ·left
   show (x == n)=true;rw[z];exact beq_self_eq_true _
  exact .inr z
def zHl (ns:List Str):(ns.map V.str).all zFv=true:=by
 rw[List.all_eq_true];intro x hx;obtain⟨z,_,rfl⟩:=List.mem_map.mp hx
 rfl
mutual
inductive RdD (K:W.Frag) (H:Hp):V->PyData->Prop
 | non:RdD K H .non .none
 | bl (b:Bool):RdD K H (.bl b) (.bool b)
 | int (i:Int):RdD K H (.int i) (.int i)
 | str (x:Str):RdD K H (.str x) (.str x)
 | lst {a:Addr} {xs:List V} {ds:List PyData}:SqL K H a xs->RdA K H xs ds->RdD K H (.ref a) (.list ds)
 | tup {a:Addr} {xs:List V} {ds:List PyData}:SqT K H a xs->RdA K H xs ds->RdD K H (.ref a) (.tuple ds)
inductive RdA (K:W.Frag) (H:Hp):List V->List PyData->Prop
 | nil:RdA K H [] []
 | cons {x:V} {xs:List V} {d:PyData} {ds:List PyData}:RdD K H x d->RdA K H xs ds->RdA K H (x::xs) (d::ds)
end
section
variable {X:Cx} {pins:List (Addr × Obj)} {σ:St} {H:Hp} {s:Shared}
mutual
theorem RdD.reads (I:Inv X pins σ H s):∀{x:V} {d:PyData},RdD X.K H x d->∀u,zBg x u->∃as,Reads s.heap u d as
 | _,_,.non,u,r=>by cases r;exact⟨_,.none⟩
 | _,_,.bl b,u,r=>by cases r;exact⟨_,.bool b⟩
 | _,_,.int i,u,r=>by obtain⟨t,rfl⟩:=r;exact⟨_,.int i t⟩
 | _,_,.str i,u,r=>by obtain⟨t,rfl⟩:=r;exact⟨_,.str i t⟩
 | _,_,.lst h g,u,r=>by cases r;obtain⟨its,rv,pl,hz⟩:=I.list h;obtain⟨as,ra⟩:=RdA.reads I g its rv;obtain⟨o,n,e1,e2,_,e3⟩:=pl;exact⟨_,.list e1 e2 e3 (by simpa using ra)⟩
 | _,_,.tup h g,u,r=>by cases r;obtain⟨its,rv,pl,hz⟩:=I.tuple h;obtain⟨as,ra⟩:=RdA.reads I g its rv;obtain⟨o,e1,e2,n,e3⟩:=pl;exact⟨_,.tuple e1 e2 e3 (by simpa using ra)⟩
theorem RdA.reads (I:Inv X pins σ H s):∀{xs:List V} {ds:List PyData},RdA X.K H xs ds->∀us,zA4 xs us->∃as,ReadsAll s.heap us ds as
 | _,_,.nil,us,r=>by cases r;exact⟨_,.nil⟩
 | _,_,.cons h g,us,r=>by
  cases r with
  | cons r1 r2=>
   obtain⟨a1,h1⟩:=RdD.reads I h _ r1;obtain⟨a2,h2⟩:=RdA.reads I g _ r2;exact⟨_,.cons h1 h2⟩
end
inductive RNeD (K:W.Frag) (x:V) (y:V) (H:Hp) (Q:VK):Prop
 | mk (d e:PyData):RdD K H x d->RdD K H y e->(PySem.SeqAt.shaped d=true)->(PySem.SeqAt.shaped e=true)->(Q (.bl (!PyData.eqv d e)) H)->RNeD K x y H Q
def zPL (hu:X.A.units+64 < cLine):OpR X (compareOp .NotEq) (λx y H Q=>RNeD X.K x y H Q):=by intro pins s σ H x y v u Q I rx ry h;obtain⟨d,e,h1,h2,h3,h4,q⟩:=h;obtain⟨as,r1⟩:=h1.reads I v rx;obtain⟨bs,r2⟩:=h2.reads I u ry;exact ne_dataH r1 r2 h3 h4 hu ⟨.bl _,H,I,rfl,q⟩
end
def zOJ (xs:List PyData):PyData.eqv (.list xs) (.list [])=xs.isEmpty:=by cases xs<;>simp[PyData.eqv,PyData.eqvAll]
end L2
namespace L2
open PySem PySem.Spec PyProof.Rows PySem.W
section
variable {prog:Program} {w:World} {A:Around} {E:Value->Shared->Prop} {s:Shared} {K:W.Frag} {x C:Addr} {ox:Obj} {od:Option Obj} {name:Str} {tk:Tok}
def zLA {g a:Value} {Q:Fin->Shared->Prop} (X:K.In s.heap) (I:W.InstAt s.heap x ox C od) (hf:W.findObj K C od name=some (.bind g a))
  (h:wpAny (model prog w) A (call g [a,.ref x,.ref C]) (λv s'=>Q (.done (.ret v)) s') E s) :
  wpAny (model prog w) A (Builtin.«object.__getattribute__» ⟨[.ref x,.str name tk],[]⟩) Q E s:=by
 have L0:=I.type (M:=model prog w);have L1:=looks_find (M:=model prog w) X I hf;unfold Builtin.«object.__getattribute__»;refine wHe (wHk ?_);refine wHe (wHk ?_);refine wHe (L0.here ?_);refine wHe (L1.here ?_);show wpAny _ _ (holding [a] (call g [a,.ref x,.ref C]) >>= ret) _ _ _;exact wHe (wHZ (wHH h (λv s' z=>wHk z) λ_ _ z=>z))
def zJB {v:Value} {Q:Fin->Shared->Prop} (X:K.In s.heap) (I:W.InstAt s.heap x ox C od) (hf:W.findObj K C od name=some (.value v))
  (h:Q (.done (.ret v)) s) :
  wpAny (model prog w) A (Builtin.«object.__getattribute__» ⟨[.ref x,.str name tk],[]⟩) Q E s:=by
 have L0:=I.type (M:=model prog w);have L1:=looks_find (M:=model prog w) X I hf;unfold Builtin.«object.__getattribute__»;refine wHe (wHk ?_);refine wHe (wHk ?_);refine wHe (L0.here ?_);refine wHe (L1.here ?_);exact wHk h
def zJC {M:Model} {eU:Value} {Q:Unit->Shared->Prop} (X:K.In s.heap) (I:W.InstAt s.heap x ox C od) (hm:W.mroIn K C (.type "BaseException")=some true) (hq:Q PUnit.unit s) :
  wpAny M A (checkBuiltinCall "BaseException.__getattribute__" ⟨[.ref x,eU],[]⟩) Q E s:=by
 have L0:=I.type (M:=M);have L1:=looks_mroIn (M:=M) X hm;have hk:builtinKind "BaseException.__getattribute__"=some .slot:=by nofun
 have fB:splitId "BaseException.__getattribute__"=some ("BaseException","__getattribute__"):=by nofun
 have ha:=F.args_bexc_ga (.ref x) eU;simp only[checkBuiltinCall,hk,fB];refine wHe ?_;unfold isInstance;refine wHe (L0.here (L1.here ?_));obtain⟨hh,gg,d,t,os⟩:=s
 repeat (first | exact hq | wp_step)
def zMT {fill expr:Bool} {Q:Value->Shared->Prop} (X:K.In s.heap) (I:W.InstAt s.heap x ox C od) (hga:W.findIn K (.ref C) "__getattribute__"=some (some (.builtin "BaseException.__getattribute__")))
  (hk:W.findIn K (.ref C) "__getattr__"=some none) (hm:W.mroIn K C (.type "BaseException")=some true)
  (h:∀A',wpAny (model prog w) A' (Builtin.«object.__getattribute__» ⟨[.ref x,.str name tk],[]⟩) (λfin s'=>match fin with | .done (.ret v)=>wpAny (model prog w) A (handedOut v) Q E s' | _=>False) (λ_ _=>False) s) :
  wpAny (model prog w) A (getAttrBy (.ref x) (.str name tk) fill expr) Q E s:=by
 have L0:=I.type (M:=model prog w);have L1:=looks_findIn (M:=model prog w) X hga;have L2:=looks_findIn (M:=model prog w) X hk;have mq:(expr && onTheHeap (Value.builtin "BaseException.__getattribute__"))=false:=by cases expr<;>rfl
 have hx2:(Value.builtin "BaseException.__getattribute__" == Value.builtin "object.__getattribute__")=false:=by nofun
 unfold getAttrBy;refine wHZ (wHe (L0.here (wHe (L1.here ?_))));dsimp only;rw[hx2,Bool.and_false,wHj ⋯];unfold getAttrByItsOwn;refine wHe ?_;show wpAny _ _ (typeLookup (.ref C) "__getattr__") _ _ _;refine L2.here ?_;refine wHe (wpAny_attempt (wHZ ?_));unfold callGetattribute;rw[mq,wHj ⋯];unfold boundAndCalled;refine wHe (wpAny_of_eq (F.attrBase_ValueError.ga.bind (.ref x)) ?_);refine wpAny_call ?_;refine codeAny_call_builtin F.attrBase_ValueError.ga.plain F.entry_bexc_ga (zJC X I hm (wHH (h _) (λfin s' z=>?_) λ_ _ z=>z.elim));rcases fin with (_ | _ | _ | _) | _<;>first | exact z | exact z.elim
end
structure ExcX (K:W.Frag) (C:Addr):Prop where
 ga:W.findIn K (.ref C) "__getattribute__"=some (some (.builtin "BaseException.__getattribute__"))
 gt:W.findIn K (.ref C) "__getattr__"=some none
 mb:W.mroIn K C (.type "BaseException")=some true
 cl:(W.clsIn K C).isSome=true
 fc:W.findIn K (.ref C) "__class__"=some (some (.builtin "object.__class__"))
 sg:W.specialIn K (.builtin "object.__class__") "__get__"=some (some (.builtin "getset_descriptor.__get__"))
 tk:W.takesIn K (.builtin "object.__class__")=some true
 mo:W.mroIn K C (.type "object")=some true
def zHb {K:W.Frag} {e C:Addr} (k:ExcX K C):PySem.W.KitX K (.ref e) (.ref C) (λh=>∃oe od,W.InstAt h e oe C od) where
 ty:=λ_ _ _ ⟨_,_,I⟩=>I.type
 it:=λM h X _=>by
  have hc:=k.cl;unfold W.clsIn at hc
  split at hc
  case h_2=>cases hc
  case h_1 c' d' cd' gL ho=>
   intro A' Q' E' s' kk q;unfold isType loadHead;exact wHe (wpAny_loadPart (kk _ _ (X _ _ ho)) (wHk q))
 ne:=λh tp dd its n sl X htp=>by
  refine wIB λq=>?_;have z:C=tp:=Value.ref.inj (beq_iff_eq.mp q);subst z;have hc:=k.cl;unfold W.clsIn at hc
  split at hc
  case h_2=>cases hc
  case h_1 c' d' cd' gL ho=>cases (X _ _ ho).symm.trans htp
 ca:=λ{prog w A E Q s} X I q=>by obtain⟨oe,od,I⟩:=I;unfold getAttr? getAttrBy?;refine wHe (wpAny_mkText (wHe (wpAny_attempt ?_)));refine zMT (s:={ s with toks:=s.toks+1 }) X I k.ga k.gt k.mb λA'=>?_;refine zLA (s:={ s with toks:=s.toks+1 }) X I (zLo k.cl k.fc k.sg k.tk) ?_;exact wpAny_call (W.class_get (s:={ s with toks:=s.toks+1 }) (ox:=oe) (od:=od) X I k.mo (W.handed_on rfl (wHk q)))
def zDz (H:Hp) (dd:Option Addr):Prop:=∀dx,dd=some dx->∃fs,H dx=some (.xd fs)
def zDz.no {H:Hp}:zDz H none:=λ_ e=>nomatch e
def zDz.same {H H':Hp} {dd:Option Addr} (x:zDz H dd) (s:zAh H H'):zDz H' dd:=λdx e=>let ⟨fs,q⟩:=x dx e;⟨fs,s _ _ q⟩
section
variable {X:Cx}
inductive RIsX (K:W.Frag) (xs:List V) (H:Hp) (Q:VK):Prop
 | mk (e:_) (C:_) (dd:_) (y:_) (b:_):(xs=[.ref e,y])->(H e=some (zFL e (.ref C) dd))->zDz H dd->ExcX K C->(vcl y≠.none)->(W.kitOne K (.ref C) (vcl y)=some b)->(Q (.bl b) H)->RIsX K xs H Q
def zAZ:zB7 X (.builtin "isinstance") (λxs H Q=>RIsX X.K xs H Q):=by
 intro pins s σ H xs us Q I r h;obtain⟨e,C,dd,y,b,rfl,he,hD,k,hv,hb,q⟩:=h;obtain⟨u,v,rfl,r1,r2⟩:=zA4.two r;cases (show u=Value.ref e from r1);have ev:v=vcl y:=by
  cases y<;>first
   | exact absurd rfl hv
   | exact r2
 rw[ev];obtain⟨oe,vs,g1,g2,g3,g4,g5⟩:=zFL.get I.hok he;have nc:W.notCls oe=true:=by
  obtain⟨c,d,dt,sl⟩:=oe;cases g4
  rfl
 cases dd with
 | none=>exact W.kia_one (zHb k) I.kIn ⟨oe,none,g1,g2,nc,by rw[g3];trivial⟩ hb (λz=>nomatch z) λtk=>⟨.bl b,H,I.tok _,rfl,q⟩
 | some dx=>
  obtain⟨fs,hx⟩:=hD dx rfl;obtain⟨ob,mM⟩:=zIM I.hok hx;exact W.kia_one (zHb k) I.kIn ⟨oe,some ob,g1,g2,nc,by rw[g3];exact mM⟩ hb (λz=>nomatch z) λtk=>⟨.bl b,H,I.tok _,rfl,q⟩
end
theorem zFP (k:Str):∀{vs:List Value} {ys:List Str},StrsAre vs ys->∀(i:Nat) (h:i < vs.length) (h':i < ys.length),isStrOf k vs[i]=(ys[i] == k)
 | _,_,.nil,i,h,_=>absurd h (wHA _)
 | _,_,.cons n t r,0,_,_=>rfl
 | _,_,.cons n t r,i+1,h,h'=>zFP k r i (Nat.lt_of_succ_lt_succ h) (Nat.lt_of_succ_lt_succ h')
section
variable {X:Cx}
inductive RIndex (K:W.Frag) (x:V) (vs:List V) (H:Hp) (Q:VK):Prop
 | mk (l:Addr) (ns:List Str) (n:Str):(x=.ref l)->(vs=[.str n])->(SqL K H l (ns.map V.str))->(n∈ns)->(Q (.int (ns.idxOf n:Nat)) H)->RIndex K x vs H Q
def zNc (K:W.Frag):V->List V->Hp->VK->Prop:=λx vs H Q=>RIndex K x vs H Q
def zM1:MtR X "list.index" (zNc X.K):=by
 intro pins s σ H x vs v us Q I rx rv h;obtain⟨l,ns,n,rfl,rfl,hS,hn,q⟩:=h;cases rx;obtain⟨u,rfl,ru⟩:=rv.one;obtain⟨tu,rfl⟩:=ru;obtain⟨its,r,pl,hz⟩:=I.list hS;have ia:StrsAre its ns:=zHB r;have aG:its.length=ns.length:=by rw[← r.length,wHf]
 obtain⟨⟨cls,dd,data,sl⟩,ho,hc,nn,hd⟩:=id pl.isList;simp only at hc hd;subst hc hd;have hj:ns.idxOf n < ns.length:=List.idxOf_lt_length_iff.mpr hn;rw[wHf] at hz;have hs:sizeLine=16777216:=sizeLine_eq;refine call_meets F.slot_list_index ⟨_,ho,rfl⟩ F.entry_list_index (F.args_list_index_2 _ _)
  (PySem.SeqAt.list_indexAt l its.toArray nn dd sl (.str n tu) (isStrOf n) (ns.idxOf n) (by simpa [aG] using hj) ∅ ?_ ?_) ⟨ho,λy hy=>(eq_isStrOf n tu ia y (by simpa using hy)).at _ _,⟨.int _,H,I.tok _,⟨_,rfl⟩,q⟩⟩
 ·show isStrOf n its[ns.idxOf n]=true;rw[zFP n ia _ ∅ hj];simpa using List.getElem_idxOf hj
 intro j hjs aF;show isStrOf n its[j]=false;rw[zFP n ia j (by simpa using hjs) ∅];have:=List.not_of_lt_findIdx (p:=(· == n)) (xs:=ns) (i:=j) aF;simpa using this
def zEP (K:W.Frag) (h:X.K=K:=by rfl):MtR X "list.index" (zNc K):=by subst h;exact zM1
end
def zEM {i:Int} (h:i.natAbs < 10 ^ 60):(Str.ofString (toString i)).length<=1000:=by
 by_cases c:0<=i
 ·obtain⟨m,rfl⟩:=Int.eq_ofNat_of_zero_le c;rw[zOL,zCD];exact wHv (zLq 59 m ∅) ⋯
 obtain⟨m,hm⟩:=Int.eq_ofNat_of_zero_le (show 0<=-i by omega);have:i=-((m:Nat):Int):=by omega
 rw[this,zQo ∅,zCD];have:=zLq 59 m ∅;show _+1<=_;omega
def zOY {i:Int} (h:i.natAbs < 10 ^ 60):i.natAbs.log2 < 1920:=by
 have k:(10:Nat) ^ 60 < 2 ^ 1920:=by nofun
 generalize i.natAbs=j at h;by_cases z:j=0
 ·rw[z];exact (by decide:Nat.log2 0 < 1920)
 exact (Nat.log2_lt z).mpr (Nat.lt_trans h k)
def zIJ (n:Str):((n.cps.toList.map zKW).all id)=true↔∀c∈n.cps.toList,97<=c/\c<=122:=by
 rw[List.all_eq_true];constructor
 ·intro h c hc;exact (zHe c).mp (h _ (List.mem_map.mpr ⟨c,hc,rfl⟩))
 intro h b hb;obtain⟨c,hc,rfl⟩:=List.mem_map.mp hb;exact (zHe c).mpr (h c hc)
def zIH (x:Str):tx x.cps.toList=x:=(zIe x).symm
def Deed.Ok:Deed->Prop
 | .house n=>zG4 n
 | .pact g u p f l=>zG4 g/\zG4 u/\p.natAbs < 10 ^ 60/\f.natAbs < 10 ^ 60/\l.natAbs < 10 ^ 60
 | .loss h y a=>zG4 h/\y.natAbs < 10 ^ 60/\a.natAbs < 10 ^ 60
def wOf:V->Str
 | .int i=>Str.ofString (toString i)
 | .str z=>z
 | _=>Str.empty
def Deed.words (d:Deed):List Str:=d.vs.map wOf
def Deed.row (d:Deed):Str:=Str.join (Str.ofString " ") d.words
def WOk (x:V):Prop:=(∃i,x=.int i/\i.natAbs < 10 ^ 60)∨∃z,x=.str z/\z.length<=1000
def zND (d:Deed):d.tag.length<=1000:=by
 cases d
 ·exact (by nofun:(Str.ofString "house").length<=1000)
 ·exact (by nofun:(Str.ofString "pact").length<=1000)
 exact (by nofun:(Str.ofString "loss").length<=1000)
def Deed.Ok.words {d:Deed} (h:d.Ok):∀x∈d.vs,WOk x:=by
 intro x hx;unfold Deed.vs at hx;rcases wID hx with z | hx
 ·refine .inr ⟨_,z,?_⟩;exact zND d
 cases d with
 | house n=>simp only[Deed.rest,List.mem_singleton] at hx;exact .inr ⟨n,hx,h.2⟩
 | pact g u p f l=>
  simp only[Deed.rest,wId,wH4,or_false] at hx;rcases hx with z | z | z | z | z
  ·exact .inr ⟨_,z,h.1.2⟩
  ·exact .inr ⟨_,z,h.2.1.2⟩
  ·exact .inl ⟨_,z,h.2.2.1⟩
  ·exact .inl ⟨_,z,h.2.2.2.1⟩
  exact .inl ⟨_,z,h.2.2.2.2⟩
 | loss g u p=>
  simp only[Deed.rest,wId,wH4,or_false] at hx;rcases hx with z | z | z
  ·exact .inr ⟨_,z,h.1.2⟩
  ·exact .inl ⟨_,z,h.2.1⟩
  exact .inl ⟨_,z,h.2.2⟩
def WOk.len {x:V} (h:WOk x):(wOf x).length<=1000:=by
 rcases h with ⟨i,rfl,hi⟩ | ⟨z,rfl,hz⟩
 ·exact zEM hi
 exact hz
def zAf (H:Hp) (l:Addr) (yss:List (List V)):Prop:=∃q:List Addr,H l=some (.lst (q.map V.ref))/\q.length=yss.length/\∀(i:Nat) (a:Addr) (ys:List V),q[i]?=some a->yss[i]?=some ys->H a=some (.tup ys)
def zAf.same {H H':Hp} {l:Addr} {yss:List (List V)} (x:zAf H l yss) (s:zAh H H'):zAf H' l yss:=by obtain⟨q,h1,h2,h3⟩:=x;exact⟨q,s _ _ h1,h2,λi a ys e1 e2=>s _ _ (h3 i a ys e1 e2)⟩
def zAf.keep {H H':Hp} {l x:Addr} {yss:List (List V)} (y:zAf H l yss) (k:zDy x H H') (n:l≠x) (hx:∃xs,H x=some (.lst xs)):zAf H' l yss:=by obtain⟨q,h1,h2,h3⟩:=y;obtain⟨xs,hx⟩:=hx;exact⟨q,k _ _ n h1,h2,λi a ys e1 e2=>k _ _ (zCC (h3 i a ys e1 e2) hx (by intro z;cases z)) (h3 i a ys e1 e2)⟩
def zAf.nil {H:Hp} {l:Addr} (h:H l=some (.lst [])):zAf H l []:=⟨[],h,rfl,λi a ys e=>by simp at e⟩
def zAf.snoc {H:Hp} {l p:Addr} {yss:List (List V)} {ys:List V} {q:List Addr} (h1:H l=some (.lst (q.map V.ref))) (h2:q.length=yss.length)
  (h3:∀(i:Nat) (a:Addr) (ys:List V),q[i]?=some a->yss[i]?=some ys->H a=some (.tup ys)) (hp:H p=some (.tup ys)):zAf (upd H l (.lst (q.map V.ref++[V.ref p]))) l (yss++[ys]):=by
 refine⟨q++[p],by rw[zB,wHr];rfl,by rw[wHp,wHp,h2];rfl,λi a d' e1 e2=>?_⟩;have g:H a=some (.tup d'):=by
  by_cases c:i < q.length
  ·rw[wHE c] at e1;rw[wHE ∅] at e2;exact h3 i a d' e1 e2
  rw[wHC ∅] at e1;rw[wHC ∅] at e2;have z:i-q.length=0:=by have:=(wIy e1).1;rw[wH7] at this;omega
  have z2:i-yss.length=0:=by omega
  rw[z] at e1;rw[z2] at e2;cases e1;cases e2;exact hp
 rw[zO (zCC g h1 (by intro z;cases z))];exact g
def zMH (x:V) (xs:List V):zHm (x::xs) (some 1) none=xs:=by
 show ((x::xs).drop (HT.sIx (x::xs).length 0 (some 1))).take _=xs;have e1:HT.sIx (x::xs).length 0 (some 1)=1:=by unfold HT.sIx;simp
 have e2:HT.sIx (x::xs).length (x::xs).length none=xs.length+1:=rfl;rw[e1,e2];simp
def zKG (x:V) (xs:List V):¬(HT.sIx (x::xs).length 0 (some 1)=0/\HT.sIx (x::xs).length (x::xs).length none=(x::xs).length):=by
 have e1:HT.sIx (x::xs).length 0 (some 1)=1:=by unfold HT.sIx;simp
 rw[e1];intro z;exact absurd z.1 ⋯
def zMz {H:Hp} {C x dx l:Addr} (nx:H x=none) (nd:H dx=none) (ne:dx≠x) (hl:upd (upd H dx (.own x)) x (.ins C dx []) l=none) :
  zAC (upd (upd (upd (upd H dx (.own x)) x (.ins C dx [])) l (.lst [])) x (.ins C dx [("told",.ref l)])) C x l []/\zAh H (upd (upd (upd (upd H dx (.own x)) x (.ins C dx [])) l (.lst [])) x (.ins C dx [("told",.ref l)]))/\H l=none:=by
 have hlx:l≠x:=λz=>by rw[z,zB] at hl;cases hl
 rw[zO hlx] at hl;have hld:l≠dx:=λz=>by rw[z,zB] at hl;cases hl
 rw[zO hld] at hl;refine⟨⟨dx,[],zB,by rw[zO hlx];exact zB,rfl,λi a d e _=>by simp at e⟩,λb o e=>?_,hl⟩;rw[zO (zN e nx),zO (zN e hl),zO (zN e nx),zO (zN e nd)];exact e
def zNN {X:Cx} (K:W.Frag) (h:X.K=K:=by rfl):SlR X (zRy K):=by subst h;exact zPt
def zI1 {X:Cx} (K:W.Frag) (h:X.K=K:=by rfl):SlR X (zRz K):=by subst h;exact zNM
section
variable {es:List Expr} {env:Env}
def zX {a b c p}:starEach (.BinOp a b c p::es) env=(false,eval (.BinOp a b c p) env)::starEach es env:=by rfl
def zGA {a b p}:starEach (.UnaryOp a b p::es) env=(false,eval (.UnaryOp a b p) env)::starEach es env:=by rfl
def zAq {a b c p}:starEach (.ListComp a b c p::es) env=(false,eval (.ListComp a b c p) env)::starEach es env:=by rfl
def zS {a b c p}:starEach (.Call a b c p::es) env=(false,eval (.Call a b c p) env)::starEach es env:=by rfl
def zFm {a p}:starEach (.JoinedStr a p::es) env=(false,eval (.JoinedStr a p) env)::starEach es env:=by rfl
def zM {a k p}:starEach (.Constant a k p::es) env=(false,eval (.Constant a k p) env)::starEach es env:=by rfl
def zCE {a b p}:starEach (.Attribute a b p::es) env=(false,eval (.Attribute a b p) env)::starEach es env:=by rfl
def zK {a b p}:starEach (.Subscript a b p::es) env=(false,eval (.Subscript a b p) env)::starEach es env:=by rfl
def zA {a p}:starEach (.Name a p::es) env=(false,eval (.Name a p) env)::starEach es env:=by rfl
def zEu {a p}:starEach (.List a p::es) env=(false,eval (.List a p) env)::starEach es env:=by rfl
def zAE {a k p}:starEach (.Tuple a k p::es) env=(false,eval (.Tuple a k p) env)::starEach es env:=by rfl
end
section
variable {X:Cx} {es:List Expr} {t:TA}
def zK2 {y1 y2:Str} {k1 k2:Nat} {p1 p2:Pos} (h:PA X es t):PA X (.Constant (.str y1) k1 p1::.Constant (.str y2) k2 p2::es) (zA6 (tC (.str y1)) (zA6 (tC (.str y2)) t)):=zG zAK (zG zAK h zM) zM
def zOp {y1 y2 y3:Str} {k1 k2 k3:Nat} {p1 p2 p3:Pos} (h:PA X es t):PA X (.Constant (.str y1) k1 p1::.Constant (.str y2) k2 p2::.Constant (.str y3) k3 p3::es) (zA6 (tC (.str y1)) (zA6 (tC (.str y2)) (zA6 (tC (.str y3)) t))):=zG zAK (zK2 h) zM
def zEH {y1 y2 y3 y4 y5:Str} {k1 k2 k3 k4 k5:Nat} {p1 p2 p3 p4 p5:Pos} (h:PA X es t):PA X (.Constant (.str y1) k1 p1::.Constant (.str y2) k2 p2::.Constant (.str y3) k3 p3::.Constant (.str y4) k4 p4::.Constant (.str y5) k5 p5::es) (zA6 (tC (.str y1)) (zA6 (tC (.str y2)) (zA6 (tC (.str y3)) (zA6 (tC (.str y4)) (zA6 (tC (.str y5)) t))))):=zK2 (zOp h)
def zQ {e1 e2:Expr} {t1 t2:TE} (h1:PE X e1 t1) (h2:PE X e2 t2) (h:PA X es t) (s1:starEach (e1::e2::es) X.env=(false,eval e1 X.env)::starEach (e2::es) X.env) (s2:starEach (e2::es) X.env=(false,eval e2 X.env)::starEach es X.env):PA X (e1::e2::es) (zA6 t1 (zA6 t2 t)):=zG h1 (zG h2 h s2) s1
def zAe {e1 e2 e3:Expr} {t1 t2 t3:TE} (h1:PE X e1 t1) (h2:PE X e2 t2) (h3:PE X e3 t3) (h:PA X es t) (s1:starEach (e1::e2::e3::es) X.env=(false,eval e1 X.env)::starEach (e2::e3::es) X.env) (s2:starEach (e2::e3::es) X.env=(false,eval e2 X.env)::starEach (e3::es) X.env) (s3:starEach (e3::es) X.env=(false,eval e3 X.env)::starEach es X.env):PA X (e1::e2::e3::es) (zA6 t1 (zA6 t2 (zA6 t3 t))):=zG h1 (zQ h2 h3 h s2 s3) s1
end
def zSe (K:W.Frag) (xs:List Str) (v:Value):Prop:=∃b,v=.ref b/\∀H:Hp,SqT K H b (xs.map V.str)
structure KForms (P:Program) (w:World) (K:W.Frag) (d:Addr) (D:List (Str × List Str)):Prop where
 low:(d == sysModules)=false
 at_:∃us:List (Str × Value),us.map (·.1)=D.map (·.1)/\(∀x v,(x,v)∈us->∀l,(x,l)∈D->zSe K l v)/\∀h:Heap,K.In h->h.DictOf (PySem.strKind P w) d us
section
def KForms.some {P:Program} {w:World} {K:W.Frag} {d:Addr} {D:List (Str × List Str)} (_:KForms P w K d D) {us:List (Str × Value)} (hm:us.map (·.1)=D.map (·.1)) (k:Str):(valueAt us k).isSome=decide (k∈D.map (·.1)):=by
 rw[← hm];unfold valueAt;rw[Option.isSome_map];by_cases h:k∈us.map (·.1)
 ·rw[wHM h];obtain⟨p,hp,e⟩:=List.mem_map.mp h;exact List.find?_isSome.mpr ⟨p,hp,by simpa using e⟩
 rw[wHJ h];rw[Option.isSome_eq_false_iff,Option.isNone_iff_eq_none];exact List.find?_eq_none.mpr λp hp=>by intro z;exact h (List.mem_map.mpr ⟨p,hp,by simpa using z⟩)
end
section
variable {X:Cx}
def zOm {y0 y1 y2 y3 y4 y5 y6 y7 y8 y9:Str} {j0 j1 j2 j3 j4 j5 j6 j7 j8 j9:Nat} {p0 p1 p2 p3 p4 p5 p6 p7 p8 p9 pos:Pos}:PE X (.List [.Constant (.str y0) j0 p0,.Constant (.str y1) j1 p1,.Constant (.str y2) j2 p2,.Constant (.str y3) j3 p3,.Constant (.str y4) j4 p4,.Constant (.str y5) j5 p5,.Constant (.str y6) j6 p6,.Constant (.str y7) j7 p7,.Constant (.str y8) j8 p8,.Constant (.str y9) j9 p9] pos) (zPo (zA6 (tC (.str y0)) (zA6 (tC (.str y1)) (zA6 (tC (.str y2)) (zA6 (tC (.str y3)) (zA6 (tC (.str y4)) (zA6 (tC (.str y5)) (zA6 (tC (.str y6)) (zA6 (tC (.str y7)) (zA6 (tC (.str y8)) (zA6 (tC (.str y9)) zLH))))))))))):=by with_reducible exact zAo (zEH (zEH zE))
def zPG {y0 y1 y2 y3 y4:Str} {j0 j1 j2 j3 j4:Nat} {p0 p1 p2 p3 p4 pos:Pos}:PE X (.List [.Constant (.str y0) j0 p0,.Constant (.str y1) j1 p1,.Constant (.str y2) j2 p2,.Constant (.str y3) j3 p3,.Constant (.str y4) j4 p4] pos) (zPo (zA6 (tC (.str y0)) (zA6 (tC (.str y1)) (zA6 (tC (.str y2)) (zA6 (tC (.str y3)) (zA6 (tC (.str y4)) zLH)))))):=by with_reducible exact zAo (zEH zE)
end
section
variable {X:Cx} {T:String} {name:Str} {id:String} {r:V->List V->Hp->VK->Prop} {o e:Expr} {es:List Expr} {to:TE} {t:TA} {apos aC:Pos}
def zBz (K:W.Frag) (pa:PlainAttrs T) (slot:Slot T name id) (mw:typeOf (.builtin id)=pure (.type "method_descriptor")) (hm:MtR X id r) (ho:PE X o to) (ha:PA X (e::es) t) (hK:X.K=K:=by rfl)
  (dA:attributeBase o name X.env (eval o X.env)=eval o X.env:=by rfl)
  (fF:((backTo aC (starEach (e::es) X.env)).all (λx=>!x.1) && (backToKw aC (keywordEach [] X.env)).all (λx=>x.1.isSome)
   && decide ((e::es).length+([]:List Keyword).length+(if ([]:List Keyword).isEmpty then 0 else 1) < 30))=true:=by rfl)
  (cW:(apos.endLine == aC.line)=true:=by rfl) (hs:starEach (e::es) X.env=(false,eval e X.env)::starEach es X.env:=by rfl) (aR:(backTo aC (starEach es X.env)).any (·.1)=false:=by rfl) :
  PE X (.Call (.Attribute o name apos) (e::es) [] aC) (tBM K T r to t):=by
 subst hK;exact zPH pa slot mw hm ho ha dA fF cW hs aR
end
def zAa {X:Cx} {tg l:Expr} {tl:TE} (K:W.Frag) (hl:PE X l tl) (h:X.K=K:=by rfl):PI X tg l (zQf K tl):=by subst h;exact zKy hl
open PySem.W (KasT)
def zD0 {α:Type} (n:Nat) (lt:Nat->Nat->Bool) (P:α->Prop):KasT α->Prop
 | .ret a=>P a
 | .ask i j k=>i < n/\j < n/\zD0 n lt P (k (lt i j))
theorem zD0.bind {α β:Type} {n:Nat} {lt:Nat->Nat->Bool} {P:α->Prop} {R:β->Prop} {f:α->KasT β}:∀{t:KasT α},zD0 n lt P t->(∀a,P a->zD0 n lt R (f a))->zD0 n lt R (t.bind f)
 | .ret a,h,k=>k a h
 | .ask i j g,⟨h1,h2,h3⟩,k=>⟨h1,h2,zD0.bind h3 k⟩
theorem zD0.wp {α:Type} {n:Nat} {lt:Nat->Nat->Bool} {P:α->Prop} {cmp:Nat->Nat->(Bool->Shared->Prop)->Shared->Prop} {Q:α->Shared->Prop} {s:Shared} (hc:∀i j C,i < n->j < n->C (lt i j) s->cmp i j C s) (hq:∀a,P a->Q a s):∀{t:KasT α},zD0 n lt P t->KasT.kasWp cmp t Q s
 | .ret a,h=>hq a h
 | .ask i j g,⟨h1,h2,h3⟩=>hc i j _ h1 h2 (zD0.wp hc hq h3)
theorem zD0.mono' {α:Type} {n:Nat} {lt:Nat->Nat->Bool} {P R:α->Prop}:∀{t:KasT α},zD0 n lt P t->(∀a,P a->R a)->zD0 n lt R t
 | .ret a,h,k=>k a h
 | .ask i j g,⟨h1,h2,h3⟩,k=>⟨h1,h2,zD0.mono' h3 k⟩
structure LtOk (n:Nat) (lt:Nat->Nat->Bool):Prop where
 tr:∀a b c,a < n->b < n->c < n->lt a b=true->lt b c=true->lt a c=true
 tot:∀a b,a < n->b < n->a≠b->lt a b=false->lt b a=true
abbrev gp (p:Array Nat) (k:Nat):Nat:=p.getD k 0
def zFu {p:Array Nat} {k:Nat}:gp p k=(p[k]?).getD 0:=Array.getD_eq_getD_getElem?
def Pm.size {n:Nat} {p:Array Nat} (h:Pm n p):p.size=n:=by have:=h.length_eq;rw[wIl,wH3] at this;exact this
def Pm.inj {n:Nat} {p:Array Nat} (h:Pm n p) {i j:Nat} (hi:i < n) (hj:j < n) (e:i≠j):gp p i≠gp p j:=by
 have nd:p.toList.Nodup:=h.nodup_iff.mpr List.nodup_range;have hs:=h.size;have g:∀k,k < n->gp p k=p.toList.getD k 0:=λk hk=>by rw[zFu,wHh,wIr]
 rw[g i hi,g j hj];have hl:p.toList.length=n:=by rw[wH3];exact hs
 rw[wHh,wHh,wHg ∅,wHg ∅];intro z;exact e ((List.getElem_inj (h₀:=by omega) (h₁:=by omega) nd).mp z)
section
variable {n:Nat} {lt:Nat->Nat->Bool}
def Chn (lt:Nat->Nat->Bool) (p:Array Nat) (m:Nat):Prop:=∀i j,i < j->j < m->lt (gp p i) (gp p j)=true
def DCh (lt:Nat->Nat->Bool) (p:Array Nat) (m:Nat):Prop:=∀i j,i < j->j < m->lt (gp p j) (gp p i)=true
def Chn.one (p:Array Nat):Chn lt p 1:=λi j h1 h2=>by omega
variable (L:LtOk n lt) (hn:0 < n)
include L hn
theorem Chn.snoc {p:Array Nat} (h:Pm n p) {m:Nat} (c:Chn lt p m) (h1:1<=m) (hm:m < n) (e:lt (gp p (m-1)) (gp p m)=true):Chn lt p (m+1):=λi j bR hj=>by
 by_cases z:j=m
 ·subst z;by_cases y:i=j-1
  ·subst y;exact e
  exact L.tr _ _ _ (h.lt hn _) (h.lt hn _) (h.lt hn _) (c i (j-1) ∅ ∅) e
 exact c i j bR ∅
theorem zOR {p:Array Nat} (h:Pm n p):∀f m,1<=m->m+f<=n->Chn lt p m->zD0 n lt (λr=>m<=r/\r<=m+f/\Chn lt p r/\(r < m+f->lt (gp p r) (gp p (r-1))=true)) (W.kas_asc p f m)
 | 0,m,h1,h2,c=>by rw[W.kas_asc.eq_def];exact⟨wHm _,wHm _,c,λz=>by omega⟩
 | f+1,m,h1,h2,c=>by
  rw[W.kas_asc.eq_def];refine⟨h.lt hn _,h.lt hn _,?_⟩;cases e:lt (gp p m) (gp p (m-1)) with
  | true=>exact⟨wHm _,by omega,c,λ_=>e⟩
  | false=>
   have:=zOR h f (m+1) ∅ ∅ (Chn.snoc L hn h c h1 ∅ (L.tot _ _ (h.lt hn _) (h.lt hn _) (h.inj ∅ ∅ ∅) e));rw[show m+1+f=m+(f+1) by omega] at this;exact zD0.mono' this λr hr=>⟨by omega,hr.2.1,hr.2.2.1,hr.2.2.2⟩
theorem zNw {p:Array Nat} (h:Pm n p):∀f m,2<=m->m+f<=n->DCh lt p m->zD0 n lt (λr=>r.1=p/\r.2.2=0/\m<=r.2.1/\r.2.1<=n/\DCh lt p r.2.1) (W.kas_desc f p m 0)
 | 0,m,h1,h2,c=>by rw[W.kas_desc.eq_def];exact⟨rfl,rfl,wHm _,h2,c⟩
 | f+1,m,h1,h2,c=>by
  rw[W.kas_desc.eq_def];refine⟨h.lt hn _,h.lt hn _,?_⟩;cases e:lt (gp p m) (gp p (m-1)) with
  | true=>
   have c':DCh lt p (m+1):=λi j bR hj=>by
    by_cases z:j=m
    ·subst z;by_cases y:i=j-1
     ·subst y;exact e
     exact L.tr _ _ _ (h.lt hn _) (h.lt hn _) (h.lt hn _) e (c i (j-1) ∅ ∅)
    exact c i j bR ∅
   have:=zNw h f (m+1) ∅ ∅ c';exact zD0.mono' this λr hr=>⟨hr.1,hr.2.1,by omega,hr.2.2.2⟩
  | false=>
   have e2:=L.tot _ _ (h.lt hn _) (h.lt hn _) (h.inj (i:=m) (j:=m-1) ∅ ∅ ∅) e;refine⟨h.lt hn _,h.lt hn _,?_⟩;rw[e2];exact⟨rfl,rfl,wHm _,(by show m<=n;omega),c⟩
theorem zNl {p:Array Nat} {m k:Nat} (hm:m<=p.size):gp (W.kas_rev p 0 m) k=if k < m then gp p (m-1-k) else gp p k:=by
 rw[zFu,zFu,zFu];unfold W.kas_rev;rw[getElem?_mirror_all hm];by_cases c:k < m
 ·rw[wHl ⟨wHQ _,c⟩,wHl c,Nat.zero_add]
 rw[wHj (λz=>c z.2),wHj c]
theorem zOP {p:Array Nat} (h:Pm n p) {m:Nat} (h1:1<=m) (hm:m<=n) (c:DCh lt p m):zD0 n lt (λr=>Pm n r.2/\1<=r.1/\r.1<=n/\Chn lt r.2 r.1) (W.kas_tail3 m n p):=by
 have hr:=h.rev 0 m;have cr:Chn lt (W.kas_rev p 0 m) m:=λi j bR hj=>by rw[zNl L hn (by rw[h.size];exact hm),zNl L hn (by rw[h.size];exact hm),wHl ∅,wHl hj];exact c _ _ ∅ ∅
 refine zD0.bind (zOR L hn hr (n-m) m h1 ∅ cr) λr mE=>?_;exact⟨hr,by omega,by omega,mE.2.2.1⟩
theorem zOQ {p:Array Nat} (h:Pm n p):zD0 n lt (λr=>Pm n r.2/\1<=r.1/\r.1<=n/\Chn lt r.2 r.1) (W.kas_count n p):=by
 refine zD0.bind (zOR L hn h (n-1) 1 (wHm _) ∅ (Chn.one p)) λm hm=>?_
 split
 ·exact⟨h,by omega,by omega,hm.2.2.1⟩
 rename_i ne
 have ne':m≠n:=λz=>ne (by rw[z];exact beq_self_eq_true _)
 split
 ·refine⟨h.lt hn _,h.lt hn _,?_⟩;rw[show lt (p.getD 0 0) (p.getD (m-1) 0)=true from hm.2.2.1 0 (m-1) ∅ ∅];exact⟨h,by omega,by omega,hm.2.2.1⟩
 obtain rfl:m=1:=by omega
 have e:=hm.2.2.2 ∅;refine zD0.bind (zNw L hn h (n-(1+1)) (1+1) ∅ ∅ λi j bR hj=>?_) λr hr=>?_
 ·obtain rfl:i=0:=by omega
  obtain rfl:j=1:=by omega
  exact e
 obtain⟨r1,r2,r3⟩:=r;obtain⟨e1,e2,e3,e4,e5⟩:=hr;dsimp only at e1 e2 e3 e4 e5;subst e1 e2;exact zOP (m:=r2) L hn h (show 1<=r2 by omega) e4 e5
theorem zIr {p:Array Nat} (h:Pm n p) {k:Nat} (hk:k < n) (c:Chn lt p k):∀f l r,l<=r->r<=k->r-l<=f->(∀i,i < l->lt (gp p i) (gp p k)=true)->(∀i,r<=i->i < k->lt (gp p k) (gp p i)=true)->
  zD0 n lt (λx=>x<=k/\(∀i,i < x->lt (gp p i) (gp p k)=true)/\∀i,x<=i->i < k->lt (gp p k) (gp p i)=true) (W.kas_place p k f l r)
 | 0,l,r,h1,h2,h3,a,b=>by
  rw[W.kas_place.eq_def];obtain rfl:l=r:=by omega
  exact⟨h2,a,b⟩
 | f+1,l,r,h1,h2,h3,a,b=>by
  rw[W.kas_place.eq_def];dsimp only
  split
  ·obtain rfl:l=r:=by omega
   exact⟨h2,a,b⟩
  refine⟨h.lt hn _,h.lt hn _,?_⟩;cases e:lt (gp p k) (gp p ((l+r) / 2)) with
  | true=>
   refine zIr h hk c f l ((l+r) / 2) ∅ ∅ ∅ a λi i1 i2=>?_;by_cases z:i=(l+r) / 2
   ·subst z;exact e
   exact L.tr _ _ _ (h.lt hn _) (h.lt hn _) (h.lt hn _) e (c _ _ ∅ i2)
  | false=>
   have e2:=L.tot _ _ (h.lt hn _) (h.lt hn _) (h.inj (i:=k) (j:=(l+r) / 2) hk ∅ ∅) e;refine zIr h hk c f ((l+r) / 2+1) r ∅ h2 ∅ (λi hi=>?_) b;by_cases z:i=(l+r) / 2
   ·subst z;exact e2
   exact L.tr _ _ _ (h.lt hn _) (h.lt hn _) (h.lt hn _) (c _ _ (show i < (l+r) / 2 by omega) ∅) e2
theorem zNm {p:Array Nat} {k l i:Nat} (hk:k < p.size) (hl:l<=k):gp (bubble p k (k-l)) i=if i=l then gp p k else if l < i/\i<=k then gp p (i-1) else gp p i:=by
 rw[zFu,zFu,zFu,zFu,getElem?_bubble hk (k-l) ∅,show k-(k-l)=l by omega];by_cases c:i=l
 ·rw[wHl c,wHl c]
 rw[wHj c,wHj c];by_cases c2:l < i/\i<=k
 ·rw[wHl c2,wHl c2]
 rw[wHj c2,wHj c2]
theorem zQr:∀f (p:Array Nat) k,Pm n p->1<=k->k+f=n->Chn lt p k->zD0 n lt (λq=>Pm n q/\Chn lt q n) (W.kas_bin f p k)
 | 0,p,k,h,h1,h2,c=>by
  rw[W.kas_bin.eq_def];obtain rfl:k=n:=by omega
  exact⟨h,c⟩
 | f+1,p,k,h,h1,h2,c=>by
  rw[W.kas_bin.eq_def];have hs:=h.size;refine zD0.bind (zIr L hn h ∅ c k 0 k (wHQ _) (wHm _) ∅ (λi hi=>by omega) λi i1 i2=>by omega) λl hl=>?_;obtain⟨l1,l2,l3⟩:=hl;refine zQr f _ _ (h.bub _ _) ∅ ∅ λi j bR hj=>?_;rw[zNm L hn ∅ l1,zNm L hn ∅ l1];by_cases ci:i=l
  ·rw[wHl ci,wHj ∅,wHl ∅];exact l3 _ ∅ ∅
  rw[wHj ci];by_cases cj:j=l
  ·rw[wHl cj,wHj ∅];exact l2 _ ∅
  rw[wHj cj];by_cases c1:l < i/\i<=k
  ·rw[wHl c1,wHl ∅];exact c _ _ ∅ ∅
  rw[wHj c1];by_cases c2:l < j/\j<=k
  ·rw[wHl c2];exact c _ _ ∅ ∅
  rw[wHj c2];exact c _ _ bR ∅
theorem zQq:zD0 n lt (λq=>Pm n q/\Chn lt q n) (W.kas_sort n):=by
 unfold W.kas_sort;refine zD0.bind (zOQ L hn (p:=(List.range n).toArray) (List.Perm.refl _)) λr hr=>?_;obtain⟨r1,r2,r3,r4⟩:=hr
 split
 ·rw[Nat.max_eq_left r2];exact zQr L hn _ _ _ r1 r2 ∅ r4
 rw[show r.1=n by omega] at r4;exact⟨r1,r4⟩
end
def Chn.pw {n:Nat} {lt:Nat->Nat->Bool} {p:Array Nat} (h:Pm n p) (c:Chn lt p n):p.toList.Pairwise λi j=>lt i j=true:=by rw[List.pairwise_iff_getElem];intro i j hi hj bR;have hs:=h.size;rw[wH3] at hi hj;have:=c i j bR ∅;rw[zFu,zFu,wH9 ∅,wH9 ∅] at this;exact this
def zM6 {prog:Program} {w:World} {A:Around} {E:Value->Shared->Prop} {s:Shared} {x y:Addr} {a b c d:Int} {t1 t2 t3 t4:Tok} {C:Bool->Shared->Prop}
  (hx:IsTup s.heap x #[.int a t1,.int b t2]) (hy:IsTup s.heap y #[.int c t3,.int d t4]) (h:C (decide (a < c∨(a=c/\b < d))) s):wpAny (model prog w) A (keyLt' (tuples' true) (.ref x) (.ref y)) C E s:=by
 obtain⟨ox,ex,cx,nx,dx⟩:=hx;obtain⟨oy,ey,cy,ny,dy⟩:=hy;refine W.kat_lt ex dx ey dy ?_;show PySem.W.KatLex prog w A true _ C [(Value.int a t1,Value.int c t3),(Value.int b t2,Value.int d t4)] 0 s;rw[PySem.W.KatLex.eq_def];refine wpAny_eqBool_int ?_;by_cases e:a=c
 ·subst e;rw[wHl (beq_self_eq_true a),PySem.W.KatLex.eq_def];refine wpAny_eqBool_int ?_;by_cases e2:b=d
  ·subst e2;rw[wHl (beq_self_eq_true b),PySem.W.KatLex.eq_def];rw[show decide (a < a∨a=a/\b < b)=false from wHJ ∅] at h;exact h
  rw[wHj (by rw[beq_iff_eq];exact e2)];refine W.kat_one _ _ ?_;rw[show decide (a < a∨a=a/\b < d)=decide (b < d) from decide_eq_decide.mpr ⟨λz=>by omega,λz=>by omega⟩] at h;exact lt_int h
 rw[wHj (by rw[beq_iff_eq];exact e)];rw[show decide (a < c∨a=c/\b < d)=decide (a < c) from decide_eq_decide.mpr ⟨λz=>by omega,λz=>by omega⟩] at h;exact oneLt_int h
section
variable {X:Cx} {pins:List (Addr × Obj)} {σ:St} {H:Hp} {s:Shared}
def zGx:zB7 X (.builtin "sorted") (λxs H Q=>∃(p:Addr) (q:Nat->Addr) (n:Nat) (a b:Nat->Int),xs=[.ref p]/\H p=some (.lst (tab n λi=>V.ref (q i)))/\(∀i,i < n->H (q i)=some (.tup [.int (a i),.int (b i)]))/\2<=n/\n < 64/\(∀i j,i < n->j < n->i≠j->¬(a i=a j/\b i=b j))/\
  ∀(l:Addr) (π:List Nat),H l=none->π.Perm (List.range n)->(π.Pairwise λi j=>a i < a j∨(a i=a j/\b i < b j))->Q (.ref l) (upd H l (.lst (π.map λi=>V.ref (q i))))):=by
 intro pins s σ H xs us Q I r h;obtain⟨p,q,n,a,b,rfl,hp,hq,n2,n64,nd,k⟩:=h;obtain⟨u,rfl,ru⟩:=r.one;cases ru;obtain⟨its,rv,pl,hz⟩:=I.list (SqL.of (K:=X.K) hp);have hn:its.length=n:=by rw[← rv.length,zW]
 have at_:∀i,i < n->its[i]?=some (.ref (q i)):=λi hi=>by obtain⟨v,e1,e2⟩:=rv.get (zCK hi);rw[e1];cases e2;rfl
 have nZ:its=(List.range n).map λi=>Value.ref (q i):=by
  refine List.ext_getElem? λi=>?_;by_cases c:i < n
  ·rw[at_ i c,wHn,List.getElem?_range c];rfl
  rw[wH8 ∅,wH8 (by simp;omega)]
 obtain⟨m,hm,_⟩:=I.loc;have tup:∀i,i < n->∃t1 t2,IsTup s.heap (q i) #[.int (a i) t1,.int (b i) t2]:=λi hi=>by obtain⟨ts,r,pl,hz⟩:=I.tuple (SqT.of (K:=X.K) (hq i hi));obtain⟨v1,v2,e,r1,r2⟩:=r.two;subst e;obtain⟨t1,rfl⟩:=r1;obtain⟨t2,rfl⟩:=r2;exact⟨t1,t2,pl⟩
 have nql:∀i,i < n->q i≠X.env.locals:=λi hi z=>by have:=hq i hi;rw[z,I.free] at this;cases this
 have N0:News (Att.noObjs s.heap) X.env.locals s.heap (Att.ledger s.heap X.env.locals X.env.locals):=by rintro⟨x,o⟩ hx;obtain⟨n1,_,e⟩:=Att.mem_ledger.mp hx;exact⟨e,n1,Att.noObjs_get _ _⟩
 refine W.kat_sorted (Att.fr_all hm) N0 pl.isList ∅ ∅ λD e1 h' F N ab=>?_;have keep:∀x o,x≠X.env.locals->s.heap.get? x=some o->h'.get? x=some o:=λx o nx e=>(N (x,o) (wHP _ (Att.mem_ledger.mpr ⟨nx,nx,e⟩))).1;have lF:∀i,i < n->∃t1 t2,IsTup h' (q i) #[.int (a i) t1,.int (b i) t2]:=λi hi=>by obtain⟨t1,t2,o,x1,x2⟩:=tup i hi;exact⟨t1,t2,o,keep _ _ (nql i hi) x1,x2⟩
 have hDl:D≠X.env.locals:=(N _ (wH5 ..)).2.1;have hD:s.heap.get? D=none:=by
  cases e:s.heap.get? D with
  | none=>rfl
  | some o=>
   have:=ab (D,o) (Att.mem_ledger.mpr ⟨hDl,hDl,e⟩);exact absurd this (Nat.lt_irrefl _)
 have dC:∀i,i < n->its.getD i .none=.ref (q i):=λi hi=>by rw[wHh,at_ i hi];rfl
 have ht:∀i,∃t1,i < n->∃t2,IsTup h' (q i) #[.int (a i) t1,.int (b i) t2]:=λi=>by
  by_cases c:i < n
  ·obtain⟨t1,t2,x⟩:=lF i c;exact⟨t1,λ_=>⟨t2,x⟩⟩
  exact⟨0,λz=>absurd z c⟩
 obtain⟨t1,ht⟩:=Classical.axiomOfChoice ht;have kt:PySem.W.KatTups h' its ((List.range n).map λi=>Value.int (a i) (t1 i)):=by
  rw[nZ];have:∀l:List Nat,(∀i∈l,i < n)->PySem.W.KatTups h' (l.map λi=>Value.ref (q i)) (l.map λi=>Value.int (a i) (t1 i)):=by
   intro l
   induction l with
   | nil=>intro _;rw[List.map_nil,List.map_nil,PySem.W.KatTups.eq_def];trivial
   | cons i l ih=>
    intro hl;rw[wIg,wIg,PySem.W.KatTups.eq_def];obtain⟨t2,o,x1,x2,nn,x3⟩:=ht i (hl i (wH5 ..));exact⟨⟨q i,o,_,nn,rfl,x1,x2,x3,rfl⟩,ih λj hj=>hl j (wHP _ hj)⟩
  exact this _ λi hi=>List.mem_range.mp hi
 refine W.kat_kind kt (by simp;omega) (T:=.type "int") (λv hv=>?_) rfl ?_
 ·obtain⟨i,_,rfl⟩:=List.mem_map.mp hv;exact λA Q E s _ q=>wHk q
 rw[hn];have L:LtOk n λi j=>decide (a i < a j∨(a i=a j/\b i < b j)):=⟨λx y z _ _ _ e1 e2=>wHM (by have:=wHw e1;have:=wHw e2;omega),λx y hx hy ne e=>wHM (by have:=wHT e;have:=nd x y hx hy ne;omega)⟩;refine zD0.wp (n:=n) (lt:=λi j=>decide (a i < a j∨(a i=a j/\b i < b j))) (λi j C hi hj hC=>?_) (λpm mH=>?_) (zQq L ∅)
 ·show wpAny _ _ (keyLt' (tuples' true) (its.getD i .none) (its.getD j .none)) C _ _;rw[dC i hi,dC j hj];obtain⟨t2,x1⟩:=ht i hi;obtain⟨t3,x2⟩:=ht j hj;exact zM6 x1 x2 hC
 obtain⟨jJ,chn⟩:=mH;have hpw:=(chn.pw jJ).imp λ{i j} e=>wHw e;refine⟨_,_,F,N,.head λp hp=>?_,λh2 c F2 N2=>?_⟩
 ·have:=ab p hp;exact λz=>by rw[z] at this;exact absurd this (Nat.lt_irrefl _)
 have mG:∀i∈pm.toList,i < n:=λi hi=>List.mem_range.mp (jJ.mem_iff.mp hi);have aG:pm.toList.length=n:=by rw[jJ.length_eq,wIl]
 refine⟨.ref D,upd H D (.lst (pm.toList.map λi=>V.ref (q i))),I.locNew (t':=s.toks) hD (λx o nx e=>(N2 (x,o) (wHP _ (Att.mem_ledger.mpr ⟨nx,nx,e⟩))).1) (λm' hm'=>?_) ⟨?_,pm.toList.map λi=>its.getD i .none,c,zH8 (by simp) λi x v h1 h3=>?_,(N2 _ (wH5 ..)).1⟩,rfl,k D pm.toList (zLj I.hok hD) jJ hpw⟩
 ·have:m'=m:=by rw[hm'.eq_nsMap,hm.eq_nsMap]
  rw[this];exact F2.ns
 ·rw[wHf,aG];exact small ∅
 rw[wHn] at h1 h3;obtain⟨j,ej,rfl⟩:=wIA h1;rw[ej] at h3;have h4:its.getD j .none=v:=wHo h3;rw[← h4,dC j (mG j (wHO ej))]
 rfl
end
def zGn {prog:Program} {w:World} {A:Around} {E:Value->Shared->Prop} {s:Shared} {a:Addr} {vs:List Value} {n:Nat} {P:PySem.Fin->Shared->Prop} (ho:s.heap.get? a=some (seqObj "list" vs.toArray n))
  (h1:vs.length < 2) (h:P (.done (.ret .none)) { s with heap:=sortedHeap s.heap a vs vs.toArray }):wpAny (model prog w) A (Builtin.«list.sort» ⟨[.ref a],[]⟩) P E s:=by
 rw[list_sort_plain];have ha:a < s.heap.objs.size:=wHq ho;have eY:vs.toArray.size=vs.length:=by simp
 have fits:vs.length<=sizeLine:=wHv (wIm h1) ⋯;refine wHe (listItems_at ho rfl ?_);refine wHe (listUpdate_at ho rfl ?_ (by rw[eY];exact fits) (wHQ _));obtain⟨e1,ho1⟩:∃e1,(s.heap.update a (Obj.mapSeq λ_=>#[])).get? a=some (seqObj "list" #[] e1):=⟨_,get?_update_seq ho (λ_=>#[])⟩;refine wHe (seqEpoch_at ho1 rfl ?_);refine wHe (wpAny_newTuple ?_ fits);refine wHe (wpAny_newList ?_ (wHQ _));refine wHZ ?_;have ho6:(((s.heap.update a (Obj.mapSeq λ_=>#[])).push (seqObj "tuple" vs.toArray 0)).push (seqObj "list" #[] 0)).get? a=some (seqObj "list" #[] e1):=by rw[Heap.get?_push_ne _ _ _ (by rw[size_push',Heap.size_update];exact wHu (wIf ha)),Heap.get?_push_ne _ _ _ (by rw[Heap.size_update];exact wHu ha)];exact ho1
 show wpAny (model prog w) A _ P E { s with heap:=((s.heap.update a (Obj.mapSeq λ_=>#[])).push (seqObj "tuple" vs.toArray 0)).push (seqObj "list" #[] 0) };dsimp only;have h2:vs.toArray.size < 2:=by omega
 rw[wHl h2,wHl h2];refine wHe (wHk ?_);rw[StateT.run_pure];refine wHe (wHk ?_);dsimp only;have eo:(arrOf (SortSt.mk' general' (vs.toArray.zip vs.toArray) #[] 7 none)).map (·.2)=vs.toArray:=by
  show (vs.toArray.zip vs.toArray).map (·.2)=vs.toArray
  match vs,h1 with
  | [],_=>simp
  | [x],_=>simp
 rw[eo];refine wHe (seqEpoch_at ho6 rfl ?_);refine wHe (listUpdate_at ho6 rfl ?_ (wHQ _) (by rw[eY];exact Nat.le_succ_of_le fits));simp only[bne_self_eq_false,Bool.false_eq_true,if_false];exact wHk h
section
variable {X:Cx}
def zHp:zB7 X (.builtin "sorted") (λxs H Q=>∃(p:Addr) (ys:List V),xs=[.ref p]/\H p=some (.lst ys)/\ys.length < 2/\∀l:Addr,H l=none->Q (.ref l) (upd H l (.lst ys))):=by
 intro pins s σ H xs us Q I r h;obtain⟨p,ys,rfl,hp,h1,k⟩:=h;obtain⟨u,rfl,ru⟩:=r.one;cases ru;obtain⟨its,rv,pl,hz⟩:=I.list (SqL.of (K:=X.K) hp);have hn:its.length < 2:=by rw[← rv.length];exact h1
 have fits:its.length<=sizeLine:=wHv (wIm hn) ⋯;refine Calls.call_function_entry kind_sorted plain_sorted entry_sorted (args_sorted1 _) ?_;unfold Builtin.«sorted»;refine wHe (m:=checkCount "sorted" 1 1 _) (wHk ?_);refine wHe (collect_list pl.isList ?_ fits);refine wHe (wpAny_newList ?_ fits);have eV:∀b o,s.heap.get? b=some o->((s.heap.push (seqObj "list" #[] 0)).update s.heap.objs.size (Obj.mapSeq (·++its.toArray))).get? b=some o:=λb o e=>by have hb:=wHq e;exact (wHG _ _ (Ne.symm (wHu hb))).trans (wHi _ e)
 obtain⟨h0,eh0⟩:∃h0,h0=(s.heap.push (seqObj "list" #[] 0)).update s.heap.objs.size (Obj.mapSeq (·++its.toArray)):=⟨_,rfl⟩;rw[← eh0] at eV ⊢;have hL:(h0.push (seqObj "list" its.toArray 0)).get? h0.objs.size=some (seqObj "list" its.toArray 0):=wHs _ rfl;have lK:s.heap.objs.size<=h0.objs.size:=by rw[eh0,Heap.size_update,wIa];exact Nat.le_succ _
 refine wHe (wHZ (wpAny_call_entry slot_list_sort ⟨_,hL,rfl⟩ entry_list_sort (zGn hL hn ⟨_,rfl,?_⟩) (args_list_sort _)));refine wHk ⟨_,rfl,?_⟩;have hl:H h0.objs.size=none:=I.hok.fresh lK;have J:=I.laid (h':=sortedHeap (h0.push (seqObj "list" its.toArray 0)) h0.objs.size its its.toArray) (o:=.lst ys) (t':=s.toks) (a:=h0.objs.size) (λb o e=>?_) lK ⟨by omega,its,?_⟩
 ·exact⟨.ref h0.objs.size,_,J,rfl,k _ hl⟩
 ·have hb:=wHy (wHq e) lK;unfold sortedHeap;refine (wHG _ _ (Ne.symm (wHu hb))).trans (wHi _ (wHi _ ?_));exact (wHG _ _ (Ne.symm (wHu hb))).trans (wHi _ (eV _ _ e))
 unfold sortedHeap;exact⟨_,rv,get?_update_seq (wHi _ (wHi _ (get?_update_seq hL (λ_=>#[])))) (λ_=>its.toArray)⟩
def zHo:zB7 X (.builtin "sorted") (λxs H Q=>∃(p:Addr) (q:Nat->Addr) (n:Nat) (a b:Nat->Int),xs=[.ref p]/\H p=some (.lst (tab n λi=>V.ref (q i)))/\(∀i,i < n->H (q i)=some (.tup [.int (a i),.int (b i)]))/\n < 64/\(∀i j,i < n->j < n->i≠j->¬(a i=a j/\b i=b j))/\
  ∀(l:Addr) (π:List Nat),H l=none->π.Perm (List.range n)->(π.Pairwise λi j=>a i < a j∨(a i=a j/\b i < b j))->Q (.ref l) (upd H l (.lst (π.map λi=>V.ref (q i))))):=by
 intro pins s σ H xs us Q I r h;obtain⟨p,q,n,a,b,e,hp,hq,n64,nd,k⟩:=h;by_cases c:2<=n
 ·exact zGx pins s σ H xs us Q I r ⟨p,q,n,a,b,e,hp,hq,c,n64,nd,k⟩
 refine zHp pins s σ H xs us Q I r ⟨p,_,e,hp,by rw[zW];omega,λl hl=>?_⟩;have:=k l (List.range n) hl (List.Perm.refl _) ?_
 ·have e2:(tab n λi=>V.ref (q i))=(List.range n).map λi=>V.ref (q i):=rfl;rw[e2];exact this
 rw[List.pairwise_iff_getElem];intro i j hi hj bR;rw[wIl] at hi hj;omega
end
end L2
namespace L2
open PySem PySem.Spec PyProof.Rows PySem.W Builtin Builtin.ObjectAttr
def zIU:List Value->Bool
 | .ref _::r=>zIU r
 | l=>l == vEr
theorem zG8 (self:Value):∀{l:List Value},zIU l=true->refuseLoop self "__setattr__" l=pure PUnit.unit
 | .ref c::r,e=>by rw[refuseLoop_ref];exact zG8 self (show zIU r=true from e)
 | [],e=>by cases e
 | .type n::r,e=>by have z:Value.type n::r=vEr:=beq_iff_eq.mp e;rw[z];exact F.store_ValueError.passes self
 | .int ..::r,e=>by have z:=beq_iff_eq.mp (show (_ == vEr)=true from e);cases z
 | .none::r,e=>by have z:=beq_iff_eq.mp (show (_ == vEr)=true from e);cases z
 | .bool ..::r,e=>by have z:=beq_iff_eq.mp (show (_ == vEr)=true from e);cases z
 | .str ..::r,e=>by have z:=beq_iff_eq.mp (show (_ == vEr)=true from e);cases z
 | .builtin ..::r,e=>by have z:=beq_iff_eq.mp (show (_ == vEr)=true from e);cases z
theorem zMU:∀{l:List Value},zIU l=true->l.contains (.type "object")=true
 | .ref c::r,e=>by rw[List.contains_cons,zMU (show zIU r=true from e),Bool.or_true]
 | [],e=>by cases e
 | .type n::r,e=>by rw[show Value.type n::r=vEr from beq_iff_eq.mp e];rfl
 | .int ..::r,e=>by have z:=beq_iff_eq.mp (show (_ == vEr)=true from e);cases z
 | .none::r,e=>by have z:=beq_iff_eq.mp (show (_ == vEr)=true from e);cases z
 | .bool ..::r,e=>by have z:=beq_iff_eq.mp (show (_ == vEr)=true from e);cases z
 | .str ..::r,e=>by have z:=beq_iff_eq.mp (show (_ == vEr)=true from e);cases z
 | .builtin ..::r,e=>by have z:=beq_iff_eq.mp (show (_ == vEr)=true from e);cases z
def zQA (K:W.Frag) (C:Addr):Bool:=(clsIn K C).any λcd=>zIU cd.mro
section
variable {prog:Program} {w:World} {A:Around} {E:Value->Shared->Prop} {s:Shared} {K:W.Frag} {x C:Addr} {oe:Obj} {name:Str} {v:Value} {tk:Tok}
def zN4 {Q:PySem.Fin->Shared->Prop} {b:Bool} (X:K.In s.heap) (hh:hasDictIn K C=true) (hx:s.heap.get? x=some oe) (hc:oe.cls=.ref C) {vs:Array Value} (dM:oe.data=.fields vs) (hd:oe.dict=none)
  (h:∀h' bJ,(∀b o,b≠x->s.heap.get? b=some o->h'.get? b=some o)->h'.get? x=some { oe with dict:=some s.heap.objs.size }->h'.Ns1 s.heap.objs.size (λy=>if y=name then some v else none)->Q (.done (.ret .none)) { s with heap:=h',toks:=bJ }) :
  wpAny (model prog w) A (storeInOwnDict (.ref x) (.ref C) (.str name tk) name v b) Q E s:=by
 obtain⟨cd,aQ,bS⟩:=any_some hh;refine wHe (wHk (wHe (wHe (wpAny_loadPart hx ?_))));rw[hc];refine wHe ((looks_clsIn X aQ).here ?_);rw[bS,wHj ⋯];dsimp only;rw[hd];dsimp only;rw[wHj (by simp[typeHasDict])];rw[dM];dsimp only;have hs:x≠s.heap.objs.size:=wHu (wHq hx);have dH:(s.heap.push { cls:=.type "dict",data:=.dict #[] }).get? x=some oe:=wHi _ hx;refine wHe (wpAny_alloc' (wHe (wpAny_update' dH (wHk ?_))));dsimp only;obtain⟨h1,kh⟩:∃h1,h1=(s.heap.push { cls:=.type "dict",data:=.dict #[] }).update x λo=>{ cls:=o.cls,dict:=some s.heap.objs.size,data:=o.data,slots:=o.slots }:=⟨_,rfl⟩;rw[← kh];have gd:h1.get? s.heap.objs.size=some { cls:=.type "dict",data:=.dict #[] }:=by rw[kh];exact (wHG _ _ hs).trans (wHs _ rfl)
 have gx:h1.get? x=some { oe with dict:=some s.heap.objs.size }:=by
  rw[kh];refine wIb _ dH ?_;obtain⟨c,d,dt,sl⟩:=oe;cases dM
  rfl
 have gk:∀b o,b≠x->s.heap.get? b=some o->h1.get? b=some o:=λb o n e=>by rw[kh];exact (wHG _ _ (Ne.symm n)).trans (wHi _ e)
 have nd:h1.Ns1 s.heap.objs.size λ_=>none:=Heap.Ns1.of_empty ⟨_,#[],_,gd,rfl,λe he=>absurd he (by simp),λ_=>rfl⟩;unfold storeInDict newKeyGuard;refine wHe (wHk (wHe (wpAny_nsSet1 (s:={ s with heap:=h1 }) nd λh2 n2 sb=>?_)));obtain⟨oD,esD,epD,hX,iI,iM⟩:=n2.count (PySem.Within.cons name v PySem.Within.nil);refine wHe (wpAny_lookBehind hX (by rw[iI];exact pastItsLine_dict (wHv iM (by rw[wIe,List.length_nil,sizeLine_eq];omega))) ?_);exact wHk (h h2 _ (λb o n e=>(sb.2 b (wHu (wHq e))).trans (gk b o n e)) ((sb.2 x hs).trans gx) n2)
def zN3 {Q:PySem.Fin->Shared->Prop} {b:Bool} {dx:Addr} {mA:Str->Option Value} {ns:List Str} (X:K.In s.heap) (hh:hasDictIn K C=true) (hx:s.heap.get? x=some oe) (hc:oe.cls=.ref C) (hd:oe.dict=some dx) (hn:s.heap.Ns1 dx mA) (hw:PySem.Within mA ns) (hz:ns.length<=1000)
  (h:∀h' bJ,(∀b o,b≠dx->s.heap.get? b=some o->h'.get? b=some o)->h'.Ns1 dx (λy=>if y=name then some v else mA y)->Q (.done (.ret .none)) { s with heap:=h',toks:=bJ }) :
  wpAny (model prog w) A (storeInOwnDict (.ref x) (.ref C) (.str name tk) name v b) Q E s:=by
 obtain⟨cd,aQ,bS⟩:=any_some hh;refine wHe (wHk (wHe (wHe (wpAny_loadPart hx ?_))));rw[hc];refine wHe ((looks_clsIn X aQ).here ?_);rw[bS,wHj ⋯];dsimp only;rw[hd];refine wHk ?_;dsimp only;unfold storeInDict newKeyGuard;refine wHe (wHk (wHe (wpAny_nsSet1 hn λh2 n2 sb=>?_)));obtain⟨oD,esD,epD,hX,iI,iM⟩:=n2.count (PySem.Within.cons name v hw);refine wHe (wpAny_lookBehind hX (by rw[iI];exact pastItsLine_dict (wHv iM (by rw[wIe,sizeLine_eq];omega))) ?_);exact wHk (h h2 _ (λb o n e=>(sb.2 b n).trans e) n2)
def zIv {Q:Unit->Shared->Prop} (X:K.In s.heap) {od:Option Obj} (I:InstAt s.heap x oe C od) (hv:zQA K C=true) (hs:findIn K (.ref C) "__setattr__"=some (some (.builtin "object.__setattr__"))) (ht:findIn K (.ref C) name=some none)
  (h:∀A' b,wpAny (model prog w) A' (storeInOwnDict (.ref x) (.ref C) (.str name s.toks) name v b) (λfin s'=>fin=.done (.ret .none)/\Q PUnit.unit s') (λ_ _=>False) { s with toks:=s.toks+1 }) :
  wpAny (model prog w) A (setAttr (.ref x) name v) Q E s:=by
 refine set_plain X I hs ?_;have SF:=F.store_object;obtain⟨cd,hc,ho⟩:=any_some hv;have ne:cd.mro.isEmpty=false:=by
  cases q:cd.mro with
  | nil=>rw[q] at ho;cases ho
  | cons _ _=>rfl
 have J:K.In ({ s with toks:=s.toks+1 }:Shared).heap:=X;have sub:Looks (model prog w) s.heap (isInstance (.ref x) (.type "object")) true:=I.type.andThen (looks_mroIn X (by unfold mroIn;rw[hc,Option.bind_some,wHj (by rw[ne];decide),zMU ho]));refine codeAny_call_builtin SF.slot.plain SF.entry (@check_slot (model prog w) _ _ { s with toks:=s.toks+1 } "object.__setattr__" "object" "__setattr__" (.ref x) [.str name s.toks,v] [] _ SF.kind SF.split sub (SF.args (.ref x) (.str name s.toks) v) ?_);have hm:Looks (model prog w) s.heap (mroOf (.ref C)) cd.mro:=(looks_clsIn X hc).andThen .now;rw[osa_eq,refuse_eq];refine wHe (wHe (I.type.here (s:={ s with toks:=s.toks+1 }) (wHe (hm.here (s:={ s with toks:=s.toks+1 }) ?_))));rw[zG8 _ ho];refine wHk (wHe (I.type.here (s:={ s with toks:=s.toks+1 }) (wHe ((looks_findIn X ht).here (s:={ s with toks:=s.toks+1 }) (wHe (wHk ?_))))));dsimp only;refine wHH (h _ _) (λfin s' z=>?_) λ_ _ z=>z.elim;obtain⟨rfl,q⟩:=z;exact q
end
end L2
namespace L2
open PySem PySem.Spec PyProof.Rows PySem.W
def zCV (e:Addr) (cls:Value) (dd:Option Addr):HO:=.ext λh=>∃oe vs,h.get? e=some oe/\oe.cls=cls/\oe.dict=dd/\oe.data=.fields vs/\vs[1]?=some .none/\vs[2]?=some .none
def XdN (a:Addr) (fs:List (Str × V)):HO:=.ext λh=>∃mA,h.Ns1 a mA/\∀f,zH3 (fs.lookup f) (mA f)
section
variable {P:Program} {w:World} {H:Hp} {h:Heap} {e:Addr} {cls:Value} {dd:Option Addr} {fs:List (Str × V)}
def zCV.mk {oe:Obj} {vs:Array Value} (a:h.get? e=some oe) (b:oe.cls=cls) (c:oe.dict=dd) (d:oe.data=.fields vs) (h1:vs[1]?=some .none) (h2:vs[2]?=some .none):ObjOk P w H h e (zCV e cls dd):=
 ⟨⟨oe,vs,a,b,c,d,h1,h2⟩,⟨oe,a⟩,λ_ _ ⟨oe,vs,q,r⟩ k=>⟨oe,vs,k _ q,r⟩⟩
def zCV.get (x:HOk P w H h) (q:H e=some (zCV e cls dd)):∃oe vs,h.get? e=some oe/\oe.cls=cls/\oe.dict=dd/\oe.data=.fields vs/\vs[1]?=some .none/\vs[2]?=some .none:=(x e _ q).1
def XdN.mk {mA:Str->Option Value} (n:h.Ns1 e mA) (r:∀f,zH3 (fs.lookup f) (mA f)):ObjOk P w H h e (XdN e fs):=
 ⟨⟨mA,n,r⟩,let ⟨o,_,_,q,_⟩:=n;⟨o,q⟩,λ_ _ ⟨mA,n,r⟩ k=>⟨mA,n.at k,r⟩⟩
def XdN.get (x:HOk P w H h) (q:H e=some (XdN e fs)):∃mA,h.Ns1 e mA/\∀f,zH3 (fs.lookup f) (mA f):=(x e _ q).1
end
structure XF (K:W.Frag) (C:Addr) (f:Str):Prop where
 ve:zQA K C=true
 hd:hasDictIn K C=true
 sa:findIn K (.ref C) "__setattr__"=some (some (.builtin "object.__setattr__"))
 no:findIn K (.ref C) f=some none
theorem mem_of_lookup {g:Str} {v:V}:∀{fs:List (Str × V)},fs.lookup g=some v->g∈fs.map (·.1)
 | [],q=>by cases q
 | (a,b)::r,q=>by
  by_cases z:g=a
  ·exact z ▸ wH5
  have hb:(g == a)=false:=beq_eq_false_iff_ne.mpr z;simp only[List.lookup,hb] at q;exact wHP _ (mem_of_lookup q)
def zH3.none_at {o:Option Value} (r:zH3 none o):o=none:=by
 cases o with
 | none=>rfl
 | some v=>exact absurd r (by intro z;exact z)
section
variable {X:Cx} {pins:List (Addr × Obj)} {σ:St} {H:Hp} {s:Shared} {E:Value->Shared->Prop} {A:Around} {x C:Addr} {f:Str} {y:V} {u:Value}
def zLO {Q:Unit->Shared->Prop} (I:Inv X pins σ H s) (e:H x=some (zCV x (.ref C) none)) (k:XF X.K C f) (ry:zBg y u)
  (h:∀s' dx,H dx=none->dx≠x->Inv X pins σ (upd (upd H x (zCV x (.ref C) (some dx))) dx (XdN dx [(f,y)])) s'->Q PUnit.unit s'):wpAny (model X.prog X.w) A (setAttr (.ref x) f u) Q E s:=by
 obtain⟨oe,vs,hx,hc,hd,dM,h1,h2⟩:=zCV.get I.hok e;have J:InstAt s.heap x oe C none:=⟨hx,hc,by unfold notCls;rw[dM],by rw[hd];trivial⟩;refine zIv I.kIn J k.ve k.sa k.no λA' b=>zN4 (s:={ s with toks:=s.toks+1 }) I.kIn k.hd hx hc dM hd λh' bJ keep mr hn=>⟨rfl,?_⟩;have nd:s.heap.get? s.heap.objs.size=none:=wIw (wHm _);have nH:H s.heap.objs.size=none:=I.hok.fresh (wHm _);have ne:s.heap.objs.size≠x:=λz=>by rw[z,hx] at nd;cases nd
 refine h _ s.heap.objs.size nH ne ?_;have mu:Mut (H x):=by rw[e];exact True.intro
 have n':upd H x (zCV x (.ref C) (some s.heap.objs.size)) s.heap.objs.size=none:=by rw[zO ne];exact nH
 refine I.call' (s':={ s with heap:=h',toks:=bJ }) (ch:=[]) rfl ((Un.write mu (.inl rfl) (λb o n q=>keep b o n q) ⟨_,mr⟩).put nd n') ((I.hok.write mu (.inl rfl) (λb o n q=>keep b o n q) ⟨_,mr⟩ (zCV.mk mr hc rfl dM h1 h2)).put n' (XdN.mk hn λg=>?_)) I.bare λb z=>nomatch z
 show zH3 (List.lookup g [(f,y)]) (if g=f then some u else none);by_cases q:g=f
 ·rw[wHl q,q];simp only[List.lookup,beq_self_eq_true];exact ry
 rw[wHj q];have hb:(g == f)=false:=beq_eq_false_iff_ne.mpr q;simp only[List.lookup,hb]
 trivial
def zLN {Q:Unit->Shared->Prop} {dx:Addr} {fs:List (Str × V)} (I:Inv X pins σ H s) (e:H x=some (zCV x (.ref C) (some dx))) (ed:H dx=some (XdN dx fs)) (hz:fs.length<=1000) (k:XF X.K C f) (ry:zBg y u)
  (h:∀s',Inv X pins σ (upd H dx (XdN dx ((f,y)::fs))) s'->Q PUnit.unit s'):wpAny (model X.prog X.w) A (setAttr (.ref x) f u) Q E s:=by
 obtain⟨oe,vs,hx,hc,hd,dM,h1,h2⟩:=zCV.get I.hok e;obtain⟨mA,hn,hr⟩:=XdN.get I.hok ed;obtain⟨od,_,_,hod,_⟩:=id hn;have J:InstAt s.heap x oe C (some od):=⟨hx,hc,by unfold notCls;rw[dM],by rw[hd];exact hod⟩;have wi:PySem.Within mA (fs.map (·.1)):=λg hg=>by
  cases q:fs.lookup g with
  | none=>have:=hr g;rw[q] at this;exact absurd (zH3.none_at this) hg
  | some v=>
   exact mem_of_lookup q
 refine zIv I.kIn J k.ve k.sa k.no λA' b=>zN3 (s:={ s with toks:=s.toks+1 }) I.kIn k.hd hx hc hd hn wi (by rw[wHf];exact hz) λh' bJ keep fX=>⟨rfl,h _ ?_⟩;have mu:Mut (H dx):=by rw[ed];exact True.intro
 obtain⟨od',_,_,mK,_⟩:=id fX;refine I.write (t':=bJ) mu (.inl rfl) (λb o n q=>keep b o n q) ⟨_,mK⟩ (XdN.mk fX λg=>?_);by_cases q:g=f
 ·rw[wHl q,q];simp only[List.lookup,beq_self_eq_true];exact ry
 rw[wHj q];have hb:(g == f)=false:=beq_eq_false_iff_ne.mpr q;simp only[List.lookup,hb];exact hr g
end
end L2
namespace L2
open PySem PySem.Spec PyProof.Rows PySem.W
def zFw (K:W.Frag) (C:Addr) (below:List Value) (made:String):Bool:=
 (K.lookup C).any λo=>o.cls == .type "type" && (match o.data,o.slots.toList with
  | .cls c,[_,_,_,_,some (.builtin m),_]=>(match c.mro with
   | v::r=>v == .ref C && m == made && !c.hasDel && tailIn K below r
   | []=>false)
  | _,_=>false)
def zEX {K:W.Frag} {h:Heap} {C:Addr} {below:List Value} {made:String} (X:K.In h) (q:zFw K C below made=true) :
  ∃tl ns nm qn bs hd sn sub ab col dd k0 k1 k2 k3 k5,h.get? C=some (excClassObj nm qn C ns bs tl hd sn sub ab col dd k0 k1 k2 k3 k5 made)/\OwnTail h below tl:=by
 unfold zFw at q;obtain⟨o,ho,q⟩:=any_some q;obtain⟨oc,dd,dt,sl⟩:=o;rw[wHN,beq_iff_eq] at q;obtain⟨q0,q⟩:=q;dsimp only at q0 q;subst q0
 split at q
 ·rename_i c k0 k1 k2 k3 m k5 hs
  obtain⟨nm,bs,mro,ns,qn,hd,sn,sub,ab,col,del⟩:=c;dsimp only at q
  split at q
  ·rename_i v r
   simp only[wHN,beq_iff_eq,Bool.not_eq_true'] at q;obtain⟨⟨⟨rfl,rfl⟩,rfl⟩,ht⟩:=q;have dI:sl=#[k0,k1,k2,k3,some (.builtin m),k5]:=Array.toList_inj.mp hs;subst dI;exact⟨r,ns,nm,qn,bs,hd,sn,sub,ab,col,dd,k0,k1,k2,k3,k5,X _ _ ho,W.tail_of_in X ht⟩
  cases q
 cases q
section
variable {prog:Program} {w:World} {A:Around} {E:Value->Shared->Prop} {s:Shared} {K:W.Frag} {e C:Addr} {text:Value}
def zKZ {oe:Obj} {vs:Array Value} {Q:Value->Shared->Prop} (X:K.In s.heap) (hx:zFw K C vEr "ValueError.__new__"=true) (he:s.heap.get? e=some oe) (hc:oe.cls=.ref C) (hd:oe.data=.fields vs) (hv:2 < vs.size)
  (h:∀h' t,(∀b o,b≠e->s.heap.get? b=some o->h'.get? b=some o)->h'.get? e=some { oe with data:=.fields (vs.setIfInBounds 0 t) }->Q .none { s with heap:=h' }) :
  wpAny (model prog w) A (call (.builtin "ValueError.__init__") [.ref e,text]) Q E s:=by
 obtain⟨tl,ns,nm,qn,bs,gA,sn,sub,ab,col,dd,k0,k1,k2,k3,k5,hC,T⟩:=zEX X hx;have F:=F.excBase_ValueError;obtain⟨hh,g,dr,t,os⟩:=s;refine wpAny_call (codeAny_call_builtin F.init.plain F.initEntry (wpAny_check_init_subT F T hC he hc ?_))
 wp_walk
 rw[hd]
 wp_walk
 obtain⟨x0,mq⟩:∃x0,vs[0]?=some x0:=⟨_,wH9 ∅⟩;rw[mq];refine wHk (wHe ?_);have he':(hh.push { cls:=.type "tuple",data:=.seq #[text] }).get? e=some oe:=wHi _ he;have hee:e≠hh.objs.size:=wHu (wHq he);refine wpAny_setField he' hd ∅ ?_;have fin:∀{Q':Unit->Shared->Prop} {E':Value->Shared->Prop} {s':Shared},Q' PUnit.unit s'->wpAny (model prog w) A.in1 (match x0 with | .ref _=>letGo [x0] | _=>pure PUnit.unit) Q' E' s':=λq=>by cases x0<;>first | exact wHk q | exact wpAny_letGo q
 refine fin (wHk ?_);refine h _ (.ref hh.objs.size) (λb o n q=>(wHG _ _ (Ne.symm n)).trans (wHi _ q)) ?_;refine (wIb _ he' (Obj.isFreed_of_fields (Obj.data_mapFields hd _))).trans ?_;obtain⟨c,d,dt,sl⟩:=oe;cases hd
 rfl
def zM5 {f:Addr} {rest:List Value} {Q:PySem.Fin->Shared->Prop} (X:K.In s.heap) (hx:zFw K C vEr "ValueError.__new__"=true) (hi:findIn K (.ref C) "__init__"=some (some (.ref f))) (hf:typeIn K (.ref f)=some (.type "function")) (hm:mroIn K C (.ref C)=some true) (hz:rest.length<=sizeLine)
  (h:∀h' e,Heap.MadeExcOf s.heap h' e (.ref C) rest->wpAny (model prog w) A (call (.ref f) (.ref e::rest)) (λr s'=>r=.none/\Q (.done (.ret (.ref e))) s') E { s with heap:=h' }) :
  wpAny (model prog w) A (Builtin.«type.__call__» ⟨.ref C::rest,[]⟩) Q E s:=by
 obtain⟨tl,ns,nm,qn,bs,gA,sn,sub,ab,col,dd,k0,k1,k2,k3,k5,hC,T⟩:=zEX X hx;have F:=F.excBase_ValueError;obtain⟨hh,g,dr,t,os⟩:=s
 repeat (first | with_reducible refine wpAny_loadPart_at hC ?_ | with_reducible refine wpAny_madeBy_exc hC ?_ | wp_step)
 refine codeAny_call_builtin_code (Code.quiet_builtin _ F.quiet) (wpAny_check_new_subT F T hC ?_);refine codeAny_exc_new_subT F T hC ?_ hz;obtain⟨h1,e1⟩:∃h1,h1=(hh.push { cls:=.type "tuple",data:=.seq rest.toArray }).push { cls:=.ref C,data:=.fields #[.ref hh.objs.size,.none,.none,.none,.bool false,.none] }:=⟨_,rfl⟩;have kp:∀b o,hh.get? b=some o->h1.get? b=some o:=λb o q=>by rw[e1];exact wHi _ (wHi _ q)
 have ge:h1.get? (hh.objs.size+1)=some { cls:=.ref C,data:=.fields #[.ref hh.objs.size,.none,.none,.none,.bool false,.none] }:=by have:=wHs (hh.push { cls:=.type "tuple",data:=.seq rest.toArray }) (o:={ cls:=.ref C,data:=.fields #[.ref hh.objs.size,.none,.none,.none,.bool false,.none] }) rfl;rw[wIa] at this;rw[e1];exact this
 have gt:h1.get? hh.objs.size=some { cls:=.type "tuple",data:=.seq rest.toArray }:=by rw[e1];exact wHi _ (wHs _ rfl)
 have X1:K.In h1:=λb o q=>kp b o (X b o q);have C1:=kp _ _ hC;show wpAny _ _ _ _ _ _;rw[← e1];have I:InstAt h1 (hh.objs.size+1) { cls:=.ref C,data:=.fields #[.ref hh.objs.size,.none,.none,.none,.bool false,.none] } C none:=⟨ge,rfl,rfl,trivial⟩;have L:Looks (model prog w) h1 (isInstance (.ref (hh.objs.size+1)) (.ref C)) true:=I.type.andThen (looks_mroIn X1 hm);refine wHe (L.here (s:=⟨h1,g,dr,t,os⟩) ?_);rw[wHj ⋯];refine wHe (wHZ (special_fn (s:=⟨h1,g,dr,t,os⟩) X1 I hi hf ?_));refine wHH (h h1 (hh.objs.size+1) ⟨kp,wIw (Nat.le_succ _),hh.objs.size,ge,wIw (wHm _),gt⟩) (λr s' z=>?_) λ_ _ z=>z;obtain⟨rfl,q⟩:=z;dsimp only;rw[wHj (by simp)];exact wHk q
def zMO {f:Addr} {rest:List Value} {Q:Value->Shared->Prop} (X:K.In s.heap) (hx:zFw K C vEr "ValueError.__new__"=true) (hi:findIn K (.ref C) "__init__"=some (some (.ref f))) (hf:typeIn K (.ref f)=some (.type "function")) (hm:mroIn K C (.ref C)=some true) (hz:rest.length<=sizeLine)
  (h:∀h' e,Heap.MadeExcOf s.heap h' e (.ref C) rest->wpAny (model prog w) (A.under (.builtin "type.__call__" ⟨.ref C::rest,[]⟩)) (call (.ref f) (.ref e::rest)) (λr s'=>r=.none/\Q (.ref e) s') E { s with heap:=h' }) :
  wpAny (model prog w) A (call (.ref C) rest) Q E s:=by
 obtain⟨tl,ns,nm,qn,bs,gA,sn,sub,ab,col,dd,k0,k1,k2,k3,k5,hC,T⟩:=zEX X hx;obtain⟨hh,g,dr,t,os⟩:=s;have f1:=tc_lookup;have f2:=tc_bind (.ref C);have hT:(⟨hh,g,dr,t,os⟩:Shared).TypeIs (.ref C) "type":=⟨_,hC,rfl⟩;refine wpAny_call (codeAny_of_tree ?_);show wpAny _ _ (callAny (.ref C) _) _ _ _
 repeat (any_goals (first | assumption | with_reducible refine wpAny_loadPart_at hC ?_ | wp_step))
 refine⟨rfl,codeAny_call_builtin_at (Code.quiet_builtin _ (by nofun)) entry_typeCall (wpAny_check_type_call_sub hC (zM5 X hx hi hf hm hz λh' e mk=>?_))⟩;exact h h' e mk
end
section
variable {M:Model} {A:Around} {E:Value->Shared->Prop} {env:Env} {s:Shared} {x:Sem Value} {K:W.Frag} {C:Addr}
def zJh {Q:Flow->Shared->Prop} (hh:A.handled=none)
  (hx:zFw K C vEr "ValueError.__new__"=true)
  (h:wpAny M A x (λv s1=>∃e oe vs,v=.ref e/\K.In s1.heap/\s1.heap.get? e=some oe/\oe.cls=.ref C/\oe.data=.fields vs/\vs[1]?=some .none/\E (.ref e) s1) E s) :
  wpAny M A (raiseStmt env (some x) none) Q E s:=by
 unfold raiseStmt;refine wHe (wHH h (λv s1 h1=>?_) λ_ _ z=>z);obtain⟨e,oe,vs,rfl,X,he,hc,hd,h1,hE⟩:=h1;obtain⟨tl,ns,nm,qn,bs,gA,sn,sub,ab,col,dd,k0,k1,k2,k3,k5,hC,T⟩:=zEX X hx;have hcB:(Value.ref C::tl).contains (.type "BaseException")=true:=by rw[List.contains_cons,T.hasType (b:=true) rfl,Bool.or_true]
 obtain⟨hp,g,d,tk,os⟩:=s1
 repeat (first | (with_reducible refine wpAny_loadPart_at he ?_;rw[hc]) | with_reducible refine wpAny_loadPart_at hC ?_ | (with_reducible refine wpAny_isSubtype_exc hC ?_;rw[hcB]) | wp_step)
 rw[hd];refine wHk ?_;rw[h1];refine wHk ?_;rw[wHj (by simp)];exact wHk (wpAny_raiseNew_none hh hE)
end
section
variable {prog:Program} {w:World} {A:Around} {E:Value->Shared->Prop} {env:Env} {s:Shared} {K:W.Frag} {C f:Addr} {n:Str} {np aC pos:Pos} {args:List Expr}
def zFx {Q:Flow->Shared->Prop} (hh:A.handled=none) (aR:(backTo aC (starEach args env)).any (·.1)=false) (hx:zFw K C vEr "ValueError.__new__"=true) (hi:findIn K (.ref C) "__init__"=some (some (.ref f))) (hf:typeIn K (.ref f)=some (.type "function")) (hm:mroIn K C (.ref C)=some true)
  (h:wpAny (model prog w) A (eval (.Name n np) env) (λv s1=>v=.ref C/\wpAny (model prog w) A (evalArgs (.ref C) true (backTo aC (starEach args env)) []) (λa s2=>a.kw=[]/\a.pos.length<=sizeLine/\K.In s2.heap/\
   ∀h' e,Heap.MadeExcOf s2.heap h' e (.ref C) a.pos->wpAny (model prog w) (A.under (.builtin "type.__call__" ⟨.ref C::a.pos,[]⟩)) (call (.ref f) (.ref e::a.pos)) (λr s3=>r=.none/\∃oe vs,K.In s3.heap/\s3.heap.get? e=some oe/\oe.cls=.ref C/\oe.data=.fields vs/\vs[1]?=some .none/\E (.ref e) s3) E { s2 with heap:=h' }) E s1) E s) :
  wpAny (model prog w) A (exec (.Raise (some (.Call (.Name n np) args [] aC)) none pos) env) Q E s:=by
 rw[arm_exec_Raise];refine wHe (wpAny_standAt (zJh (K:=K) (C:=C) hh hx ?_));refine wHe (wHH (wpAny_Call_ofName (wHH h (λv s1 h1=>?_) λ_ _ z=>z)) (λv s3 h3=>wHe (wpAny_standAt (wHk h3))) λ_ _ z=>z);obtain⟨rfl,h1⟩:=h1;unfold callWith;refine wHe (wHZ (wHH h1 (λa s2 h2=>wHe (wpAny_standAt ?_)) λ_ _ z=>z));obtain⟨ap,ak⟩:=a;obtain⟨hk,hl,X,h3⟩:=h2;obtain rfl:ak=[]:=hk;simp only[aR];obtain⟨tl,ns,nm,qn,bs,gA,sn,sub,ab,col,dd,k0,k1,k2,k3,k5,hC,T⟩:=zEX X hx;obtain⟨hp,g,d,tk,os⟩:=s2;refine wHe (wpAny_keeperOf_exc hC ?_);refine wHe (zMO X hx hi hf hm hl λh' e mk=>?_);refine wHH (h3 h' e mk) (λr s3 z=>?_) λ_ _ z=>z;obtain⟨rfl,oe,vs,a1,a2,a3,a4,a5,a6⟩:=z;exact⟨rfl,wHe (wHZ (wpAny_point (wHk ⟨e,oe,vs,rfl,a1,a2,a3,a4,a5,a6⟩)))⟩
end
end L2
namespace L2
open PySem PySem.Spec PyProof.Rows PySem.W
def zLW (H:Hp) (e:Addr):Hp:=λb=>if b=e then none else H b
def zGJ {H:Hp} {e:Addr}:zLW H e e=none:=by unfold zLW;rw[wHl rfl]
theorem zHU {H:Hp} {e b:Addr} (h:b≠e):zLW H e b=H b:=by unfold zLW;rw[wHj h]
section
variable {X:Cx} {pins:List (Addr × Obj)} {σ:St} {H:Hp} {s:Shared}
def Inv.shed {e dx:Addr} {cls:Value} {fs:List (Str × V)} (I:Inv X pins σ H s) (he:H e=some (zCV e cls (some dx))) (hd:H dx=some (XdN dx fs)) (ne:dx≠e):Inv X pins σ (upd (zLW H e) dx (.xd fs)) s:=by
 have other:∀b,b≠dx->b≠e->upd (zLW H e) dx (.xd fs) b=H b:=λb n1 n2=>by rw[zO n1,zHU n2]
 have nd:∀b o,H b=some o->(∀φ,o≠.ext φ)->b≠dx/\b≠e:=λb o q n=>⟨λz=>by rw[z,hd] at q;exact n _ (wHo q).symm,λz=>by rw[z,he] at q;exact n _ (wHo q).symm⟩;refine I.call' (s':=s) (ch:=[]) rfl ⟨λb o q _ _ _=>q,λb o q _ _ _=>⟨o.slots,q⟩,λb o q n _=>?_,λb o q _=>⟨o,q⟩,λb xs q=>?_,λb o u q=>?_,λb ps q=>⟨#[],?_⟩⟩ (λb u q=>?_) I.bare λb z=>nomatch z
 ·rw[other b (λz=>by rw[z,hd] at n;cases n) (λz=>by rw[z,he] at n;cases n)];exact n
 ·obtain⟨n1,n2⟩:=nd b _ q λφ z=>nomatch z
  rw[other b n1 n2];exact q
 ·obtain⟨n1,n2⟩:=nd b _ q λφ z=>nomatch z
  rw[other b n1 n2];exact q
 ·obtain⟨n1,n2⟩:=nd b _ q λφ z=>nomatch z
  rw[other b n1 n2,q];simp
 by_cases z:b=dx
 ·subst z;rw[zB] at q;cases q;exact XdN.get I.hok hd
 by_cases z2:b=e
 ·subst z2;rw[zO z,zGJ] at q;cases q
 rw[other b z z2] at q;refine (I.hok b u q).stay (λ_ _ _ r=>r) (λc r=>?_) λc xs r=>?_
 ·obtain⟨n1,n2⟩:=nd c _ r λφ z=>nomatch z
  rw[other c n1 n2];exact r
 obtain⟨n1,n2⟩:=nd c _ r λφ z=>nomatch z
 rw[other c n1 n2];exact r
def Inv.newX {C e:Addr} {rest:List Value} {h':Heap} (I:Inv X pins σ H s) (mk:Heap.MadeExcOf s.heap h' e (.ref C) rest):H e=none/\Inv X pins σ (upd H e (zCV e (.ref C) none)) { s with heap:=h' }:=by have nH:H e=none:=zC7 I.hok mk.new;obtain⟨t,ht,_⟩:=mk.there;refine⟨nH,I.call' (s':={ s with heap:=h' }) (ch:=[]) rfl ((⟨λb o q _ _ _=>mk.keeps _ _ q,λb o q _ _ _=>⟨o.slots,mk.keeps _ _ q⟩,λb o q n _=>n,λb o q _=>⟨o,mk.keeps _ _ q⟩,λ_ _ q=>q,λ_ _ _ q=>q,λb ps q=>⟨#[],by rw[q];simp⟩⟩:Un (frs X.stack) [] H H s.heap h').put mk.new nH) ((I.hok.kept mk.keeps).put nH (zCV.mk ht rfl rfl rfl rfl rfl)) I.bare λb z=>nomatch z⟩
end
structure XMk (K:W.Frag) (C f:Addr):Prop where
 ex:zFw K C vEr "ValueError.__new__"=true
 init:findIn K (.ref C) "__init__"=some (some (.ref f))
 fn:isFn K (.ref f)=true
 self:mroIn K C (.ref C)=some true
def zOc (E:XK) (C:Addr) (sp:Sp) (ta:TA):TS:=λ_ σ H=>ta σ H λvs H1=>vs.length<=100/\∀e,H1 e=none->sp (.ref e::vs) (upd H1 e (zCV e (.ref C) none)) (λr H2=>r=.non/\∃dx fs,dx≠e/\H2 e=some (zCV e (.ref C) (some dx))/\H2 dx=some (XdN dx fs)/\E (.ref C) (some dx) (upd (zLW H2 e) dx (.xd fs))) E0
section
variable {P:Program} {w:World} {K:W.Frag} {mg:Str->Option Value} {base:Heap} {N:List Str} {qual:Str} {scope:Scope} {f:Addr} {cd:Value} {A:Around} {outer:List Env} {s0:Shared} {H0:Hp} {E:XK}
def zKs {k:Nat} {n:Str} {C fI:Addr} {fd:FuncData} {ps:List Str} {sp:Sp} {e1:Expr} {es:List Expr} {ta:TA} {np aC pos:Pos} (M:XMk K C fI) (F:FnOk P w K mg base CX0 k fI fd ps sp)
  (hr:Room (k+1) (zEa (CXx P w) P w K mg base N qual scope f cd A outer s0 H0 E).A) (hb:zAc K fd ps []) (hg:Gl (zEa (CXx P w) P w K mg base N qual scope f cd A outer s0 H0 E) n) (hm:mg n=some (.ref C))
  (ha:PA (zEa (CXx P w) P w K mg base N qual scope f cd A outer s0 H0 E) (e1::es) ta) (hd:(n == ("__debug__":Str))=false:=by decide)
  (bF:starEach (e1::es) (zEa (CXx P w) P w K mg base N qual scope f cd A outer s0 H0 E).env=(false,eval e1 (zEa (CXx P w) P w K mg base N qual scope f cd A outer s0 H0 E).env)::starEach es (zEa (CXx P w) P w K mg base N qual scope f cd A outer s0 H0 E).env:=by rfl)
  (aM:(backTo aC (starEach (e1::es) (zEa (CXx P w) P w K mg base N qual scope f cd A outer s0 H0 E).env)).any (·.1)=false:=by rfl) :
  PS (zEa (CXx P w) P w K mg base N qual scope f cd A outer s0 H0 E) (.Raise (some (.Call (.Name n np) (e1::es) [] aC)) none pos) (zOc E C sp ta):=by
 intro pins s σ H D I h;refine zFx (K:=K) (C:=C) (f:=fI) (I.ok.hd rfl) aM M.ex M.init (beq_iff_eq.mp M.fn) M.self (zBP I hg hm ⟨rfl,?_⟩ hd);have hA:=ha aC pins s σ H _ I h;rw[bF] at hA ⊢;refine Calls.evalArgs_plain (wHH hA (λus s2 ⟨vs,H1,I1,r,hl,q⟩=>?_) λ_ _ z=>z);refine⟨rfl,by show us.length<=_;rw[← r.length];exact small ∅,I1.kIn,λh' e mk=>?_⟩;obtain⟨nH,I2⟩:=I1.newX mk;have hq:=q e nH;have old:∀b,s2.heap.get? b=none->s0.heap.get? b=none:=λb z=>by
  cases y:s0.heap.get? b with
  | none=>rfl
  | some o=>obtain⟨o',h'⟩:=I1.base.there b o y (λz=>nomatch z);rw[z] at h';cases h'
 have r2:zA4 (V.ref e::vs) (Value.ref e::us):=.cons rfl r;have hln:(Value.ref e::us).length=ps.length:=by have e9:=r2.length;rw[F.len _ _ _ _ hq] at e9;exact e9.symm
 refine wpAny_call (codeAny_mono (F.run _ (zEa (CXx P w) P w K mg base N qual scope f cd A outer s0 H0 E).stack _ _ ⟨Value.ref e::us,[]⟩ (Value.ref e::us) _ _ E0 (hr.make C us []) (I2.env0.make C us []) ?_ r2 hq) λrr s' cS=>?_)
 ·have:=hb { s2 with heap:=h' } (Value.ref e::us) I2.kIn (by rw[wHR];exact hln);rw[wHR] at this;exact this
 cases rr with
 | error ev=>exact zCT (X:=zEa (CXx P w) P w K mg base N qual scope f cd A outer s0 H0 E) pins σ _ _ ev s' I2 cS
 | ok fl=>
  cases fl with
  | ret u=>
   obtain⟨v,H2,I3,rv,ev,dx,fs,ne,he,eJ,qE⟩:=I2.after cS;subst ev;obtain⟨oe,ws,g1,g2,g3,g4,g5,g6⟩:=zCV.get I3.hok he;refine⟨rv,oe,ws,I3.kIn,g1,g2,g4,g5,?_⟩;have I4:=I3.shed he eJ ne;refine zFG (s:=s') I3.ok.frames I3.stack rfl g1 g4 g5 g6 λeN T' m nT x'=>?_;have fJ:upd (zLW H2 e) dx (.xd fs) e=none:=by rw[zO (Ne.symm ne)];exact zGJ
   have fK:upd (zLW H2 e) dx (.xd fs) T'=none:=zC7 I4.hok nT;have gO:s0.heap.get? T'=none:=by
    cases y:s0.heap.get? T' with
    | none=>rfl
    | some o=>obtain⟨o',h'⟩:=I3.base.there T' o y (λz=>nomatch z);rw[nT] at h';cases h'
   rw[g2,g3] at x';exact zK4 (s'':={ s' with heap:=eN }) I4 m rfl I4.bare x' (λb hb=>by
    simp at hb;rcases hb with z | z
    ·rw[z];exact old e mk.new
    ·rw[z];exact gO) (λb hb=>by
    simp at hb;rcases hb with z | z
    ·rw[z];exact fJ
    rw[z];exact fK) (old e mk.new) gO fJ fK qE
  | next=>exact wHX cS
  | brk=>exact wHX cS
  | cont=>exact wHX cS
end
end L2
namespace L2
open PySem PySem.Spec PyProof.Rows PySem.W
structure XB (K:W.Frag) (B:Addr):Prop where
 ga:specialIn K (.ref B) "__getattribute__"=some (some (.builtin "type.__getattribute__"))
 rd:readsIn K B (.type "type")=true
 fc:findCls K (.ref B) (.type "type") "__init__"=some (.val (.builtin "ValueError.__init__"))
def zPk (K:W.Frag) (ta:TA):TE:=λσ H Q=>ta σ H λxs H1=>∃e C dd z,xs=[.ref e,.str z]/\H1 e=some (zCV e (.ref C) dd)/\zFw K C vEr "ValueError.__new__"=true/\Q .non H1
def sXF (K:W.Frag) (ta tv:TE) (f:Str):TS:=λD σ H=>tv σ H λy H1=>ta σ H1 λx H2=>∃e C,x=.ref e/\XF K C f/\((H2 e=some (zCV e (.ref C) none)/\∀dx,H2 dx=none->dx≠e->D.nx σ (upd (upd H2 e (zCV e (.ref C) (some dx))) dx (XdN dx [(f,y)])))∨
 ∃dx fs,H2 e=some (zCV e (.ref C) (some dx))/\H2 dx=some (XdN dx fs)/\fs.length<=1000/\D.nx σ (upd H2 dx (XdN dx ((f,y)::fs))))
section
variable {X:Cx} {o value:Expr} {f n:Str} {np pos pos' apos aC:Pos} {ta tv:TE} {B:Addr} {e1:Expr} {es:List Expr} {t:TA}
def zP7 (ha:PE X o ta) (hv:PE X value tv) (hs:swapsWith value (some (.Attribute o f pos')) pos.line X.env=pure false):PS X (.Assign [.Attribute o f pos'] value pos) (sXF X.K ta tv f):=by
 intro pins s σ H D I h;refine plainObj_wpAny_Assign_Attribute (thn (hv pins s σ H _ I h) λu s1 ⟨y,H1,I1,ry,q⟩=>thn (ha pins s1 σ H1 _ I1 q) λov s2 ⟨x,H2,I2,rx,e,C,ex,k,q2⟩=>?_) hs;subst ex;obtain rfl:ov=Value.ref e:=rx;rcases q2 with ⟨he,q2⟩ | ⟨dx,fs,he,hd,hz,q2⟩
 ·exact zLO I2 he k ry λs3 dx eJ ne I3=>⟨σ,_,I3,q2 dx eJ ne⟩
 exact zLN I2 he hd hz k ry λs3 I3=>⟨σ,_,I3,q2⟩
def zMg (b:XB X.K B) (hg:Gl X n) (hm:X.mg n=some (.ref B)) (ha:PA X (e1::es) t) (hd:(n == ("__debug__":Str))=false:=by decide) {pl:Sem Bool}
  (bF:starEach (e1::es) X.env=(false,eval e1 X.env)::starEach es X.env:=by rfl) (aM:(backTo aC (starEach es X.env)).any (·.1)=false:=by rfl)
  (ht:eval (.Call (.Attribute (.Name n np) "__init__" apos) (e1::es) [] aC) X.env=(do
   let ov ← eval (.Name n np) X.env
   standAt apos.atName
   let (f,first) ← holding [ov] (getMethod ov "__init__" pl)
   callWith aC f first (backTo aC (starEach (e1::es) X.env)) (backToKw aC (keywordEach [] X.env))):=by rfl) :
  PE X (.Call (.Attribute (.Name n np) "__init__" apos) (e1::es) [] aC) (zPk X.K t):=by
 intro pins s σ H Q I h;refine W.methodCall_KW (pl:=pl) (zBP I hg hm ?_ hd) ht;refine method_cls I.kIn b.ga (cls_value I.kIn b.rd b.fc rfl ?_);have I1:Inv X pins σ H { s with toks:=s.toks+1 }:=I.tok _;have hA:=ha aC pins _ σ H _ I1 h;rw[bF] at hA ⊢;refine Calls.callWith_builtin (by show (false || (backTo aC (starEach es X.env)).any (·.1))=false;rw[aM];rfl) (Calls.evalArgs_plain (thn hA λus s2 ⟨vs,H2,I2,r2,e,C,dd,z,ex,he,hx,q⟩=>?_));subst ex;obtain⟨u1,u2,rfl,r1,r3⟩:=zLE r2;obtain rfl:u1=Value.ref e:=r1;obtain⟨oe,ws,g1,g2,g3,g4,g5,g6⟩:=zCV.get I2.hok he;have sz:2 < ws.size:=(Array.getElem?_eq_some_iff.mp g6).1;refine zKZ I2.kIn hx g1 g2 g4 sz λh' t' keep hn=>⟨.non,H2,?_,rfl,q⟩;have mu:Mut (H2 e):=by rw[he];exact True.intro
 have I3:=I2.write (t':=s2.toks) mu (.inl rfl) (λb u n q=>keep b u n q) ⟨_,hn⟩ (o:=zCV e (.ref C) dd) (zCV.mk hn g2 g3 rfl (by rw[Array.getElem?_setIfInBounds_ne ⋯];exact g5) (by rw[Array.getElem?_setIfInBounds_ne ⋯];exact g6));have eH:upd H2 e (zCV e (.ref C) dd)=H2:=by
  funext b
  by_cases y:b=e
  ·subst y;rw[zB,he]
  rw[zO y]
 rw[eH] at I3;exact I3
end
end L2
namespace L2
open PySem PySem.Spec PyProof.Rows PySem.W
def zQB (K:W.Frag) (ta:TE) (f:Str):TE:=λσ H Q=>ta σ H λx H1=>∃e C dx fs v,x=.ref e/\H1 e=some (zFL e (.ref C) (some dx))/\H1 dx=some (.xd fs)/\ExcX K C/\hasDictIn K C=true/\findIn K (.ref C) f=some none/\fs.lookup f=some v/\Q v H1
section
variable {X:Cx} {o:Expr} {f:Str} {pos:Pos} {ta:TE}
def zK0 (he:PE X o ta) (hb:attributeBase o f X.env (eval o X.env)=eval o X.env):PE X (.Attribute o f pos) (zQB X.K ta f):=by
 intro pins s σ H Q I h;refine zL3 hb (thn (he pins s σ H _ I h) λu s1 aB=>?_);obtain⟨x,H1,I1,rx,e,C,dx,fs,v,ex,e1,e2,kx,kd,ka,l,q⟩:=aB;subst ex;obtain rfl:u=Value.ref e:=rx;obtain⟨oe,vs,g1,g2,g3,g4,g5⟩:=zFL.get I1.hok e1;obtain⟨mA,hn,hr⟩:=I1.hok dx _ e2;obtain⟨od,ho,hl⟩:=zGZ hn;have J:InstAt s1.heap e oe C (some od):=⟨g1,g2,by unfold notCls;rw[g4],by rw[g3];exact ho⟩;have rv:=hr f;rw[l] at rv;obtain⟨u,hu,ru⟩:∃u,mA f=some u/\zBg v u:=by
  cases q:mA f with
  | none=>rw[q] at rv;exact absurd rv (by intro z;exact z)
  | some u=>rw[q] at rv;exact⟨u,rfl,rv⟩
 have hf:findObj X.K C (some od) f=some (.value u):=findObj_own kd ka rfl (by rw[hl f,hu]);have I2:Inv X pins σ H1 { s1 with toks:=s1.toks+1 }:=I1.tok _;refine wHe (wpAny_mkText ?_);refine zMT (s:={ s1 with toks:=s1.toks+1 }) I1.kIn J kx.ga kx.gt kx.mb λA'=>zJB (s:={ s1 with toks:=s1.toks+1 }) I1.kIn J hf ?_;exact handed_on (zHh ru) ⟨v,H1,I2,ru,q⟩
end
def zQn (D:Ends) (i:Nat):Ends:={ nx:=λσ2 H2=>D.nx (σ2.set i none) H2,rt:=D.rt,bk:=λσ2 H2=>D.bk (σ2.set i none) H2,ct:=λσ2 H2=>D.ct (σ2.set i none) H2 }
def zQC (K:W.Frag) (C1 C2:Addr) (i:Nat) (tb:TSx) (jv ju:Addr->TS):TS:=λD σ H=>tb D (λcls dd σ' H'=>
 (W.exmOne K cls (.ref C1)=some true/\∀e,H' e=none->jv e (zQn D i) (σ'.set i (some (.ref e))) (upd H' e (zFL e cls dd)))∨
 (W.exmOne K cls (.ref C1)=some false/\W.exmOne K cls (.ref C2)=some true/\∀e,H' e=none->ju e (zQn D i) (σ'.set i (some (.ref e))) (upd H' e (zFL e cls dd)))) σ H
section
variable {X:Cx} {pos:Pos}
def zOj {C1 C2:Addr} {i:Nat} {n c1 c2:Str} {body:List Stmt} {b1 b2:Stmt} {cK cJ:List Stmt} {tb:TSx} {jv ju:Addr->TS} {cp1 hV cp2 hU:Pos} (hN:X.N.Nodup) (hi:X.N[i]?=some n) (hn:X.env.scope.names.lookup n=some .local)
  (hg1:Gl X c1) (hm1:X.mg c1=some (.ref C1)) (ni:Gl X c2) (mV:X.mg c2=some (.ref C2)) (hb:zR8 X body tb) (hh1:∀e,PSs (X.hot e) (b1::cK) (jv e)) (hh2:∀e,PSs (X.hot e) (b2::cJ) (ju e)) (hS:X.stack=X.env::X.outer:=by rfl) (hF:X.env.frame=some X.env.locals:=by rfl) (hd1:(c1 == ("__debug__":Str))=false:=by decide) (hd2:(c2 == ("__debug__":Str))=false:=by decide) :
  PS X (.Try body [.ExceptHandler (some (.Name c1 cp1)) (some n) (b1::cK) hV,.ExceptHandler (some (.Name c2 cp2)) (some n) (b2::cJ) hU] [] [] pos) (zQC X.K C1 C2 i tb jv ju):=by
 intro pins s σ H D I h;refine wpAny_Try_except (wHH (hb pins s σ H D _ I h) (λfl s1 q=>?_) λev s1 q=>?_)
 ·cases fl with
  | next=>exact wpAny_execs_nil q
  | ret v=>exact q
  | brk=>exact q
  | cont=>exact q
 obtain⟨σ1,H1,s0,I1,e,T,cls,dd,H',rfl,os,bare,un,hok,x,ne,nT,he,hT,iL⟩:=q;have I1':=I1.call' (ch:=[]) os un hok bare (λb z=>nomatch z);have old:∀b,s1.heap.get? b=none->s0.heap.get? b=none:=λb z=>by
  cases y:s0.heap.get? b with
  | none=>rfl
  | some o=>obtain⟨o',h'⟩:=un.there b o y (λz=>nomatch z);rw[z] at h';cases h'
 have held:∀(h':Heap) (T':Addr) (fl:Value),s1.heap.get? T'=none->Moved (frs X.stack) [e,T,T'] s1.heap h'->zDM h' e T' cls dd fl->Inv X pins σ1 (upd H' e (zFL e cls dd)) { s1 with heap:=h' }:=λh' T' fl nT' mv x'=>by
  refine I1.call' (ch:=[]) os ((un.moved mv (λb o eb z=>?_) λ_ _ _ z=>z).put ne he) ((hok.moved mv λb o eb=>⟨λz=>?_,λz=>?_⟩).put he (zFL.ok x')) bare (λb z=>nomatch z)
  ·simp at z;rcases z with z | z | z
   ·rw[z,ne] at eb;cases eb
   ·rw[z,nT] at eb;cases eb
   rw[z,old T' nT'] at eb;cases eb
  ·rw[I1'.stkFree b z] at eb;cases eb
  simp at z;rcases z with z | z | z
  ·rw[z,he] at eb;cases eb
  ·rw[z,hT] at eb;cases eb
  rw[z,zC7 hok nT'] at eb;cases eb
 have frames:X.A.frames=some (X.env::X.outer):=by rw[← hS];exact I.ok.frames
 have stack:s1.heap.FunFrames X.base (X.env::X.outer):=by rw[← hS];exact I1'.stack
 refine zKF frames stack hF x λh2 T' m2 n2 x2=>zEV (s:={ s1 with heap:=h2 }) x2 λh3 m3 x3=>?_;have m2':Moved (frs X.stack) [e,T,T'] s1.heap h2:=by rw[hS];exact m2.mono (λ_ z=>z) λb z=>by simp at z;rcases z with z | z<;>simp[z]
 have ma:Moved (frs X.stack) [e,T,T'] s1.heap h3:=m2'.trans (m3.mono (λ_ z=>nomatch z) λb z=>by simp at z;simp[z]);have I3:=held h3 T' .none n2 ma x3;have lt:PySem.W.Looks (model X.prog X.w) h3 (typeOf (.ref e)) cls:=by obtain⟨oe,vs,oT,ts,g1,g2,_⟩:=x3;exact g2 ▸ (PySem.W.Looks.ld g1).andThen .now
 refine wpAny_handleBy_cons (codeAny_handlers_test (zBP (X:=X.hot e) I3.hot hg1 hm1 ?_ hd1)) (by intro z;cases z);rcases iL with ⟨mS,m6⟩ | ⟨mO,mS,m6⟩
 ·refine (W.exm_one I3.kIn lt mS).at ?_;show codeAny _ _ _ _ _;refine codeAny_handlers_suite_as (zEV (s:={ s1 with heap:=h3 }) x3 λh4 m4 x4=>?_);have I4:=held h4 T' .none n2 (ma.trans (m4.mono (λ_ z=>nomatch z) λb z=>by simp at z;simp[z])) x4;refine zCY (X:=X.hot e) (v:=.ref e) I4.hot hN hi (.inl hn) rfl (λs5 I5=>?_) (.inr hn);refine wHH (hh1 e pins s5 _ _ _ I5 (m6 e he)) (λfl s6 q=>?_) λ_ _ z=>z.elim;cases fl with
  | next=>
   obtain⟨σ6,H6,I6,q6⟩:=q;exact zC2 (I6.cool I.ok) hN hi hn λs7 I7=>⟨_,H6,I7,q6⟩
  | ret v=>
   obtain⟨v6,σ6,H6,I6,r6,q6⟩:=q;exact zC2 (I6.cool I.ok) hN hi hn λs7 I7=>⟨v6,_,H6,I7,r6,q6⟩
  | brk=>
   obtain⟨σ6,H6,I6,q6⟩:=q;exact zC2 (I6.cool I.ok) hN hi hn λs7 I7=>⟨_,H6,I7,q6⟩
  | cont=>
   obtain⟨σ6,H6,I6,q6⟩:=q;exact zC2 (I6.cool I.ok) hN hi hn λs7 I7=>⟨_,H6,I7,q6⟩
 refine (W.exm_one I3.kIn lt mO).at ?_;show wpAny _ _ _ _ _ _;refine wpAny_handleBy_cons (codeAny_handlers_test (zBP (X:=X.hot e) I3.hot ni mV ?_ hd2)) (by intro z;cases z);refine (W.exm_one I3.kIn lt mS).at ?_;show codeAny _ _ _ _ _;refine codeAny_handlers_suite_as (zEV (s:={ s1 with heap:=h3 }) x3 λh4 m4 x4=>?_);have I4:=held h4 T' .none n2 (ma.trans (m4.mono (λ_ z=>nomatch z) λb z=>by simp at z;simp[z])) x4;refine zCY (X:=X.hot e) (v:=.ref e) I4.hot hN hi (.inl hn) rfl (λs5 I5=>?_) (.inr hn);refine wHH (hh2 e pins s5 _ _ _ I5 (m6 e he)) (λfl s6 q=>?_) λ_ _ z=>z.elim;cases fl with
 | next=>
  obtain⟨σ6,H6,I6,q6⟩:=q;exact zC2 (I6.cool I.ok) hN hi hn λs7 I7=>⟨_,H6,I7,q6⟩
 | ret v=>
  obtain⟨v6,σ6,H6,I6,r6,q6⟩:=q;exact zC2 (I6.cool I.ok) hN hi hn λs7 I7=>⟨v6,_,H6,I7,r6,q6⟩
 | brk=>
  obtain⟨σ6,H6,I6,q6⟩:=q;exact zC2 (I6.cool I.ok) hN hi hn λs7 I7=>⟨_,H6,I7,q6⟩
 | cont=>
  obtain⟨σ6,H6,I6,q6⟩:=q;exact zC2 (I6.cool I.ok) hN hi hn λs7 I7=>⟨_,H6,I7,q6⟩
end
open PySem.Builtin.Tuple (tupleHashOf tupleItemsOf)
structure VKind (prog:Program) (w:World) (K:Type) [DecidableEq K] where
 is:Heap->K->Value->Prop
 hash:K->Int
 draws:K->Nat
 deep:Nat
 inj:∀{h:Heap} {v:Value} {x y:K},is h x v->is h y v->x=y
 keeps:∀{h h':Heap} {k:K} {v:Value} {d:Addr} {o:Obj} {es ep},is h k v->h.get? d=some o->o.data=.dict es ep->Heap.SameBut d h h'->is h' k v
 pyHash:∀{A:Around} {E:Value->Shared->Prop} {s:Shared} {k:K} {v:Value} {Q:Int->Shared->Prop},A.units+deep < cLine->is s.heap k v->Q (hash k) { s with toks:=s.toks+draws k }->
  wpAny (model prog w) A (PySem.pyHash v) Q E s
 eqBool:∀{A:Around} {E:Value->Shared->Prop} {s:Shared} {x y:K} {u v:Value} {Q:Bool->Shared->Prop},A.units+deep < cLine->is s.heap x u->is s.heap y v->Q (decide (x=y)) s->
  wpAny (model prog w) A (PySem.eqBool u v) Q E s
 quiet:∀{A:Around} {E:Value->Shared->Prop} {s:Shared} {k:K} {v:Value} {n:Nat} {Q:Bool->Shared->Prop},deep<=n->is s.heap k v->Q true s->wpAny (model prog w) A (eqIsQuiet n v) Q E s
section
variable {prog:Program} {w:World} {K:Type} [DecidableEq K]
def VKind.of (knd:PySem.KeyKind prog w K):VKind prog w K where
 is:=λ_ k v=>knd.is k v=true
 hash:=knd.hash
 draws:=λ_=>1
 deep:=0
 inj:=λhx hy=>knd.inj _ _ _ hx hy
 keeps:=λx _ _ _=>x
 pyHash:=λ_ x q=>knd.pyHash x q
 eqBool:=λ_ x y q=>knd.eqBool x y q
 quiet:=λ{A E s k v n Q} _ x q=>by rw[eqIsQuiet_byValue n (knd.byValue k v x)];exact wHk q
variable (vk:VKind prog w K)
inductive Mems (h:Heap):List K->List Value->Prop
 | nil:Mems h [] []
 | cons {k:K} {v:Value} {ks:List K} {vs:List Value}:vk.is h k v->Mems h ks vs->Mems h (k::ks) (v::vs)
def zRk (h:Heap) (ks:List K) (v:Value):Prop:=∃(a:Addr) (o:Obj) (its:Array Value) (n:Nat),v=.ref a/\h.get? a=some o/\o.cls=.type "tuple"/\o.data=.seq its n/\Mems vk h ks its.toList
variable {vk}
def Mems.one {h:Heap}:∀{x y:List K} {vs:List Value},Mems vk h x vs->Mems vk h y vs->x=y
 | _,_,_,.nil,.nil=>rfl
 | _,_,_,.cons a b,.cons c d=>by rw[vk.inj a c,b.one d]
theorem Mems.keep {h h':Heap} {d:Addr} {o:Obj} {es ep} (e1:h.get? d=some o) (e2:o.data=.dict es ep) (e3:Heap.SameBut d h h'):∀{x:List K} {vs:List Value},Mems vk h x vs->Mems vk h' x vs
 | _,_,.nil=>.nil
 | _,_,.cons a b=>.cons (vk.keeps a e1 e2 e3) (b.keep e1 e2 e3)
def zMu {h h':Heap} {a d:Addr} {o o':Obj} {es ep} {its:Array Value} {n:Nat} (q:h.get? a=some o') (q2:o'.data=.seq its n) (e1:h.get? d=some o) (e2:o.data=.dict es ep) (e3:Heap.SameBut d h h'):h'.get? a=some o':=by
 have ne:a≠d:=λz=>by subst z;rw[q] at e1;rw[wHo e1,e2] at q2;cases q2
 rw[e3.2 a ne];exact q
variable {A:Around} {E:Value->Shared->Prop} {s:Shared}
def zMD {a:Addr} {o:Obj} {its:Array Value} {n:Nat} {hs:List Int} {tk:Nat} {Q:Int->Shared->Prop} (hu:A.units < cLine) (ho:s.heap.get? a=some o) (hc:o.cls=.type "tuple") (hd:o.data=.seq its n)
  (zPe:∀(b0:Array Int) (R:Array Int->Shared->Prop),(∀b:Array Int,b.toList=b0.toList++hs->R b { s with toks:=s.toks+tk })->∀F:Value->Array Int->Sem (ForInStep (Array Int)),(∀v b R' E' s',wpAny (model prog w) A.in1 (PySem.pyHash v) (λi s2=>R' (.yield (b.push i)) s2) E' s'->wpAny (model prog w) A.in1 (F v b) R' E' s')->wpAny (model prog w) A.in1 (forIn its.toList b0 F) R E s)
  (h:Q (reduceHash (tupleHashOf hs)) { s with toks:=s.toks+(tk+1) }):wpAny (model prog w) A (PySem.pyHash (.ref a)) Q E s:=by
 have hT:s.TypeIs (.ref a) "tuple":=⟨o,ho,hc⟩;unfold PySem.pyHash
 first | unfold pyHashByItsType | skip
 first | refine wHe (wpAny_cRoomFor_or (.inr hu) ?_) | skip
 refine wHe (wpAny_specialOf hT F.slot_tuple_hash.lookup ?_);show wpAny _ _ (if (some (Value.builtin "tuple.__hash__") == some Value.none)=true then _ else _) Q E s;rw[wHj (λz=>absurd (beq_builtin_none _ ▸ z) wHx)];refine wHe (wpAny_specialOf hT F.slot_tuple_hash.lookup ?_);show wpAny _ _ (callSpecialIfBoundUnlessNone? (.ref a) "__hash__" _ >>= _) Q E s;refine wHe (wpAny_callSpecialIfBoundUnlessNone?_slot hT F.slot_tuple_hash (wpAny_call_entry F.slot_tuple_hash hT F.entry_tuple_hash ?_ (F.args_tuple_hash_1 _)));show wpAny _ _ (tupleItemsOf (.ref a) >>= _) _ _ s;refine wHe (wpAny_tupleItemsOf ho hd (wHe ?_));rw[← Array.forIn_toList];refine zPe _ _ (λb hb=>?_) _ λv b R' E' s' k=>?_
 ·have n6:b.toList=hs:=by rw[hb];simp
  show wpAny _ _ (retInt (tupleHashOf b.toList)) _ _ _;rw[n6];refine wpAny_ret_mkInt ?_;show wpAny _ _ (if (decide (-(2:Int) ^ 63<=tupleHashOf hs) && decide (tupleHashOf hs < 2 ^ 63))=true then _ else _) Q E _;unfold reduceHash at h
  split at h
  ·rename_i c
   rw[wHl c];exact wHk (by simpa [Nat.add_assoc] using h)
  rename_i c
  rw[wHj c];exact wHe (wpAny_rule (wHk (by simpa [Nat.add_assoc] using h)))
 exact wHe (wHH k (λ_ _ z=>by first | exact wHk z | exact wHe (wHk (wHk z))) λ_ _ z=>z)
theorem zGY {F:Value->Array Int->Sem (ForInStep (Array Int))} (hF:∀v b R' E' s',wpAny (model prog w) A (PySem.pyHash v) (λi s2=>R' (.yield (b.push i)) s2) E' s'->wpAny (model prog w) A (F v b) R' E' s') (hu:A.units+vk.deep < cLine) :
  ∀{ks:List K} {vs:List Value} {s:Shared} {b0:Array Int} {R:Array Int->Shared->Prop},Mems vk s.heap ks vs->(∀b:Array Int,b.toList=b0.toList++ks.map vk.hash->R b { s with toks:=s.toks+(ks.map vk.draws).sum })->wpAny (model prog w) A (forIn vs b0 F) R E s
 | _,_,s,b0,R,.nil,h=>by rw[List.forIn_nil];exact wHk (h b0 (by simp))
 | _,_,s,b0,R,@Mems.cons _ _ _ _ _ _ k v ks vs a r,h=>by rw[List.forIn_cons];refine wHe (hF _ _ _ _ _ (vk.pyHash hu a ?_));refine zGY hF hu (s:={ s with toks:=s.toks+vk.draws k }) r λb hb=>?_;have q:=h b (by rw[hb,Array.toList_push,wIg,wHU];rfl);rw[wIg,List.sum_cons,← Nat.add_assoc] at q;exact q
def zNs (x:Value × Value) (_:Option Fin × Unit):Sem (ForInStep (Option Fin × Unit)):=do
 let c ← PySem.eqBool x.1 x.2
 if (!c)=true then do
  let r ← ret (Value.bool false)
  pure (ForInStep.done (some r,PUnit.unit))
 else pure (ForInStep.yield (none,PUnit.unit))
def zQl {a b:Addr} {oa ob:Obj} {xs ys:Array Value} {na nb:Nat} {r z:Bool} {Q:Bool->Shared->Prop} (hu:A.units < cLine) (ha:s.heap.get? a=some oa) (hca:oa.cls=.type "tuple") (dM:oa.data=.seq xs na)
  (hb:s.heap.get? b=some ob) (hcb:ob.cls=.type "tuple") (cA:ob.data=.seq ys nb) (same:a=b->r=true) (hr:r=(z && (xs.size == ys.size)))
  (zPe:∀R:Option Fin × Unit->Shared->Prop,(z=true->R (none,PUnit.unit) s)->(z=false->R (some (.done (.ret (.bool false))),PUnit.unit) s)->wpAny (model prog w) A.in1 (forIn (List.zip xs.toList ys.toList) (none,PUnit.unit) zNs) R E s)
  (h:Q r s):wpAny (model prog w) A (PySem.eqBool (.ref a) (.ref b)) Q E s:=by
 have hTa:s.TypeIs (.ref a) "tuple":=⟨oa,ha,hca⟩;have hTb:s.TypeIs (.ref b) "tuple":=⟨ob,hb,hcb⟩;unfold PySem.eqBool
 try with_reducible refine wHZ ?_
 show wpAny _ _ (if (Value.ref a == Value.ref b)=true then _ else _) Q E s;by_cases jX:(Value.ref a == Value.ref b)=true
 ·rw[wHl jX];have e:a=b:=Value.ref.inj (eq_of_beq jX);rw[same e] at h;exact wHe (wpAny_rule (wHk h))
 rw[wHj jX];refine wHe (wpAny_richCompare_same_room (op:=.Eq) hTa hTb F.slot_tuple_eq (wpAny_call_entry F.slot_tuple_eq hTa F.entry_tuple_eq ?_ (F.args_tuple_eq_2 _ _)) hu);have fin:∀k:Bool,k=r->∃v,Fin.done (.ret (Value.bool k))=.done (.ret v)/\v≠.notImplemented/\wpAny (model prog w) A (truthOfDropped v) Q E s:=λk e=>⟨_,rfl,(λe=>nomatch e),wpAny_truthy_bool (by rw[e];exact h)⟩;show wpAny _ _ (isInstance (.ref b) (.type "tuple") >>= _) _ _ s;refine wHe (wpAny_isInstance hTb isSubtype_tuple_tuple ?_);simp only[Bool.not_true,Bool.false_eq_true,if_false];refine wHe (wpAny_tupleItemsOf ha dM ?_);refine wHe (wpAny_tupleItemsOf hb cA (wHe ?_));refine zPe _ (λe=>?_) λe=>?_
 ·show wpAny _ _ (pure (Fin.done (.ret (.bool (xs.size == ys.size)))):Sem Fin) _ _ _;exact wHk (fin _ (by rw[hr,e];rfl))
 exact wHk (fin _ (by rw[hr,e];rfl))
def zq:List K->List K->Bool
 | k::ks,j::js=>decide (k=j) && zq ks js
 | _,_=>true
theorem zPb:∀{x y:List K},decide (x=y)=(zq x y && (x.length == y.length))
 | [],[]=>by simp[zq]
 | [],_::_=>by simp[zq]
 | _::_,[]=>by simp[zq]
 | k::ks,j::js=>by
  have ih:=zPb (x:=ks) (y:=js);by_cases e:k=j
  ·subst e;rw[show zq (k::ks) (k::js)=zq ks js by simp[zq],show ((k::ks).length == (k::js).length)=(ks.length == js.length) by simp,← ih];simp
  simp[zq,e]
theorem zKJ (hu:A.units+vk.deep < cLine):∀{x y:List K} {us vs:List Value} {R:Option Fin × Unit->Shared->Prop},Mems vk s.heap x us->Mems vk s.heap y vs->(zq x y=true->R (none,PUnit.unit) s)->(zq x y=false->R (some (.done (.ret (.bool false))),PUnit.unit) s)->
  wpAny (model prog w) A (forIn (List.zip us vs) (none,PUnit.unit) zNs) R E s
 | _,_,_,_,R,.nil,_,h,_=>by rw[List.zip_nil_left,List.forIn_nil];exact wHk (h rfl)
 | _,_,_,_,R,.cons _ _,.nil,h,_=>by rw[List.zip_nil_right,List.forIn_nil];exact wHk (h rfl)
 | _,_,_,_,R,@Mems.cons _ _ _ _ _ _ k1 v1 ks1 vs1 a r,@Mems.cons _ _ _ _ _ _ k2 v2 ks2 vs2 b q,h,h'=>by
  rw[List.zip_cons_cons,List.forIn_cons];refine wHe (wHe (vk.eqBool hu a b ?_));by_cases e:k1=k2
  ·rw[wHM e];refine wHk ?_;refine zKJ hu r q (λz=>h ?_) λz=>h' ?_
   ·simp[zq,e,z]
   simp[zq,e,z]
  rw[wHJ e];refine wHe (wHk (wHk ?_));exact wHk (h' (by simp[zq,e]))
def Mems.length {h:Heap}:∀{x:List K} {vs:List Value},Mems vk h x vs->x.length=vs.length
 | _,_,.nil=>rfl
 | _,_,.cons _ b=>by rw[wIe,wIe,b.length]
theorem zKr {a:Addr} {o:Obj} {its:Array Value} {n k:Nat} {Q:Bool->Shared->Prop} (ho:s.heap.get? a=some o) (hc:o.cls=.type "tuple") (hd:o.data=.seq its n)
  (each:∀v∈its.toList,∀R:Bool->Shared->Prop,R true s->wpAny (model prog w) A (eqIsQuiet k v) R E s) (h:Q true s):wpAny (model prog w) A (eqIsQuiet (k+1) (.ref a)) Q E s:=by
 have hT:s.TypeIs (.ref a) "tuple":=⟨o,ho,hc⟩;unfold eqIsQuiet;refine wHe (wpAny_specialOf hT F.slot_tuple_eq.lookup ?_);show wpAny _ _ (isInstance (.ref a) (.type "tuple") >>= _) _ _ s;refine wHe (wpAny_isInstance hT isSubtype_tuple_tuple ?_);simp only[Bool.not_true,Bool.false_eq_true,if_false];refine wHe (wpAny_seqItems ho hd (wHe ?_));show wpAny _ _ (forIn its _ _) _ _ s;rw[← Array.forIn_toList];refine wpAny_forIn_list _ (λrest r s'=>r.1=none/\s'=s/\∀v∈rest,v∈its.toList) _ ?_ ?_ _ _ ⟨rfl,rfl,λv hv=>hv⟩
 ·rintro v rest r s' ⟨hr,rfl,eL⟩;refine wHe (each v (eL v wH5) _ ?_);simp only[Bool.not_true,Bool.false_eq_true,if_false];exact wHk ⟨rfl,rfl,λu hu'=>eL u (wHP _ hu')⟩
 rintro⟨r1,r2⟩ s' ⟨hr,rfl,_⟩;cases hr;exact wHk h
def Mems.each {h:Heap}:∀{x:List K} {vs:List Value},Mems vk h x vs->∀v∈vs,∃k,vk.is h k v
 | _,_,.nil,v,hv=>nomatch hv
 | _,_,.cons a b,v,hv=>by
  rcases wID hv with z | z
  ·subst z;exact⟨_,a⟩
  exact b.each v z
def VKind.seq (vk:VKind prog w K):VKind prog w (List K) where
 is:=λh ks v=>zRk vk h ks v
 hash:=λks=>reduceHash (tupleHashOf (ks.map vk.hash))
 draws:=λks=>(ks.map vk.draws).sum+1
 deep:=vk.deep+1
 inj:=by rintro h v x y ⟨a,o,its,n,rfl,e1,_,e3,m⟩ ⟨a',o',its',n',ea,eQ,_,fh,m'⟩;cases ea;rw[e1] at eQ;cases eQ;rw[e3] at fh;cases fh;exact m.one m'
 keeps:=by rintro h h' k v d o es ep ⟨a,o2,its,n,rfl,e1,e2,e3,m⟩ g1 g2 g3;exact⟨a,o2,its,n,rfl,zMu e1 e3 g1 g2 g3,e2,e3,m.keep g1 g2 g3⟩
 pyHash:=by rintro A E s k v Q hu ⟨a,o,its,n,rfl,e1,e2,e3,m⟩ q;exact zMD ∅ e1 e2 e3 (λb0 R hR F hF=>zGY hF (by rw[Around.in1_units];omega) m hR) q
 eqBool:=by
  rintro A E s x y u v Q hu ⟨a,o,its,n,rfl,e1,e2,e3,m⟩ ⟨a',o',its',n',rfl,eQ,gG,fh,m'⟩ q;refine zQl (z:=zq x y) ∅ e1 e2 e3 eQ gG fh (λe=>?_) ?_ (λR h1 h2=>zKJ (by rw[Around.in1_units];omega) m m' h1 h2) q
  ·subst e;rw[e1] at eQ;cases eQ;rw[e3] at fh;cases fh;exact wHM (m.one m')
  rw[zPb,m.length,m'.length];simp
 quiet:=by rintro A E s k v n Q hd ⟨a,o,its,n',rfl,e1,e2,e3,m⟩ q;obtain⟨j,rfl⟩:∃j,n=j+1:=⟨n-1,by omega⟩;exact zKr e1 e2 e3 (λv hv R hR=>let ⟨k,hk⟩:=m.each v hv;vk.quiet ∅ hk hR) q
end
abbrev NK:=Str × List (List Int)
def zOW (H:Hp) (k:NK) (a:Addr):Prop:=∃(b:Addr) (cs:List Addr),H a=some (.tup [.str k.1,.ref b])/\H b=some (.tup (cs.map V.ref))/\cs.length=k.2.length/\∀(i:Nat) c w,cs[i]?=some c->k.2[i]?=some w->H c=some (.tup (w.map V.int))
def zOW.same {H H':Hp} {k:NK} {a:Addr} (x:zOW H k a) (s:zAh H H'):zOW H' k a:=let ⟨b,cs,h1,h2,h3,h4⟩:=x;⟨b,cs,s _ _ h1,s _ _ h2,h3,λi c w e1 e2=>s _ _ (h4 i c w e1 e2)⟩
section
variable {X:Cx}
def zL0 (K:W.Frag) (hc:X.calm=true) (h:X.K=K:=by rfl):zB7 X (.builtin "all") (λxs H Q=>RAll K xs H Q):=by subst h;exact zMP hc
def zAy (K:W.Frag) (h:X.K=K:=by rfl):zB7 X (.builtin "isinstance") (λxs H Q=>RIsI K xs H Q):=by subst h;exact zIq
def zDv (K:W.Frag) (h:X.K=K:=by rfl):zB7 X (.type "list") (λxs H Q=>RListOf K xs H Q):=by subst h;exact zHs
def zAA (K:W.Frag) {l i:Expr} {tl ti:TE} {at_:Pos} (hl:PE X l tl) (hi:PE X i ti) (hp:zIt i:=by intro _ _;rfl) (hK:X.K=K:=by rfl):PE X (.Subscript l i at_) (tOp (zQ1 K) tl ti):=zJj (zM9 K hK) hl hi hp
def zBr (K:W.Frag) {l i:Expr} {tl ti:TE} {at_:Pos} (hl:PE X l tl) (hi:PE X i ti) (hp:zIt i:=by intro _ _;rfl) (hK:X.K=K:=by rfl):PE X (.Subscript l i at_) (tOp (zQR K) tl ti):=zJj (zO8 K hK) hl hi hp
def zAF {n:Str} {v:Expr} {tv:TE} {p q:Pos} (i:Nat) (nd:X.N.Nodup) (hv:PE X v tv) (hi:X.N[i]?=some n:=by rfl) (hw:swapsWith v (some (.Name n q)) p.line X.env=pure false:=by rfl) (hl:X.env.scope.names.lookup n=some .local:=by rfl):PS X (.Assign [.Name n q] v p) (zQL tv (zIm i)):=zBe nd hi (.inl hl) hv hw (.inr hl)
def cal {n q:Str} {st:Stmt} {f:Addr} {fd:FuncData} {ps:List Str} {sp:Sp} {j k:Nat} {a:Expr} {as:List Expr} {t:TA} {p r:Pos} (F:FnOk X.prog X.w X.K X.mg X.base CX0 j f fd ps sp) (hr:Room k X.A) (hm:X.mg n=some (.ref f)) {n':Str} (G:Fun X.K n' q st f fd) (hb:zAc X.K fd ps []) (ha:PA X (a::as) t) (hj:j<=k:=by decide) (hg:Gl X n:=by rfl) (hd:(n == ("__debug__":Str))=false:=by decide)
  (he:starEach (a::as) X.env=(false,eval a X.env)::starEach as X.env:=by rfl) (hq:(backTo r (starEach as X.env)).any (·.1)=false:=by rfl):PE X (.Call (.Name n p) (a::as) [] r) (zPr sp [] E0 t):=zAR (F.mono hj) hr hg hm G.kp hb .nil zCT ha hd he hq
end
def ndB {N:List Str} (h:decide N.Nodup=true:=by kernel_rfl):N.Nodup:=wHw h
abbrev zAn (K:W.Frag) (x:Str) (st:Stmt) (a:Addr) (d:FuncData):Prop:=Fun K x x st a d
#print Builtin.Str.subAt
end L2
namespace Pf
set_option maxHeartbeats 4000000
open PySem L2
theorem szl {n:Nat} (h:Nat.ble n 1000=true:=by rfl):n<=sizeLine:=Nat.le_trans (Nat.le_of_ble_eq_true h) ⋯
local macro_rules
 | `(tactic| bv_omega)=>`(tactic| (refine sz _ (wHv (m:=9000000) ?_ (by decide));repeat (first | with_reducible exact zOK | (with_reducible refine zR2 (k:=1000) ?_ (by first | with_reducible assumption | decide +kernel)) | (with_reducible refine zR2 (k:=1000002) ?_ (by with_reducible assumption)))))
def top (i:Nat):Stmt:=PySem.Challenge.pw_roundcede_k46_whole_large_books.main.body.getD i (.Pass ⟨0,0,0,0⟩)
abbrev zBB:Stmt:=zBG (top 10) 0
abbrev zBJ:Stmt:=top 16
abbrev zE9:Stmt:=top 17
abbrev zCM:Stmt:=top 18
abbrev zCv:Stmt:=top 24
abbrev zCg:Stmt:=top 25
abbrev zCQ:Stmt:=top 26
abbrev zBK:Stmt:=top 27
abbrev zD6:Stmt:=top 29
abbrev zBl:Stmt:=top 31
abbrev zFY:Stmt:=top 32
abbrev zHP:Stmt:=top 33
abbrev zHL:Stmt:=top 34
abbrev zKc:Stmt:=top 35
abbrev zKe:Stmt:=top 37
abbrev zFW:Stmt:=top 38
abbrev zE5:Stmt:=top 39
abbrev zCO:Stmt:=top 41
abbrev zD8:Stmt:=top 42
abbrev zCu:Stmt:=top 43
abbrev zDA:Stmt:=top 44
abbrev zFX:Stmt:=top 45
abbrev zE4:Stmt:=top 49
abbrev zE3:Stmt:=top 50
abbrev zHQ:Stmt:=top 51
abbrev zCf:Stmt:=top 52
abbrev zCL:Stmt:=top 53
abbrev zBA:Stmt:=top 55
abbrev zHT:Stmt:=top 56
abbrev zCj:Stmt:=zBG (top 66) 0
abbrev zCi:Stmt:=zBG (top 66) 1
abbrev zCx:Stmt:=zBG (top 66) 2
abbrev zCy:Stmt:=zBG (top 66) 5
abbrev zCS:Stmt:=zBG (top 66) 6
abbrev zB1:Stmt:=zBG (top 66) 9
abbrev zCR:Stmt:=zBG (top 66) 11
abbrev zCw:Stmt:=zBG (top 66) 12
abbrev zCh:Stmt:=zBG (top 66) 13
abbrev zCz:Stmt:=zBG (top 66) 14
abbrev zQP:Stmt:=top 68
abbrev zHS:Stmt:=top 69
abbrev zE8:Stmt:=top 70
abbrev zQO:Stmt:=top 71
abbrev zKd:Stmt:=top 72
abbrev zGa:Stmt:=top 73
abbrev zJY:Stmt:=top 74
abbrev zKg:Stmt:=top 75
abbrev zOb:Stmt:=top 76
abbrev zE6:Stmt:=top 77
abbrev zHK:Stmt:=top 78
abbrev zFV:Stmt:=top 79
abbrev zHM:Stmt:=top 80
abbrev zOa:Stmt:=top 81
abbrev zD7:Stmt:=top 82
abbrev zCP:Stmt:=top 83
abbrev zHR:Stmt:=top 84
abbrev zE7:Stmt:=top 85
abbrev zKb:Stmt:=top 86
abbrev zD9:Stmt:=top 87
abbrev zKa:Stmt:=top 88
abbrev zHO:Stmt:=top 89
abbrev zNY:Stmt:=top 90
abbrev zJZ:Stmt:=top 91
abbrev zCN:Stmt:=top 92
abbrev zFZ:Stmt:=top 93
abbrev zKf:Stmt:=top 94
abbrev zHN:Stmt:=top 95
abbrev zNZ:Stmt:=top 96
def zEf:FnScope ["self","day","names"] ["self","day","names"] (zL zBB):=by and_intros
def zBj:FnScope ["spans","days","first","last"] ["spans"] (zL zBJ):=by and_intros
def zJg:FnScope ["spans","day"] ["spans","day"] (zL zE9):=by and_intros
def zBb:FnScope ["spans","firsts","behind","told","first","after"] ["spans"] (zL zCM):=by and_intros
def zDb:FnScope ["name","small"] ["name"] (zL zCv):=by and_intros
def zFo:FnScope ["number","least","most"] ["number","least","most"] (zL zCg):=by and_intros
def zGG:FnScope ["day"] ["day"] (zL zCQ):=by and_intros
def zE1:FnScope ["amount"] ["amount"] (zL zBK):=by and_intros
def zHH:FnScope ["names","name"] ["names","name"] (zL zD6):=by and_intros
def zAN:FnScope ["one","two","rest"] ["one","two"] (zL zBl):=by and_intros
def zEy:FnScope ["top","bottom","divisor"] ["top","bottom"] (zL zFY):=by and_intros
def zLU:FnScope ["one","two"] ["one","two"] (zL zHP):=by and_intros
def zLT:FnScope ["one","two"] ["one","two"] (zL zHL):=by and_intros
def zNV:FnScope ["one","two"] ["one","two"] (zL zKc):=by and_intros
def zE0:FnScope ["count","ways","rests","giver","taker","part"] ["count","ways"] (zL zKe):=by and_intros
def zCt:FnScope ["marks","steps","reached","turn","before","behind"] ["marks","steps"] (zL zFW):=by and_intros
def zD5:FnScope ["count","ways","marks","free"] ["count","ways"] (zL zE5):=by and_intros
def zBd:FnScope ["count","ways","start","rows","place","giver","taker","part"] ["count","ways","start"] (zL zCO):=by and_intros
def zCb:FnScope ["row","divisor","number"] ["row"] (zL zD8):=by and_intros
def zBk:FnScope ["rows","place","own","told","other","row"] ["rows","place"] (zL zCu):=by and_intros
def zCd:FnScope ["count","ways","start","rows","place"] ["count","ways","start"] (zL zDA):=by and_intros
def zGF:FnScope ["count","ways","start","rests"] ["count","ways","start"] (zL zFX):=by and_intros
def zJe:FnScope ["names","pacts"] ["names","pacts"] (zL zE4):=by and_intros
def zJd:FnScope ["names","pacts","day"] ["names","pacts","day"] (zL zE3):=by and_intros
def zFT:FnScope ["names","pacts","ways","spans"] ["names","pacts"] (zL zHQ):=by and_intros
def zFn:FnScope ["names","giver","taker","part","first","last"] ["names","giver","taker","part","first","last"] (zL zCf):=by and_intros
def zAI:FnScope ["names","pacts","new","days","giver","day","ways","found"] ["names","pacts","new"] (zL zCL):=by and_intros
def zAY:FnScope ["rests","places","best","place"] ["rests","places"] (zL zBA):=by and_intros
def zCc:FnScope ["amount","parts","due","told","rests","waiting","turn","place"] ["amount","parts"] (zL zHT):=by and_intros
def zFq:FnScope ["self"] ["self"] (zL zCj):=by and_intros
def zFp:FnScope ["self"] ["self"] (zL zCi):=by and_intros
def zFU:FnScope ["self"] ["self"] (zL zCx):=by and_intros
def zDc:FnScope ["self","name","names"] ["self","name"] (zL zCy):=by and_intros
def zGI:FnScope ["self","giver","taker","part","first","last"] ["self","giver","taker","part","first","last"] (zL zCS):=by and_intros
def zBS:FnScope ["self","new","whom"] ["self","new"] (zL zB1):=by and_intros
def zGH:FnScope ["self","day"] ["self","day"] (zL zCR):=by and_intros
def zCe:FnScope ["self","house","day","names","start"] ["self","house","day"] (zL zCw):=by and_intros
def zBI:FnScope ["self","house","day","names","start"] ["self","house","day"] (zL zCh):=by and_intros
def zDd:FnScope ["self","house","day","amount","parts"] ["self","house","day","amount"] (zL zCz):=by and_intros
def zQN:FnScope ["_law_script","_law_k"] ["_law_script","_law_k"] (zL zQP):=by and_intros
def zCa:FnScope ["_law_script","_law_many","_law_cells","_law_seed","_law_made_here","_law_k","_law_cell"] ["_law_script","_law_many"] (zL zHS):=by and_intros
def zAU:FnScope ["_law_draw","_law_count","_law_letters","_law_words","_law_made_here","_law_k","_law_tell","_law_size","_law_cut","_law_stem","_law_name"] ["_law_draw","_law_count"] (zL zE8):=by and_intros
def zHI:FnScope ["_law_pacts","_law_day","_law_made_here","_law_giver","_law_taker","_law_part","_law_first","_law_last"] ["_law_pacts","_law_day"] (zL zQO):=by and_intros
def zEz:FnScope ["_law_count","_law_ways","_law_keeps","_law_giver","_law_taker","_law_part"] ["_law_count","_law_ways"] (zL zKd):=by and_intros
def zBy:FnScope ["_law_count","_law_ways","_law_safe","_law_more","_law_giver","_law_taker","_law_part"] ["_law_count","_law_ways"] (zL zGa):=by and_intros
def zBY:FnScope ["_law_e","_law_flags","_law_words","_law_found","_law_good"] ["_law_e"] (zL zJY):=by and_intros
def zNX:FnScope ["_law_book","_law_row_here"] ["_law_book","_law_row_here"] (zL zKg):=by and_intros
def zF8:FnScope ["_law_book","_law_row_here","_law_told","_law_e"] ["_law_book","_law_row_here"] (zL zOb):=by and_intros
def zJf:FnScope ["_law_told","_law_word_here"] ["_law_told","_law_word_here"] (zL zE6):=by and_intros
def zLS:FnScope ["_law_found"] ["_law_found"] (zL zHK):=by and_intros
def zEx:FnScope ["_law_found","_law_due","_law_k","_law_j"] ["_law_found","_law_due"] (zL zFV):=by and_intros
def zI4:FnScope ["_law_found","_law_due","_law_k"] ["_law_found","_law_due"] (zL zHM):=by and_intros
def zF7:FnScope ["_law_one","_law_two","_law_big","_law_small","_law_rest"] ["_law_one","_law_two"] (zL zOa):=by and_intros
def zHJ:FnScope ["_law_found"] ["_law_found"] (zL zD7):=by and_intros
def zDP:FnScope ["_law_found","_law_count","_law_one"] ["_law_found","_law_count"] (zL zCP):=by and_intros
def zDa:FnScope ["_law_fractions_here","_law_low","_law_top","_law_bottom"] ["_law_fractions_here"] (zL zHR):=by and_intros
def zBc:FnScope ["_law_found","_law_count","_law_ways","_law_start","_law_low","_law_tops","_law_came","_law_giver","_law_taker","_law_part","_law_k"] ["_law_found","_law_count","_law_ways","_law_start"] (zL zE7):=by and_intros
def zJX:FnScope ["_law_top","_law_bottom","_law_by"] ["_law_top","_law_bottom"] (zL zKb):=by and_intros
def zE2:FnScope ["_law_paper","_law_count","_law_ways","_law_keeps"] ["_law_paper","_law_count","_law_ways"] (zL zD9):=by and_intros
def zJW:FnScope ["_law_found","_law_due","_law_k"] ["_law_found","_law_due"] (zL zKa):=by and_intros
def zBZ:FnScope ["_law_amount","_law_fractions_here","_law_low","_law_tops","_law_cut","_law_ranks","_law_rest","_law_k"] ["_law_amount","_law_fractions_here"] (zL zHO):=by and_intros
def zMZ:FnScope ["_law_found","_law_due","_law_k"] ["_law_found","_law_due"] (zL zNY):=by and_intros
def zFS:FnScope ["_law_draws_here","_law_pick","_law_low","_law_high","_law_spans"] ["_law_draws_here","_law_pick"] (zL zJZ):=by and_intros
def zAJ:FnScope ["_law_draws_here","_law_k","_law_count","_law_pacts","_law_ends","_law_pick","_law_giver","_law_taker","_law_rest","_law_part"] ["_law_draws_here","_law_k","_law_count","_law_pacts","_law_ends"] (zL zCN):=by and_intros
def zBR:FnScope ["_law_count","_law_pacts","_law_new","_law_days","_law_one","_law_day","_law_shut"] ["_law_count","_law_pacts","_law_new"] (zL zFZ):=by and_intros
def zNW:FnScope ["_law_told","_law_due","_law_names_here"] ["_law_told","_law_due","_law_names_here"] (zL zKf):=by and_intros
def zEm:FnScope ["_law_book","_law_names_here","_law_pacts","_law_start","_law_day","_law_ways","_law_paper","_law_due"] ["_law_book","_law_names_here","_law_pacts","_law_start","_law_day"] (zL zHN):=by and_intros
def zB9:FnScope ["_law_script","_law_draws_here","_law_count","_law_names_here","_law_book","_law_name","_law_pacts","_law_k","_law_ends","_law_new","_law_due","_law_told","_law_named","_law_day"] ["_law_script"] (zL zNZ):=by and_intros
set_option genInjectivity false in
set_option genSizeOf false in
structure Adr where
 (wAq wAK wCg wBj wA4 wAS wBl wAM wBM wAr wCS wDt wDv wEg wEi wCU wCi wBn wBO wA6 wBQ wBS wCk wCm wDx wAU wBp wAD wCD wAy wAX wA8 wBa wBr wAA wBt wBc wAZ wBe wGa wDA wDC wGc wEk wCX wEm wEo wFs wCo wDE wCZ wDG wFu wBT wBv wDI wCq wEq wBV wEs wDK wFw wEu wBx wC1 wEw wDM wFy:Addr)
 (wAC wAL wCh wBk wA5 wAT wBm wAN wBN wAs wCT wDu wDw wEh wEj wCV wCj wBo wBP wA7 wBR wCW wCl wCn wDy wAV wBq wAE wDz wAW wAY wA9 wBb wBs wAB wBu wBd wA0 wBf wGb wDB wDD wGd wEl wCY wEn wEp wFt wCp wDF wC0 wDH wFv wBU wBw wDJ wCr wEr wBW wEt wDL wFx wEv wBy wC2 wEx wDN wFz:FuncData)
 (wAv wAo wAk wAf wAn wAj wAe wAd wAa wAw wAp wAP wAc:Addr)
structure Txt (P:Program) (K:W.Frag) (mg:Str->Option Value) (t:Adr):Prop where
 tree:P.given.tree=none
 wDd:Fun K "__init__" "ShutIn.__init__" zBB t.wAq t.wAC
 wDe:zAc K t.wAC ["self","day","names"] []
 wGo:Meth K t.wAa "__init__" t.wAq
 wBD:zAn K "turning_days" zBJ t.wAK t.wAL
 wDO:zAc K t.wAL ["spans"] []
 wDP:mg "turning_days"=some (.ref t.wAK)
 wDW:zAn K "holding" zE9 t.wCg t.wCh
 wFM:zAc K t.wCh ["spans","day"] []
 wFN:mg "holding"=some (.ref t.wCg)
 wCI:zAn K "stretches" zCM t.wBj t.wBk
 wE2:zAc K t.wBk ["spans"] []
 wE3:mg "stretches"=some (.ref t.wBj)
 wCs:zAn K "check_name" zCv t.wA4 t.wA5
 wEy:zAc K t.wA5 ["name"] []
 wEz:mg "check_name"=some (.ref t.wA4)
 wAz:zAn K "check_range" zCg t.wAS t.wAT
 wA1:zAc K t.wAT ["number","least","most"] []
 wA2:mg "check_range"=some (.ref t.wAS)
 wAO:zAn K "check_day" zCQ t.wBl t.wBm
 wBz:zAc K t.wBm ["day"] []
 wBA:mg "check_day"=some (.ref t.wBl)
 wBE:zAn K "check_amount" zBK t.wAM t.wAN
 wDQ:zAc K t.wAN ["amount"] []
 wDR:mg "check_amount"=some (.ref t.wAM)
 wAu:zAn K "place_of" zD6 t.wBM t.wBN
 wAF:zAc K t.wBN ["names","name"] []
 wAG:mg "place_of"=some (.ref t.wBM)
 wAt:zAn K "greatest_divisor" zBl t.wAr t.wAs
 wAQ:zAc K t.wAs ["one","two"] []
 wAR:mg "greatest_divisor"=some (.ref t.wAr)
 wBg:zAn K "lowest" zFY t.wCS t.wCT
 wBX:zAc K t.wCT ["top","bottom"] []
 wBY:mg "lowest"=some (.ref t.wCS)
 wFf:zAn K "minus" zHP t.wDt t.wDu
 wGv:zAc K t.wDu ["one","two"] []
 wGw:mg "minus"=some (.ref t.wDt)
 wDS:zAn K "times" zHL t.wDv t.wDw
 wFg:zAc K t.wDw ["one","two"] []
 wFh:mg "times"=some (.ref t.wDv)
 wFO:zAn K "less" zKc t.wEg t.wEh
 wGM:zAc K t.wEh ["one","two"] []
 wGN:mg "less"=some (.ref t.wEg)
 wDf:zAn K "kept" zKe t.wEi t.wEj
 wEA:zAc K t.wEj ["count","ways"] []
 wEB:mg "kept"=some (.ref t.wEi)
 wEC:zAn K "spread" zFW t.wCU t.wCV
 wGe:zAc K t.wCV ["marks","steps"] []
 wGf:mg "spread"=some (.ref t.wCU)
 wDX:zAn K "shut_in" zE5 t.wCi t.wCj
 wFP:zAc K t.wCj ["count","ways"] []
 wFQ:mg "shut_in"=some (.ref t.wCi)
 wCJ:zAn K "loss_rows" zCO t.wBn t.wBo
 wE4:zAc K t.wBo ["count","ways","start"] []
 wE5:mg "loss_rows"=some (.ref t.wBn)
 wDg:zAn K "cut_down" zD8 t.wBO t.wBP
 wFA:zAc K t.wBP ["row"] []
 wFB:mg "cut_down"=some (.ref t.wBO)
 wCt:zAn K "strike_out" zCu t.wA6 t.wA7
 wED:zAc K t.wA7 ["rows","place"] []
 wEE:mg "strike_out"=some (.ref t.wA6)
 wBZ:zAn K "arrivals" zDA t.wBQ t.wBR
 wDh:zAc K t.wBR ["count","ways","start"] []
 wDi:mg "arrivals"=some (.ref t.wBQ)
 wEF:zAn K "shares" zFX t.wBS t.wCW
 wGg:zAc K t.wCW ["count","ways","start"] []
 wHa:mg "shares"=some (.ref t.wBS)
 wCu:zAn K "ways_of" zE4 t.wCk t.wCl
 wDY:zAc K t.wCl ["names","pacts"] []
 wDZ:mg "ways_of"=some (.ref t.wCk)
 wD0:zAn K "ways_on" zE3 t.wCm t.wCn
 wFR:zAc K t.wCn ["names","pacts","day"] []
 wFS:mg "ways_on"=some (.ref t.wCm)
 wFi:zAn K "looks" zHQ t.wDx t.wDy
 wGx:zAc K t.wDy ["names","pacts"] []
 wGy:mg "looks"=some (.ref t.wDx)
 wB7:zAn K "check_terms" zCf t.wAU t.wAV
 wD5:zAc K t.wAV ["names","giver","taker","part","first","last"] []
 wD6:mg "check_terms"=some (.ref t.wAU)
 wCK:zAn K "whom_shut" zCL t.wBp t.wBq
 wE6:zAc K t.wBq ["names","pacts","new"] []
 wE7:mg "whom_shut"=some (.ref t.wBp)
 wBi:zAn K "greatest_rest" zBA t.wAD t.wAE
 wDj:zAc K t.wAE ["rests","places"] []
 wDk:mg "greatest_rest"=some (.ref t.wAD)
 wFj:zAn K "coins" zHT t.wCD t.wDz
 wGz:zAc K t.wDz ["amount","parts"] []
 wHb:mg "coins"=some (.ref t.wCD)
 wD7:Fun K "__init__" "Book.__init__" zCj t.wAy t.wAW
 wD8:zAc K t.wAW ["self"] []
 wGL:Meth K t.wAc "__init__" t.wAy
 wD9:Fun K "houses" "Book.houses" zCi t.wAX t.wAY
 wAl:zAc K t.wAY ["self"] []
 wAm:Meth K t.wAc "houses" t.wAX
 wEG:Fun K "pacts" "Book.pacts" zCx t.wA8 t.wA9
 wAH:zAc K t.wA9 ["self"] []
 wAI:Meth K t.wAc "pacts" t.wA8
 wEH:Fun K "house" "Book.house" zCy t.wBa t.wBb
 wEI:zAc K t.wBb ["self","name"] []
 wEJ:Meth K t.wAc "house" t.wBa
 wE8:Fun K "pact" "Book.pact" zCS t.wBr t.wBs
 wE9:zAc K t.wBs ["self","giver","taker","part","first","last"] []
 wFa:Meth K t.wAc "pact" t.wBr
 wC3:Fun K "check_new" "Book.check_new" zB1 t.wAA t.wAB
 wC4:zAc K t.wAB ["self","new"] []
 wC5:Meth K t.wAc "check_new" t.wAA
 wFb:Fun K "ways" "Book.ways" zCR t.wBt t.wBu
 wCL:zAc K t.wBu ["self","day"] []
 wCM:Meth K t.wAc "ways" t.wBt
 wEK:Fun K "paper" "Book.paper" zCw t.wBc t.wBd
 wEL:zAc K t.wBd ["self","house","day"] []
 wEM:Meth K t.wAc "paper" t.wBc
 wEa:Fun K "shares" "Book.shares" zCh t.wAZ t.wA0
 wB8:zAc K t.wA0 ["self","house","day"] []
 wB9:Meth K t.wAc "shares" t.wAZ
 wEN:Fun K "coins" "Book.coins" zCz t.wBe t.wBf
 wEO:zAc K t.wBf ["self","house","day","amount"] []
 wEP:Meth K t.wAc "coins" t.wBe
 wGh:zAn K "_law_at" zQP t.wGa t.wGb
 wGO:zAc K t.wGb ["_law_script","_law_k"] []
 wGP:mg "_law_at"=some (.ref t.wGa)
 wFk:zAn K "_law_draws" zHS t.wDA t.wDB
 wGA:zAc K t.wDB ["_law_script","_law_many"] []
 wGB:mg "_law_draws"=some (.ref t.wDA)
 wFl:zAn K "_law_names" zE8 t.wDC t.wDD
 wGC:zAc K t.wDD ["_law_draw","_law_count"] []
 wGD:mg "_law_names"=some (.ref t.wDC)
 wEQ:zAn K "_law_on" zQO t.wGc t.wGd
 wFC:zAc K t.wGd ["_law_pacts","_law_day"] []
 wFD:mg "_law_on"=some (.ref t.wGc)
 wCv:zAn K "_law_left" zKd t.wEk t.wEl
 wDl:zAc K t.wEl ["_law_count","_law_ways"] []
 wDm:mg "_law_left"=some (.ref t.wEk)
 wER:zAn K "_law_closed" zGa t.wCX t.wCY
 wGi:zAc K t.wCY ["_law_count","_law_ways"] []
 wGj:mg "_law_closed"=some (.ref t.wCX)
 wES:zAn K "_law_word" zJY t.wEm t.wEn
 wFT:zAc K t.wEn ["_law_e"] []
 wFU:mg "_law_word"=some (.ref t.wEm)
 wFV:zAn K "_law_call" zKg t.wEo t.wEp
 wGQ:zAc K t.wEp ["_law_book","_law_row_here"] []
 wGR:mg "_law_call"=some (.ref t.wEo)
 wGp:zAn K "_law_ask" zOb t.wFs t.wFt
 wG3:zAc K t.wFt ["_law_book","_law_row_here"] []
 wG4:mg "_law_ask"=some (.ref t.wFs)
 wD1:zAn K "_law_refused" zE6 t.wCo t.wCp
 wFW:zAc K t.wCp ["_law_told","_law_word_here"] []
 wFX:mg "_law_refused"=some (.ref t.wCo)
 wA3:zAn K "_law_whole" zHK t.wDE t.wDF
 wBF:zAc K t.wDF ["_law_found"] []
 wBG:mg "_law_whole"=some (.ref t.wDE)
 wET:zAn K "_law_tuples" zFV t.wCZ t.wC0
 wGk:zAc K t.wC0 ["_law_found","_law_due"] []
 wGl:mg "_law_tuples"=some (.ref t.wCZ)
 wFm:zAn K "_law_texts" zHM t.wDG t.wDH
 wGE:zAc K t.wDH ["_law_found","_law_due"] []
 wGF:mg "_law_texts"=some (.ref t.wDG)
 wEe:zAn K "_law_gcd" zOa t.wFu t.wFv
 wFE:zAc K t.wFv ["_law_one","_law_two"] []
 wFF:mg "_law_gcd"=some (.ref t.wFu)
 wDn:zAn K "_law_fraction" zD7 t.wBT t.wBU
 wFG:zAc K t.wBU ["_law_found"] []
 wFH:mg "_law_fraction"=some (.ref t.wBT)
 wBB:zAn K "_law_fractions" zCP t.wBv t.wBw
 wCN:zAc K t.wBw ["_law_found","_law_count"] []
 wCO:mg "_law_fractions"=some (.ref t.wBv)
 wDT:zAn K "_law_joint" zHR t.wDI t.wDJ
 wFn:zAc K t.wDJ ["_law_fractions_here"] []
 wFo:mg "_law_joint"=some (.ref t.wDI)
 wD2:zAn K "_law_papered" zE7 t.wCq t.wCr
 wFY:zAc K t.wCr ["_law_found","_law_count","_law_ways","_law_start"] []
 wFZ:mg "_law_papered"=some (.ref t.wCq)
 wF0:zAn K "_law_made" zKb t.wEq t.wEr
 wGS:zAc K t.wEr ["_law_top","_law_bottom"] []
 wGT:mg "_law_made"=some (.ref t.wEq)
 wDo:zAn K "_law_borne_of" zD9 t.wBV t.wBW
 wFI:zAc K t.wBW ["_law_paper","_law_count","_law_ways"] []
 wFJ:mg "_law_borne_of"=some (.ref t.wBV)
 wF1:zAn K "_law_same" zKa t.wEs t.wEt
 wGU:zAc K t.wEt ["_law_found","_law_due"] []
 wGV:mg "_law_same"=some (.ref t.wEs)
 wFp:zAn K "_law_purse" zHO t.wDK t.wDL
 wGG:zAc K t.wDL ["_law_amount","_law_fractions_here"] []
 wGH:mg "_law_purse"=some (.ref t.wDK)
 wGq:zAn K "_law_row" zNY t.wFw t.wFx
 wG5:zAc K t.wFx ["_law_found","_law_due"] []
 wG6:mg "_law_row"=some (.ref t.wFw)
 wF2:zAn K "_law_span" zJZ t.wEu t.wEv
 wGW:zAc K t.wEv ["_law_draws_here","_law_pick"] []
 wGX:mg "_law_span"=some (.ref t.wEu)
 wCP:zAn K "_law_made_pact" zCN t.wBx t.wBy
 wFc:zAc K t.wBy ["_law_draws_here","_law_k","_law_count","_law_pacts","_law_ends"] []
 wFd:mg "_law_made_pact"=some (.ref t.wBx)
 wEU:zAn K "_law_judged" zFZ t.wC1 t.wC2
 wGm:zAc K t.wC2 ["_law_count","_law_pacts","_law_new"] []
 wGn:mg "_law_judged"=some (.ref t.wC1)
 wF3:zAn K "_law_fits" zKf t.wEw t.wEx
 wGY:zAc K t.wEx ["_law_told","_law_due","_law_names_here"] []
 wGZ:mg "_law_fits"=some (.ref t.wEw)
 wFq:zAn K "_law_right" zHN t.wDM t.wDN
 wGI:zAc K t.wDN ["_law_book","_law_names_here","_law_pacts","_law_start","_law_day"] []
 wGJ:mg "_law_right"=some (.ref t.wDM)
 wG7:zAn K "law" zNZ t.wFy t.wFz
 wHc:zAc K t.wFz ["_law_script"] []
 wHd:mg "law"=some (.ref t.wFy)
 wCQ:mg "CedeError"=some (.ref t.wAv)
 wD3:mg "BadName"=some (.ref t.wAo)
 wCw:mg "KnownHouse"=some (.ref t.wAk)
 wBH:mg "UnknownHouse"=some (.ref t.wAf)
 wDp:mg "ToItself"=some (.ref t.wAn)
 wCx:mg "DaysTurned"=some (.ref t.wAj)
 wCy:mg "OutOfRange"=some (.ref t.wAe)
 wD4:mg "TooMuch"=some (.ref t.wAd)
 wC6:mg "ShutIn"=some (.ref t.wAa)
 wEV:mg "Full"=some (.ref t.wAw)
 wEb:mg "NothingDone"=some (.ref t.wAp)
 wF4:mg "Unclear"=some (.ref t.wAP)
 wG0:mg "Book"=some (.ref t.wAc)
 wAi:Cls K t.wAc
 wG1:Mk K t.wAc t.wAy
 wAx:zFj K t.wAc "told"
 wEW:XMk K t.wAa t.wAq
 wAJ:XF K t.wAa "day"
 wBI:XF K t.wAa "names"
 wFe:XB K t.wAv
 wF5:W.excIn K t.wAo vEr "ValueError.__new__"=true
 wEX:W.excIn K t.wAk vEr "ValueError.__new__"=true
 wF6:W.excIn K t.wAw vEr "ValueError.__new__"=true
 wDU:W.excIn K t.wAf vEr "ValueError.__new__"=true
 wEY:W.excIn K t.wAe vEr "ValueError.__new__"=true
 wFK:W.excIn K t.wAn vEr "ValueError.__new__"=true
 wEZ:W.excIn K t.wAj vEr "ValueError.__new__"=true
 wF7:W.excIn K t.wAd vEr "ValueError.__new__"=true
 wF8:ExcX K t.wAd
 wC7:W.exmOne K (.ref t.wAd) (.ref t.wAa)=some false
 wCb:W.exmOne K (.ref t.wAd) (.ref t.wAv)=some true
 wCE:W.kitOne K (.ref t.wAd) (.ref t.wAo)=some false
 wB0:W.kitOne K (.ref t.wAd) (.ref t.wAk)=some false
 wBC:W.kitOne K (.ref t.wAd) (.ref t.wAf)=some false
 wCz:W.kitOne K (.ref t.wAd) (.ref t.wAn)=some false
 wB1:W.kitOne K (.ref t.wAd) (.ref t.wAj)=some false
 wB2:W.kitOne K (.ref t.wAd) (.ref t.wAe)=some false
 wCF:W.kitOne K (.ref t.wAd) (.ref t.wAd)=some true
 wC8:W.kitOne K (.ref t.wAd) (.ref t.wAa)=some false
 wDV:W.kitOne K (.ref t.wAd) (.ref t.wAw)=some false
 wBJ:W.kitOne K (.ref t.wAd) (.ref t.wAp)=some false
 wCG:W.kitOne K (.ref t.wAd) (.ref t.wAP)=some false
 wB3:W.kitOne K (.ref t.wAd) (.type "ValueError")=some true
 wC9:ExcX K t.wAa
 wDq:W.exmOne K (.ref t.wAa) (.ref t.wAa)=some true
 wCA:W.exmOne K (.ref t.wAa) (.ref t.wAv)=some true
 wDa:W.kitOne K (.ref t.wAa) (.ref t.wAo)=some false
 wCc:W.kitOne K (.ref t.wAa) (.ref t.wAk)=some false
 wBK:W.kitOne K (.ref t.wAa) (.ref t.wAf)=some false
 wCH:W.kitOne K (.ref t.wAa) (.ref t.wAn)=some false
 wCd:W.kitOne K (.ref t.wAa) (.ref t.wAj)=some false
 wCe:W.kitOne K (.ref t.wAa) (.ref t.wAe)=some false
 wDb:W.kitOne K (.ref t.wAa) (.ref t.wAd)=some false
 wDr:W.kitOne K (.ref t.wAa) (.ref t.wAa)=some true
 wEc:W.kitOne K (.ref t.wAa) (.ref t.wAw)=some false
 wB4:W.kitOne K (.ref t.wAa) (.ref t.wAp)=some false
 wDc:W.kitOne K (.ref t.wAa) (.ref t.wAP)=some false
 wCf:W.kitOne K (.ref t.wAa) (.type "ValueError")=some true
 wB5:∃t,mg "LAST_DAY"=some (.int 5000 t)
 wF9:∃t,mg "LETTERS"=some (.str "abcdefghijklmnopqrstuvwxyz" t)
 wBL:∃t,mg "LONGEST_NAME"=some (.int 8 t)
 wE0:∃t,mg "MOST_COINS"=some (.int 1000000000000 t)
 wCa:∃t,mg "MOST_HOUSES"=some (.int 15 t)
 wCB:∃t,mg "MOST_PACTS"=some (.int 80 t)
 wGK:∃t,mg "WHOLE"=some (.int 1000 t)
 wE1:mg "ValueError"=none
 wDs:mg "abs"=none
 wG8:mg "all"=none
 wG2:mg "bool"=none
 wCR:mg "enumerate"=none
 wGr:mg "int"=none
 wAb:mg "isinstance"=none
 wAh:mg "len"=none
 wBh:mg "list"=none
 wGs:mg "max"=none
 wGt:mg "min"=none
 wAg:mg "range"=none
 wG9:mg "set"=none
 wB6:mg "sorted"=none
 wGu:mg "str"=none
 wFL:mg "sum"=none
 wFr:mg "tuple"=none
 wEf:mg "zip"=none
 wEd:mg "coins_purse"=some (.ref t.wCD)
 wCC:mg "shares_equations"=some (.ref t.wBS)
section
variable {P:Program} {w:World} {K:W.Frag} {mg:Str->Option Value} {base:Heap} {t:Adr}
def zAW {x m:Int} {n:Nat} (h:0 < m) (k:m<=n):0<=x%m/\x%m < n:=⟨Int.emod_nonneg _ ∅,Int.lt_of_lt_of_le (Int.emod_lt_of_pos _ h) k⟩
inductive sp_at (K:W.Frag) (vs:List V) (H:Hp) (Q:VK) (E:XK):Prop
 | mk (a:Addr) (ns:List Int) (k:Int):vs=[.ref a,.int k]->(SqL K H a (ns.map V.int)/\0<=k/\Q (.int (ns.getD k.toNat 0)) H)->sp_at K vs H Q E
def zRh {ns:List Int} {k:Int} (h0:0<=k) (h:k < (ns.length:Int)):atI (ns.map V.int) k=some (.int (ns.getD k.toNat 0)):=by
 have hk:k.toNat < ns.length:=by omega
 have ek:k=((k.toNat:Nat):Int):=by omega
 have q:atI (ns.map V.int) ((k.toNat:Nat):Int)=some (.int (ns.getD k.toNat 0)):=zDL (by rw[wHn,wHg hk,wHh,wHg hk];rfl);rw[← ek] at q;exact q
def zQu {ns:List Int} {k:Int} (h:¬k < (ns.length:Int)):ns.getD k.toNat 0=0:=by
 rw[wHh,wH8 ∅]
 rfl
def zPS (T:Txt P K mg t):FnOk P w K mg base CX0 40 t.wGa t.wGb ["_law_script","_law_k"] (sp_at K):=by
 refine T.wGh.ok zQN ⟨⟩ ();obtain⟨a,ns,k,rfl,hS,h0,q⟩:=h;refine⟨_,(zC (zAs (zAb zFr (pv 1) (zR (zAd K) rfl T.wAh wHB (zG (pv 0) zE zA)) (zAg _)) (zF (zT (zAA K (pv 0) (pv 1)))) zZ)
  (zF (zT zH))),?_⟩
 have hl:(ns.map V.int).length=ns.length:=wHf _;refine⟨_,rfl,_,rfl,a,_,rfl,.inl hS,_,_,rfl,rfl,_,rfl,?_⟩;refine zCH (λc=>?_) (λc=>?_)
 ·have c':k < (((ns.map V.int).length:Nat):Int):=wHw c;rw[hl] at c';exact⟨_,rfl,_,rfl,a,_,_,_,rfl,rfl,hS,zRh h0 c',q⟩
 have c':¬k < (((ns.map V.int).length:Nat):Int):=wHT (wIB c);rw[hl] at c';rw[zQu c'] at q;exact q
inductive sp_draws (K:W.Frag) (vs:List V) (H:Hp) (Q:VK) (E:XK):Prop
 | mk (a:Addr) (ns:List Int) (m:Int):vs=[.ref a,.int m]->(SqL K H a (ns.map V.int)/\0<=m/\m<=900/\
 ∀(l:Addr) (ds:List Int) (H':Hp),H l=none->zAh H H'->H' l=some (.lst (ds.map V.int))->(ds.length:Int)=m->(∀d∈ds,0<=d/\d < 10 ^ 13)->Q (.ref l) H')->sp_draws K vs H Q E
def zMs (T:Txt P K mg t):FnOk P w K mg base CX0 41 t.wDA t.wDB ["_law_script","_law_many"] (sp_draws K):=by
 refine T.wFk.ok zCa ⟨⟩ ();obtain⟨a,ns,m,rfl,hS,m0,m9,q⟩:=h;refine⟨_,(zC (zCk ["_law_k","_law_script"] [none,some 0] (by kernel_rfl) rfl (zAi rfl T.wAg (zG zH zE zM)) (λ_ _ _ _ _=>(zJ (i:=0) ndB rfl (Or.inl rfl))) (λ_ _ _ _ _=>zAw) (λ_ _ _ _ _=>(cal (zPS T) hr T.wGP T.wGh T.wGO (zQ (pv 1) (zV zBn zH (pv 0)) zE zA zX))) (zJ (i:=2) zCa.nd rfl (Or.inl rfl)))
  (zC (zAF 3 zCa.nd (zV zAu (zR (zFb K rfl) rfl T.wFL PyProof.Rows.boot_sum (zG (pv 2) zE zA)) zH))
  (zC (zAF 4 zCa.nd (zAo zE))
  (zC (zAr PassesOwn.never rfl (zAi rfl T.wAg (zG (pv 1) zE zA)) (zJ (i:=5) zCa.nd rfl (Or.inl rfl)) (zC (zAF 6 zCa.nd (zAA K (pv 2) (zV zAu (pv 5) zH)))
  (zF (zAs (zAb zCB (zV zAu (cal (zPS T) hr T.wGP T.wGh T.wGO (zQ (pv 0) zH zE zA zM)) zH) zH (zAg _)) (zC (zAF 3 zCa.nd (zV zAu (zV zBn (zV zBn (zV zBn (zV zDT (pv 3) zH) (pv 6)) (pv 5)) zH) zH))
  (zF (zAm (zBz K wHV wH2 wH6 zA3 (pv 4) (zG (zV zAu (zV zDT (pv 3) zH) zH) zE zX))))) (zC (zAm (zBz K wHV wH2 wH6 zA3 (pv 4) (zG (zV zAu (pv 6) (zV zNg zH zH)) zE zX)))
  (zF (zDR (zV zMk (pv 6) (zV zNg zH zH)) (zFA (pv 2) (zV zAu (pv 5) zH) zAX))))))))
  (zF (zT (pv 4))))))),?_⟩
 refine⟨62,rfl,by decide,by decide,λc hc=>?_⟩;refine zBt (λi σ' H'=>∃(v:Option V) (cs:List Int),σ'=[v,some (.ref a)]/\cs.length=i/\H'=upd H c (.lst (cs.map V.int))) ⟨none,[],rfl,rfl,rfl⟩ ?_ ?_
 ·rintro i σ' H' hi ⟨v,cs,rfl,hl,rfl⟩;refine⟨_,rfl,_,rfl,_,_,rfl,rfl,a,ns,1+(0+(i:Int)),rfl,(zD hc _).seq hS,by omega,_,zB,?_,?_⟩
  ·rw[wHf];exact zAL ∅
  exact⟨_,cs++[ns.getD (1+(0+(i:Int))).toNat 0],rfl,by rw[wHp,hl];rfl,by rw[zBi,zBX]⟩
 rintro σ' H1 ⟨v,cs,rfl,hl,rfl⟩;refine⟨_,rfl,c,cs,rfl,SqL.of zB,_,_,rfl,rfl,(by show (0:Int) < 2147483647;decide),?_⟩;refine⟨szl,λd hd=>?_⟩;have aQ:c≠d:=zN zB hd;have cZ:H d=none:=(zD hc _).free hd;have s0:zAh H (upd (upd H c (.lst (cs.map V.int))) d (.lst [])):=(zD hc _).trans (zD hd _);refine⟨_,rfl,m,rfl,by omega,by omega,zA9 (n:=m.toNat) (λi σ' H'=>∃(cs ds:List Int) (sd:Int) (v w:Option V),σ'=[some (.ref a),some (.int m),some (.ref c),some (.int sd),some (.ref d),v,w]/\zAh H H'/\
  H' c=some (.lst (cs.map V.int))/\cs.length=62/\H' d=some (.lst (ds.map V.int))/\ds.length=i/\∀x∈ds,0<=x/\x < 10 ^ 13) ⟨cs,[],_,none,none,rfl,s0,by rw[zO aQ];exact zB,hl,zB,rfl,λx hx=>by cases hx⟩ ?_ ?_⟩
 ·rintro i σ' H' hi ⟨cs,ds,sd,v,w,rfl,sm,ec,lc,ed,ld,hx⟩;have k0:=zAW (x:=0+(i:Int)) (m:=62) (n:=62) ⋯ ⋯;refine⟨_,rfl,_,rfl,_,_,rfl,rfl,(by show (0:Int) < 62;decide),c,_,_,_,rfl,rfl,SqL.of ec,zDw k0.1 ∅,?_⟩;obtain⟨ce,hce⟩:∃ce:Int,ce=cs.getD ((0+(i:Int))%62).toNat 0:=⟨_,rfl⟩;refine⟨_,rfl,a,ns,0,rfl,sm.seq hS,by omega,_,_,rfl,rfl,(by show (0:Int) < 2;decide),rfl,_,rfl,?_⟩;refine zCH (λ_=>?_) (λ_=>?_)
  ·refine⟨_,rfl,_,_,rfl,rfl,.inr ⟨by decide,by decide⟩,_,rfl,_,_,rfl,rfl,_,rfl,_,_,rfl,rfl,_,_,rfl,rfl,_,_,rfl,rfl,(by show (0:Int) < 2147483647;decide),?_⟩;refine⟨_,rfl,.inl ⟨rfl,_,SqL.of ed⟩,_,rfl,_,_,rfl,rfl,.inr ⟨by decide,by decide⟩,_,_,rfl,rfl,(by show (0:Int) < 2147483647;decide),d,_,_,rfl,rfl,ed,?_,?_⟩
   ·rw[wHf];exact zAL ∅
   refine⟨cs,ds++[_],_,_,_,rfl,zY sm cZ _,by rw[zO aQ];exact ec,lc,by rw[zB,zBX],by rw[wHp,ld];rfl,λx hm=>?_⟩;rcases wIC hm with z | z
   ·exact hx x z
   rw[wIz z];have b:=λx:Int=>zAW (x:=x) (m:=2147483647) (n:=2147483647) ⋯ ⋯;exact⟨(b _).1,Int.lt_trans (b _).2 ⋯⟩
  refine⟨_,rfl,.inl ⟨rfl,_,SqL.of ed⟩,_,rfl,_,_,rfl,rfl,⟨by decide,by decide,by decide⟩,_,_,rfl,rfl,(by show (0:Int) < 10 ^ (13:Int).toNat;decide),d,_,_,rfl,rfl,ed,?_,?_⟩
  ·rw[wHf];exact zAL ∅
  refine⟨_,rfl,_,_,rfl,rfl,⟨by decide,by decide,by decide⟩,_,_,rfl,rfl,⟨(by show (0:Int) < 10 ^ (13:Int).toNat;decide),Sm.of ⋯⟩,_,rfl,_,rfl,_,_,rfl,rfl,(by show (0:Int) < 62;decide),c,_,_,_,rfl,rfl,by rw[zO aQ];exact ec,zO7 k0.1 ∅,?_⟩;have hc0:H c=none:=hc;refine⟨cs.set _ _,ds++[_],_,_,_,rfl,zY (zY sm cZ _) hc0 _,by rw[zB,zLQ],by rw[List.length_set];exact lc,by rw[zO aQ.symm,zB,zBX],by rw[wHp,ld];rfl,λx hm=>?_⟩;rcases wIC hm with z | z
  ·exact hx x z
  rw[wIz z];have b:=λx:Int=>zAW (x:=x) (m:=(10:Int) ^ (13:Int).toNat) (n:=10 ^ 13) ⋯ ⋯;exact⟨(b _).1,Int.lt_of_lt_of_le (b _).2 ⋯⟩
 rintro σ' H' ⟨cs,ds,sd,v,w,rfl,sm,ec,lc,ed,ld,hx⟩;exact⟨_,rfl,q d ds H' cZ sm ed ∅ hx⟩
inductive sp_texts (K:W.Frag) (vs:List V) (H:Hp) (Q:VK) (E:XK):Prop
 | mk (p r:Addr) (ts:List V):vs=[.ref p,.ref r]->(H p=some (.lst ts)/\SqL K H r ts/\ts.length<=900/\(∀x∈ts,∃z,x=.str z)/\Q (.bl true) H)->sp_texts K vs H Q E
def zMl (T:Txt P K mg t):FnOk P w K mg base CX0 40 t.wDG t.wDH ["_law_found","_law_due"] (sp_texts K):=by
 refine T.wFm.ok zI4 ⟨⟩ ();obtain⟨p,r,ts,rfl,e,hS,hl,ht,q⟩:=h;refine⟨_,(zC (zAs (PW.pt (zDB (zAG (zA1 (zR (zAy K) rfl T.wAb wHt (zQ (pv 0) (zBC (v:=.ty "list") rfl T.wBh PyProof.Rows.boot_list rfl) zE zA zA)))) (zCp (zAb zDF (zR (zAd K) rfl T.wAh wHB (zG (pv 0) zE zA)) (zR (zAd K) rfl T.wAh wHB (zG (pv 1) zE zA)) (zAg _))))) (zF (zT zAT)) zZ)
  (zC (zAr PassesOwn.never rfl (zAi rfl T.wAg (zG (zR (zAd K) rfl T.wAh wHB (zG (pv 1) zE zA)) zE zS)) (zJ (i:=2) zI4.nd rfl (Or.inl rfl)) (zF (zAs (PW.pt (zDB (zAG (zA1 (zR (zAy K) rfl T.wAb wHt (zQ (zAA K (pv 0) (pv 2)) (zBC (v:=.ty "str") rfl T.wGu PyProof.Rows.boot_str rfl) zE zK zA)))) (zCp (zAb zDF (zAA K (pv 0) (pv 2)) (zAA K (pv 1) (pv 2)) (zAg _))))) (zF (zT zAT)) zZ)))
  (zF (zT zAT)))),?_⟩
 refine⟨_,rfl,_,_,_,_,rfl,.lst e,rfl,_,rfl,zB8 ?_⟩;refine⟨_,rfl,p,_,rfl,.inl (SqL.of e),_,rfl,r,_,rfl,.inl hS,rfl,_,rfl,zEi rfl ?_⟩;refine⟨_,rfl,r,_,rfl,.inl hS,_,rfl,by omega,by omega,zA9 (n:=(((ts.length:Nat):Int)).toNat) (λi σ' H'=>∃v,σ'=[some (.ref p),some (.ref r),v]/\H'=H) ⟨none,rfl,rfl⟩ ?_ ?_⟩
 ·rintro i σ' H' hi ⟨v,rfl,rfl⟩;have aU:i < ts.length:=by omega
  have hg:ts[i]?=some ts[i]:=wHg aU;obtain⟨z,et⟩:=ht ts[i] (wHF aU);have bG:atI ts (0+(i:Int))=some (.str z):=zAB ∅ (by rw[show (0+(i:Int)).toNat=i by omega,hg,et]);refine⟨_,rfl,_,rfl,p,_,_,_,rfl,rfl,SqL.of e,bG,_,_,_,_,rfl,.str _,rfl,_,rfl,zB8 ?_⟩;refine⟨_,rfl,_,rfl,p,_,_,_,rfl,rfl,SqL.of e,bG,_,rfl,_,rfl,r,_,_,_,rfl,rfl,hS,bG,rfl,_,rfl,zEi rfl ?_⟩;exact⟨_,rfl,rfl⟩
 rintro σ' H' ⟨v,rfl,rfl⟩;exact q
inductive sp_check_name (cB:Addr) (vs:List V) (H:Hp) (Q:VK) (E:XK):Prop
 | mk (n:Str):vs=[.str n]->(zG4 n/\(∀H',zAh H H'->zJ9 n->Q .non H')/\∀H',zAh H H'->¬zJ9 n->E (.ref cB) none H')->sp_check_name cB vs H Q E
def zGh (T:Txt P K mg t):FnOk P w K mg base (CXx P w) 40 t.wA4 t.wA5 ["name"] (sp_check_name t.wAo):=by
 refine T.wCs.okX zDb ⟨⟩ ();obtain⟨n,rfl,sn,q,qe⟩:=h;refine⟨_,(zC (zAF 1 zDb.nd (zR (zL0 K rfl) rfl T.wG8 PyProof.Rows.boot_all (zG (zA8 ["sign"] [none] (by kernel_rfl) rfl (zPA (pv 0)) (λ_ _ _ _ _=>(zJ (i:=0) ndB rfl (Or.inl rfl))) (λ_ _ _ _ _=>zAw) (λ_ _ _ _ _=>(zBL zJl (pv 0) (zA2 (v:=.str "abcdefghijklmnopqrstuvwxyz") rfl T.wF9.choose_spec ⟨_,rfl⟩) (by with_unfolding_all rfl)))) zE zAq)))
  (zF (zAs (zAG (PW.pt (zEA (zA1 (pv 1)) (zDC (zDe zDG zDG zH (zR zHt rfl T.wAh wHB (zG (pv 0) zE zA)) (zA2 (v:=.int 8) rfl T.wBL.choose_spec ⟨_,rfl⟩)))))) (zF (zB4 T.wF5 rfl T.wD3 (zBm (zKv (pv 0) (zBT (zDf (zA2 (v:=.int 8) rfl T.wBL.choose_spec ⟨_,rfl⟩) (zBT zDg))))))) zZ))),?_⟩
 have hz:=small (sn.2);have dW:=sn.2;refine⟨_,rfl,_,rfl,λl hl=>?_⟩;refine zMI (λi σ' H'=>∃(v:Option V),σ'=[v]/\H'=upd H l (.lst (((n.cps.toList.take i).map zKW).map V.bl))) ⟨none,rfl,rfl⟩ ?_ ?_
 ·rintro i c σ' H' hi ⟨v,rfl,rfl⟩;refine⟨_,rfl,_,_,rfl,rfl,_,zB,?_,?_⟩
  ·rw[wHf,wHf,wHD];have:=zBv n;exact zAj ∅
  refine⟨_,rfl,?_⟩;rw[zBi,wHY,hi];simp only[Option.toList_some,wHr,wIg,List.map_nil]
  rfl
 rintro σ' H1 ⟨v,rfl,rfl⟩;rw[wIk (by rw[← zBv];exact wHm _)];have s1:=zD hl (.lst ((n.cps.toList.map zKW).map V.bl));refine⟨l,_,rfl,SqL.of zB,?_⟩;refine⟨_,rfl,_,rfl,?_⟩;refine zCH (λc=>?_) (λc=>?_)
 ·have lo:=(zIJ n).mp c;refine⟨_,rfl,_,rfl,hz,?_⟩;refine⟨_,_,rfl,rfl,?_⟩;refine⟨_,rfl,?_⟩;refine zCH (λc1=>?_) (λc1=>?_)
  ·have d1:(1:Int)<=(n.length:Int):=wHw c1;refine⟨_,_,rfl,rfl,?_⟩;refine⟨_,rfl,?_⟩;by_cases c2:(n.length:Int)<=8
   ·rw[wHM c2];refine zB8 ?_;exact q _ s1 ⟨lo,by omega,by omega⟩
   rw[wHJ c2];refine zG5 ?_;refine⟨_,rfl,n,rfl,sn.c16,wHv dW ⋯,λy hy=>⟨by bv_omega,?_⟩⟩;refine⟨by bv_omega,_,⟨by decide,rfl⟩,by bv_omega,by bv_omega,by bv_omega,?_⟩;exact qe _ s1 λz=>c2 (by have:=z.2.2;omega)
  have d1:¬(1:Int)<=(n.length:Int):=wHT (wIB c1);refine⟨_,rfl,zG5 ?_⟩;refine⟨_,rfl,n,rfl,sn.c16,wHv dW ⋯,λy hy=>⟨by bv_omega,?_⟩⟩;refine⟨by bv_omega,_,⟨by decide,rfl⟩,by bv_omega,by bv_omega,by bv_omega,?_⟩;exact qe _ s1 λz=>d1 (by have:=z.2.1;omega)
 refine zG5 ?_;refine⟨_,rfl,n,rfl,sn.c16,wHv dW ⋯,λy hy=>⟨by bv_omega,?_⟩⟩;refine⟨by bv_omega,_,⟨by decide,rfl⟩,by bv_omega,by bv_omega,by bv_omega,?_⟩;exact qe _ s1 λz=>c ((zIJ n).mpr z.1)
inductive sp_Book_UinitU (K:W.Frag) (C:Addr) (vs:List V) (H:Hp) (Q:VK) (E:XK):Prop
 | mk (x dx:Addr):vs=[.ref x]->(H x=some (.ins C dx [])/\∀l,H l=none->Q .non (upd (upd H l (.lst [])) x (.ins C dx [("told",.ref l)])))->sp_Book_UinitU K C vs H Q E
def zFt (T:Txt P K mg t):FnOk P w K mg base CX0 40 t.wAy t.wAW ["self"] (sp_Book_UinitU K t.wAc):=by refine T.wD7.ok zFq ⟨⟩ ();obtain⟨x,dx,rfl,hx,q⟩:=h;refine⟨_,(zF (zP8 (pv 0) (zAo zE) rfl)),?_⟩;refine⟨szl,λl hl=>?_⟩;exact⟨_,rfl,x,_,dx,_,rfl,zD hl _ _ _ hx,T.wAi,T.wAx,by decide,q l hl⟩
inductive sp_Book_houses (K:W.Frag) (C:Addr) (vs:List V) (H:Hp) (Q:VK) (E:XK):Prop
 | mk (b tl:Addr) (ds:List Deed):vs=[.ref b]->(zAC H C b tl ds/\ds.length<=900/\∀l,H l=none->Q (.ref l) (upd H l (.lst ((zI ds).map V.str))))->sp_Book_houses K C vs H Q E
def zAQ (T:Txt P K mg t):FnOk P w K mg base CX0 40 t.wAX t.wAY ["self"] (sp_Book_houses K t.wAc):=by
 refine T.wD9.ok zFp ⟨⟩ ();obtain⟨b,tl,ds,rfl,⟨dx,qs,hb,ht,hq,hd⟩,hz,q⟩:=h;refine⟨_,(zF (zT (zA8 ["deed"] [none] (by kernel_rfl) rfl (zAa K (zI9 (pv 0) rfl)) (λ_ _ _ _ _=>(zJ (i:=0) ndB rfl (Or.inl rfl))) (λ_ _ _ _ _=>(zC0 (zAb zCB (zBr K (pv 0) zH) zAK (zAg _)))) (λ_ _ _ _ _=>(zBr K (pv 0) zH))))),?_⟩;refine⟨_,rfl,b,_,dx,_,_,rfl,hb,T.wAi,T.wAx,rfl,tl,rfl,⟨_,SqL.of ht⟩,λl hl=>?_⟩;have sl:∀o,zAh H (upd H l o):=λo=>zD hl o;refine zAl (ys:=qs.map V.ref) (λi σ' H'=>∃(v:Option V),σ'=[v]/\H'=upd H l (.lst ((zI (ds.take i)).map V.str))) ⟨none,rfl,rfl⟩ ?_ ?_ ?_
 ·rintro i σ' H' hi ⟨v,rfl,rfl⟩;exact SqL.of (sl _ _ _ ht)
 ·rintro i x σ' H' hi ⟨v,rfl,rfl⟩;rw[wHn] at hi;obtain⟨a,ha,rfl⟩:∃a,qs[i]?=some a/\V.ref a=x:=by
   cases e:qs[i]? with
   | none=>rw[e] at hi;cases hi
   | some a=>rw[e] at hi;exact⟨a,rfl,wHo hi⟩
  have aD:i < ds.length:=by rw[← hq];exact (wIy ha).1
  have iF:ds[i]?=some ds[i]:=wHg aD;have ta:=SqT.of (K:=K) (sl (.lst ((zI (ds.take i)).map V.str)) _ _ (hd i a _ ha iF));have ln:(zI (ds.take i)).length<=900:=wHv (zGX _) (by rw[wHD];omega);refine⟨_,rfl,a,_,0,.str (ds[i]).tag,rfl,rfl,ta,zAB ⋯ rfl,rfl,_,rfl,?_⟩;rw[zJM];rw[zEN iF];cases e:ds[i] with
  | house n=>
   rw[e] at ta;refine zG5 ⟨_,rfl,a,_,1,_,rfl,rfl,ta,rfl,_,zB,by rw[wHf];exact zAj ∅,_,rfl,?_⟩;rw[zBi,wHr];rfl
  | pact g u p f z=>
   exact zB8 ⟨_,rfl,by rw[wHr];exact congrArg (λz=>upd H l (.lst z)) (wHR _).symm⟩
  | loss g u z=>
   exact zB8 ⟨_,rfl,by rw[wHr];exact congrArg (λz=>upd H l (.lst z)) (wHR _).symm⟩
 rintro σ' H' ⟨v,rfl,rfl⟩;rw[wIk (by rw[wHf];omega)];exact q l hl
def zNk (ds:List Deed) (n:Str):Option Nat:=if zJ9 n then (if n∈zI ds then some 1 else if 15<=(zI ds).length then some 8 else none) else some 0
def zRY (t:Adr):Nat->Addr
 | 0=>t.wAo
 | 1=>t.wAk
 | _=>t.wAw
inductive sp_Book_house (K:W.Frag) (t:Adr) (vs:List V) (H:Hp) (Q:VK) (E:XK):Prop
 | mk (b tl:Addr) (ds:List Deed) (n:Str):vs=[.ref b,.str n]->(zAC H t.wAc b tl ds/\ds.length<=900/\zG4 n/\
 (∀H',zNk ds n=none->zDy tl H H'->zAC H' t.wAc b tl (ds++[.house n])->Q .non H')/\∀H' k,zNk ds n=some k->zAh H H'->E (.ref (zRY t k)) none H')->sp_Book_house K t vs H Q E
def zGj (T:Txt P K mg t):FnOk P w K mg base (CXx P w) 41 t.wBa t.wBb ["self","name"] (sp_Book_house K t):=by
 refine T.wEH.okX zDc ⟨⟩ ();obtain⟨b,tl,ds,n,rfl,hB,hz,sn,q,qe⟩:=h;refine⟨_,(zC (zAm (zAR ((zGh T).mono ⋯) hr rfl T.wEz T.wCs.kp T.wEy .nil zBU (zG (pv 1) zE zA)))
  (zC (zAF 2 zDc.nd (zBu (pv 0) T.wAi T.wAm ((zAQ T).mono ⋯) hr T.wAl .nil zCT))
  (zC (zAs (zAb (zPO K) (pv 1) (pv 2) (by with_unfolding_all rfl)) (zF (zB4 T.wEX rfl T.wCw (zBm (zBT (zDf (pv 1) (zBT zDg)))))) zZ)
  (zC (zAs (zAb zPN (zR (zAd K) rfl T.wAh wHB (zG (pv 2) zE zA)) (zA2 (v:=.int 15) rfl T.wCa.choose_spec ⟨_,rfl⟩) (zAg _)) (zF (zB4 T.wF6 rfl T.wEV (zBm (zDf (zA2 (v:=.int 15) rfl T.wCa.choose_spec ⟨_,rfl⟩) (zBT zDg))))) zZ)
  (zF (zAm (zBz K wHV wH2 wH6 zA3 (zI9 (pv 0) rfl) (zG (zAS (zG zAK (zG (pv 1) zE zA) zM)) zE zAE)))))))),?_⟩
 have dW:=sn.2;refine⟨_,rfl,n,rfl,sn,λH1 s1 ok=>?_,λH1 s1 bad=>qe H1 0 (by unfold zNk;rw[wHj bad]) s1⟩;have hB1:=hB.same s1;obtain⟨dx,qs,hb,ht,hq,hd⟩:=id hB1;refine⟨_,rfl,b,dx,_,rfl,hb,rfl,b,tl,ds,rfl,hB1,hz,λl hl=>?_⟩;have s2:=zD hl (.lst ((zI ds).map V.str));have el:upd H1 l (.lst ((zI ds).map V.str)) l=some (.lst ((zI ds).map V.str)):=zB;generalize upd H1 l (.lst ((zI ds).map V.str))=H2 at s2 el ⊢;refine⟨_,rfl,_,rfl,l,_,rfl,.inl (SqL.of el),rfl,zHl _,_,rfl,?_⟩;rw[wHj (by decide:¬(false=true)),zLa];refine zCH (λc=>?_) (λc=>?_)
 ·have c':=wHw c;refine⟨by bv_omega,_,rfl,_,⟨wHv dW (sz _ ⋯),rfl⟩,by bv_omega,by bv_omega,by bv_omega,?_⟩;exact qe H2 1 (by unfold zNk;rw[wHl ok,wHl c']) (s1.trans s2)
 have c':¬n∈zI ds:=wHT (wIB c);have cl:(zI ds).length<=900:=wHv (zGX _) hz;refine⟨_,rfl,l,_,rfl,.inl (SqL.of el),_,_,rfl,rfl,_,rfl,?_⟩;rw[wHf];refine zCH (λd=>?_) (λd=>?_)
 ·have d':(15:Int)<=((zI ds).length:Nat):=wHw d;refine⟨_,⟨by decide,rfl⟩,by bv_omega,by bv_omega,by bv_omega,?_⟩;exact qe H2 8 (by unfold zNk;rw[wHl ok,wHj c',wHl ∅]) (s1.trans s2)
 have d':¬(15:Int)<=((zI ds).length:Nat):=wHT (wIB d);have hb2:=s2 _ _ hb;have mB:=s2 _ _ ht;refine⟨_,rfl,b,_,dx,_,_,rfl,hb2,T.wAi,T.wAx,rfl,.inl ⟨rfl,_,SqL.of mB⟩,?_⟩;refine⟨_,rfl,zAz,λp hp=>?_⟩;have s3:=zD hp (.tup (Deed.house n).vs);refine⟨tl,_,_,rfl,rfl,s3 _ _ mB,by rw[wHf,hq];exact zAj ∅,?_⟩;refine q _ (by unfold zNk;rw[wHl ok,wHj c',wHj ∅]) ((zDy.of (s1.trans (s2.trans s3))).trans zDy.upd) ?_;exact zAC.snoc (s3 _ _ hb2) (s3 _ _ mB) hq (λi a d e1 e2=>s3 _ _ (s2 _ _ (hd i a d e1 e2))) zB
inductive sp_check_range (cR:Addr) (vs:List V) (H:Hp) (Q:VK) (E:XK):Prop
 | mk (n lo hi:Int):vs=[.int n,.int lo,.int hi]->(lo.natAbs < 10 ^ 60/\hi.natAbs < 10 ^ 60/\(lo<=n/\n<=hi->Q .non H)/\(¬(lo<=n/\n<=hi)->E (.ref cR) none H))->sp_check_range cR vs H Q E
def zBO (T:Txt P K mg t):FnOk P w K mg base (CXx P w) 40 t.wAS t.wAT ["number","least","most"] (sp_check_range t.wAe):=by
 refine T.wAz.okX zFo ⟨⟩ ();obtain⟨n,lo,hi,rfl,h1,h2,q,qe⟩:=h;refine⟨_,(zF (zAs (zAG (zDe zDG zDG (pv 1) (pv 0) (pv 2))) (zF (zB4 T.wEY rfl T.wCy (zBm (zBT (zDf (pv 1) (zBT (zDf (pv 2) zDg))))))) zZ)),?_⟩;have l1:=zEM h1;have l2:=zEM h2;refine⟨_,rfl,_,rfl,_,_,rfl,rfl,_,rfl,?_⟩;refine zCH (λc=>?_) (λc=>?_)
 ·have c':lo<=n:=wHw c;refine⟨_,rfl,_,_,rfl,rfl,_,rfl,?_⟩;by_cases d:n<=hi
  ·rw[wHM d];exact zB8 (q ⟨c',d⟩)
  rw[wHJ d];refine zG5 ?_;refine⟨by bv_omega,_,rfl,_,⟨zOY h1,rfl⟩,by bv_omega,by bv_omega,_,rfl,_,⟨zOY h2,rfl⟩,by bv_omega,by bv_omega,?_⟩;exact qe λz=>d z.2
 have c':¬lo<=n:=wHT (wIB c);refine⟨_,rfl,zG5 ?_⟩;refine⟨by bv_omega,_,rfl,_,⟨zOY h1,rfl⟩,by bv_omega,by bv_omega,_,rfl,_,⟨zOY h2,rfl⟩,by bv_omega,by bv_omega,?_⟩;exact qe λz=>c' z.1
inductive sp_check_day (cR:Addr) (vs:List V) (H:Hp) (Q:VK) (E:XK):Prop
 | mk (n:Int):vs=[.int n]->((0<=n/\n<=5000->Q .non H)/\(¬(0<=n/\n<=5000)->E (.ref cR) none H))->sp_check_day cR vs H Q E
def zC1 (T:Txt P K mg t):FnOk P w K mg base (CXx P w) 41 t.wBl t.wBm ["day"] (sp_check_day t.wAe):=by refine T.wAO.okX zGG ⟨⟩ ();obtain⟨n,rfl,q,qe⟩:=h;refine⟨_,(zF (zAm (zAR ((zBO T).mono ⋯) hr rfl T.wA2 T.wAz.kp T.wA1 .nil zBU (zAe (pv 0) zH (zA2 (v:=.int 5000) rfl T.wB5.choose_spec ⟨_,rfl⟩) zE zA zM zA)))),?_⟩;exact⟨_,rfl,n,0,5000,rfl,by decide,by decide,q,qe⟩
inductive sp_place_of (K:W.Frag) (cU:Addr) (vs:List V) (H:Hp) (Q:VK) (E:XK):Prop
 | mk (nl:Addr) (ns:List Str) (n:Str):vs=[.ref nl,.str n]->(SqL K H nl (ns.map V.str)/\zG4 n/\(n∈ns->Q (.int (ns.idxOf n:Nat)) H)/\(n∉ns->E (.ref cU) none H))->sp_place_of K cU vs H Q E
def zBD (T:Txt P K mg t):FnOk P w K mg base (CXx P w) 40 t.wBM t.wBN ["names","name"] (sp_place_of K t.wAf):=by
 refine T.wAu.okX zHH ⟨⟩ ();obtain⟨nl,ns,n,rfl,hS,sn,q,qe⟩:=h;refine⟨_,(zC (zAs (zAb (zGR K) (pv 1) (pv 0) (by with_unfolding_all rfl)) (zF (zB4 T.wDU rfl T.wBH (zBm (zBT (zKv (pv 1) (zBT zDg)))))) zZ)
  (zF (zT (zBz K wHV F.slot_list_index F.type_list_index (zEP K) (pv 0) (zG (pv 1) zE zA))))),?_⟩
 have dW:=sn.2;refine⟨_,rfl,_,rfl,nl,_,rfl,.inl hS,rfl,zHl _,_,rfl,?_⟩;rw[wHl rfl,zLa];by_cases c:n∈ns
 ·rw[wHM c];refine zB8 ?_;exact⟨_,rfl,.inl ⟨rfl,_,hS⟩,_,rfl,nl,ns,n,rfl,rfl,hS,c,q c⟩
 rw[wHJ c];refine zG5 ?_;refine⟨by bv_omega,_,rfl,n,rfl,sn.c16,wHv dW ⋯,λy hy=>⟨by bv_omega,by bv_omega,by bv_omega,?_⟩⟩;exact qe c
inductive sp_check_amount (cR:Addr) (vs:List V) (H:Hp) (Q:VK) (E:XK):Prop
 | mk (n:Int):vs=[.int n]->((1<=n/\n<=10 ^ 12->Q .non H)/\(¬(1<=n/\n<=10 ^ 12)->E (.ref cR) none H))->sp_check_amount cR vs H Q E
def zEK (T:Txt P K mg t):FnOk P w K mg base (CXx P w) 41 t.wAM t.wAN ["amount"] (sp_check_amount t.wAe):=by refine T.wBE.okX zE1 ⟨⟩ ();obtain⟨n,rfl,q,qe⟩:=h;refine⟨_,(zF (zAm (zAR ((zBO T).mono ⋯) hr rfl T.wA2 T.wAz.kp T.wA1 .nil zBU (zAe (pv 0) zH (zA2 (v:=.int 1000000000000) rfl T.wE0.choose_spec ⟨_,rfl⟩) zE zA zM zA)))),?_⟩;exact⟨_,rfl,n,1,1000000000000,rfl,by decide,by decide,q,qe⟩
def zJ7 (ns:List Str) (g u:Str) (p f l:Int):Option Nat:=
 if g∈ns then (if u∈ns then (if g=u then some 3 else if l < f then some 4 else if 1<=p/\p<=1000 then (if 0<=f/\f<=5000 then (if 0<=l/\l<=5000 then none else some 5) else some 5) else some 5) else some 2) else some 2
def zRw (t:Adr):Nat->Addr
 | 2=>t.wAf
 | 3=>t.wAn
 | 4=>t.wAj
 | _=>t.wAe
inductive sp_check_terms (K:W.Frag) (t:Adr) (vs:List V) (H:Hp) (Q:VK) (E:XK):Prop
 | mk (nl:Addr) (ns:List Str) (g u:Str) (p f l:Int):vs=[.ref nl,.str g,.str u,.int p,.int f,.int l]->(SqL K H nl (ns.map V.str)/\zG4 g/\zG4 u/\(zJ7 ns g u p f l=none->Q .non H)/\∀k,zJ7 ns g u p f l=some k->E (.ref (zRw t k)) none H)->sp_check_terms K t vs H Q E
def zFs (T:Txt P K mg t):FnOk P w K mg base (CXx P w) 42 t.wAU t.wAV ["names","giver","taker","part","first","last"] (sp_check_terms K t):=by
 refine T.wB7.okX zFn ⟨⟩ ();obtain⟨nl,ns,g,u,p,f,l,rfl,hS,sg,su,q,qe⟩:=h;refine⟨_,(zC (zAm (zAR ((zBD T).mono ⋯) hr rfl T.wAG T.wAu.kp T.wAF .nil zBU (zQ (pv 0) (pv 1) zE zA zA)))
  (zC (zAm (zAR ((zBD T).mono ⋯) hr rfl T.wAG T.wAu.kp T.wAF .nil zBU (zQ (pv 0) (pv 2) zE zA zA)))
  (zC (zAs (zAb zCB (pv 1) (pv 2) (zAg _)) (zF (zB4 T.wFK rfl T.wDp (zBm (zDf (pv 1) (zBT zDg))))) zZ)
  (zC (zAs (zAb zOs (pv 4) (pv 5) (zAg _)) (zF (zB4 T.wEZ rfl T.wCx zAK)) zZ)
  (zC (zAm (zAR ((zBO T).mono ⋯) hr rfl T.wA2 T.wAz.kp T.wA1 .nil zBU (zAe (pv 3) zH (zA2 (v:=.int 1000) rfl T.wGK.choose_spec ⟨_,rfl⟩) zE zA zM zA)))
  (zC (zAm (zAR ((zC1 T).mono ⋯) hr rfl T.wBA T.wAO.kp T.wBz .nil zBU (zG (pv 4) zE zA)))
  (zF (zAm (zAR ((zC1 T).mono ⋯) hr rfl T.wBA T.wAO.kp T.wBz .nil zBU (zG (pv 5) zE zA)))))))))),?_⟩
 have sg2:=sg.2;unfold zJ7 at q qe;refine⟨_,rfl,_,rfl,nl,ns,g,rfl,hS,sg,λc1=>?_,λc1=>qe 2 (by rw[wHj c1])⟩;rw[wHl c1] at q qe;refine⟨_,rfl,_,rfl,nl,ns,u,rfl,hS,su,λc2=>?_,λc2=>qe 2 (by rw[wHj c2])⟩;rw[wHl c2] at q qe;refine⟨_,rfl,_,rfl,rfl,_,rfl,?_⟩;refine zCH (λc=>?_) (λc=>?_)
 ·have c3:g=u:=V.str.inj (wHw c);refine⟨_,rfl,_,⟨wHv sg2 (sz _ ⋯),rfl⟩,by bv_omega,by bv_omega,by bv_omega,?_⟩;exact qe 3 (by rw[wHl c3])
 have c3:¬g=u:=λz=>c (wHM (congrArg V.str z));rw[wHj c3] at q qe;refine⟨_,rfl,_,rfl,_,_,rfl,rfl,_,rfl,?_⟩;refine zCH (λc=>?_) (λc=>?_)
 ·have c4:l < f:=wHw c;exact qe 4 (by rw[wHl c4])
 have c4:¬l < f:=wHT (wIB c);rw[wHj c4] at q qe;refine⟨_,rfl,p,1,1000,rfl,by decide,by decide,λc5=>?_,λc5=>qe 5 (by rw[wHj c5])⟩;rw[wHl c5] at q qe;refine⟨_,rfl,f,rfl,λc6=>?_,λc6=>qe 5 (by rw[wHj c6])⟩;rw[wHl c6] at q qe;exact⟨_,rfl,l,rfl,λc7=>q (by rw[wHl c7]),λc7=>qe 5 (by rw[wHj c7])⟩
def zJ6 (ns:List Str) (p:Pct):List V:=[.int (ns.idxOf p.1:Nat),.int (ns.idxOf p.2.1:Nat),.int p.2.2.1]
inductive sp_ways_of (K:W.Frag) (vs:List V) (H:Hp) (Q:VK) (E:XK):Prop
 | mk (nl pl:Addr) (ns:List Str) (ps:List Pct):vs=[.ref nl,.ref pl]->(SqL K H nl (ns.map V.str)/\zAf H pl (ps.map Pct.vs)/\ps.length<=900/\(∀p∈ps,p.1∈ns/\p.2.1∈ns)/\
 ∀l H',H l=none->zAh H H'->zAf H' l (ps.map (zJ6 ns))->Q (.ref l) H')->sp_ways_of K vs H Q E
def zFD (T:Txt P K mg t):FnOk P w K mg base CX0 40 t.wCk t.wCl ["names","pacts"] (sp_ways_of K):=by
 refine T.wCu.ok zJe ⟨⟩ ();obtain⟨nl,pl,ns,ps,rfl,hN,⟨qs,hp,lq,hq⟩,hz,eE,q⟩:=h;refine⟨_,(zF (zT (zA8 ["giver","taker","part","first","last","names"] [none,none,none,none,none,some 0] (by kernel_rfl) rfl (zAa K (pv 1)) (λ_ _ _ _ _=>(zAt K (n:=5) rfl (zP (zJ (i:=0) ndB rfl (Or.inl rfl)) (zP (zJ (i:=1) ndB rfl (Or.inl rfl)) (zP (zJ (i:=2) ndB rfl (Or.inl rfl)) (zP (zJ (i:=3) ndB rfl (Or.inl rfl)) (zP (zJ (i:=4) ndB rfl (Or.inl rfl)) zAp))))))) (λ_ _ _ _ _=>zAw) (λ_ _ _ _ _=>(zAS (zG (zBz K wHV F.slot_list_index F.type_list_index (zEP K) (pv 5) (zG (pv 0) zE zA)) (zG (zBz K wHV F.slot_list_index F.type_list_index (zEP K) (pv 5) (zG (pv 1) zE zA)) (zG (pv 2) zE zA) zS) zS)))))),?_⟩;rw[wHf] at lq;refine⟨_,rfl,pl,rfl,⟨_,SqL.of hp⟩,λl hl=>?_⟩;refine zAl (ys:=qs.map V.ref) (λi σ' H'=>∃(v1 v2 v3 v4 v5:Option V),σ'=[v1,v2,v3,v4,v5,some (.ref nl)]/\zAh H H'/\zAf H' l ((ps.take i).map (zJ6 ns))) ⟨none,none,none,none,none,rfl,zD hl _,zAf.nil zB⟩ ?_ ?_ ?_
 ·rintro i σ' H' hi ⟨v1,v2,v3,v4,v5,rfl,s',el⟩;exact SqL.of (s' _ _ hp)
 ·rintro i x σ' H' hi ⟨v1,v2,v3,v4,v5,rfl,s',el⟩;rw[wHn] at hi;obtain⟨a,ha,rfl⟩:=wIA hi;have aD:i < ps.length:=by rw[← lq];exact (wIy ha).1
  have bP:ps[i]?=some ps[i]:=wHg aD;have ea:=s' _ _ (hq i a _ ha (by rw[wHn,bP];rfl));obtain⟨m1,m2⟩:=eE ps[i] (wHF aD);refine⟨a,_,rfl,SqT.of ea,rfl,_,_,rfl,_,_,rfl,_,_,rfl,_,_,rfl,_,_,rfl,rfl,?_⟩;have kc:=s'.seq hN;refine⟨_,rfl,.inl ⟨rfl,_,kc⟩,_,rfl,nl,ns,_,rfl,rfl,kc,m1,?_⟩;refine⟨_,rfl,.inl ⟨rfl,_,kc⟩,_,rfl,nl,ns,_,rfl,rfl,kc,m2,?_⟩;refine⟨_,rfl,szl,λp cT=>?_⟩;have s2:=zD cT (.tup (zJ6 ns ps[i]));obtain⟨q2,g1,g2,g3⟩:=el.same s2;refine⟨_,g1,by rw[wHf,g2,wHf,wHD];exact zAj ∅,_,_,_,_,_,rfl,zY (s'.trans s2) hl _,?_⟩;rw[wHY,bP,wHr];exact zAf.snoc g1 g2 g3 zB
 rintro σ' H' ⟨v1,v2,v3,v4,v5,rfl,s',el⟩;rw[wHf,lq,wHL] at el;exact q l H' hl s' el
def zBh (d:Int) (p:Pct):Bool:=decide (p.2.2.2.1<=d) && decide (d<=p.2.2.2.2)
inductive sp_ways_on (K:W.Frag) (vs:List V) (H:Hp) (Q:VK) (E:XK):Prop
 | mk (nl pl:Addr) (ns:List Str) (ps:List Pct) (d:Int):vs=[.ref nl,.ref pl,.int d]->(SqL K H nl (ns.map V.str)/\zAf H pl (ps.map Pct.vs)/\ps.length<=900/\(∀p∈ps,p.1∈ns/\p.2.1∈ns)/\
 ∀l H',H l=none->zAh H H'->zAf H' l ((ps.filter (zBh d)).map (zJ6 ns))->Q (.ref l) H')->sp_ways_on K vs H Q E
def zJm (T:Txt P K mg t):FnOk P w K mg base CX0 41 t.wCm t.wCn ["names","pacts","day"] (sp_ways_on K):=by
 refine T.wD0.ok zJd ⟨⟩ ();obtain⟨nl,pl,ns,ps,d,rfl,hN,⟨qs,hp,lq,hq⟩,hz,eE,q⟩:=h;refine⟨_,(zF (zT (cal (zFD T) hr T.wDZ T.wCu T.wDY (zQ (pv 0) (zA8 ["pact","day"] [none,some 2] (by kernel_rfl) rfl (zAa K (pv 1)) (λ_ _ _ _ _=>(zJ (i:=0) ndB rfl (Or.inl rfl))) (λ_ _ _ _ _=>(zC0 (zDe zDG zDG (zBr K (pv 0) zH) (pv 1) (zBr K (pv 0) zH)))) (λ_ _ _ _ _=>(pv 0))) zE zA zAq)))),?_⟩;rw[wHf] at lq;refine⟨_,rfl,_,rfl,pl,rfl,⟨_,SqL.of hp⟩,λl hl=>?_⟩;refine zAl (ys:=qs.map V.ref) (λi σ' H'=>∃(v1:Option V),σ'=[v1,some (.int d)]/\zAh H H'/\zAf H' l (((ps.take i).filter (zBh d)).map Pct.vs)) ⟨none,rfl,zD hl _,zAf.nil zB⟩ ?_ ?_ ?_
 ·rintro i σ' H' hi ⟨v1,rfl,s',el⟩;exact SqL.of (s' _ _ hp)
 ·rintro i x σ' H' hi ⟨v1,rfl,s',el⟩;rw[wHn] at hi;obtain⟨a,ha,rfl⟩:=wIA hi;have aD:i < ps.length:=by rw[← lq];exact (wIy ha).1
  have bP:ps[i]?=some ps[i]:=wHg aD;have ea:=s' _ _ (hq i a _ ha (by rw[wHn,bP];rfl));have ln:((ps.take i).filter (zBh d)).length<=900:=wHv (wIq _ _) (by rw[wHD];omega);have et:(ps.take (i+1)).filter (zBh d)=(ps.take i).filter (zBh d)++[ps[i]].filter (zBh d):=by rw[wHY,bP,List.filter_append];rfl
  have on:zBh d ps[i]=(decide ((ps[i]).2.2.2.1<=d) && decide (d<=(ps[i]).2.2.2.2)):=rfl;refine⟨_,rfl,a,_,3,.int (ps[i]).2.2.2.1,rfl,rfl,SqT.of ea,zAB ⋯ rfl,_,rfl,_,_,rfl,rfl,_,rfl,?_⟩;refine zCH (λc=>?_) (λc=>?_)
  ·have c':=wHw c;refine⟨_,rfl,a,_,4,.int (ps[i]).2.2.2.2,rfl,rfl,SqT.of ea,zAB ⋯ rfl,_,_,rfl,rfl,_,rfl,?_⟩;refine zCH (λe=>?_) (λe=>?_)
   ·refine⟨_,rfl,?_⟩;obtain⟨q2,g1,g2,g3⟩:=el;refine⟨_,g1,by rw[wHf,g2,wHf];exact zAj ∅,_,rfl,zY s' hl _,?_⟩;rw[et,wHr,List.filter_cons_of_pos (by rw[on,c,e];rfl),List.filter_nil];exact zAf.snoc g1 g2 g3 ea
   refine⟨_,rfl,s',?_⟩;rw[et,List.filter_cons_of_neg (by rw[on,c,Bool.true_and];exact e),List.filter_nil,wHR];exact el
  refine⟨_,rfl,zB8 ⟨_,rfl,s',?_⟩⟩;rw[et,List.filter_cons_of_neg (by rw[on,wIB c];exact wHx),List.filter_nil,wHR];exact el
 rintro σ' H' ⟨v1,rfl,s',el⟩;rw[wHf,lq,wHL] at el;have lf:(ps.filter (zBh d)).length<=900:=wHv (wIq _ _) hz;exact⟨nl,l,ns,ps.filter (zBh d),rfl,s'.seq hN,el,lf,λp hp=>eE p (List.mem_filter.mp hp).1,λl2 H2 jP s2 T2=>q l2 H2 (s'.free jP) (s'.trans s2) T2⟩
inductive sp_Book_pacts (K:W.Frag) (C:Addr) (vs:List V) (H:Hp) (Q:VK) (E:XK):Prop
 | mk (b tl:Addr) (ds:List Deed):vs=[.ref b]->(zAC H C b tl ds/\ds.length<=900/\∀l H',H l=none->zAh H H'->zAf H' l ((zU ds).map Pct.vs)->Q (.ref l) H')->sp_Book_pacts K C vs H Q E
def zB6 (T:Txt P K mg t):FnOk P w K mg base CX0 40 t.wA8 t.wA9 ["self"] (sp_Book_pacts K t.wAc):=by
 refine T.wEG.ok zFU ⟨⟩ ();obtain⟨b,tl,ds,rfl,⟨dx,qs,hb,ht,hq,hd⟩,hz,q⟩:=h;refine⟨_,(zF (zT (zA8 ["deed"] [none] (by kernel_rfl) rfl (zAa K (zI9 (pv 0) rfl)) (λ_ _ _ _ _=>(zJ (i:=0) ndB rfl (Or.inl rfl))) (λ_ _ _ _ _=>(zC0 (zAb zCB (zBr K (pv 0) zH) zAK (zAg _)))) (λ_ _ _ _ _=>(zDh (zNN K) (pv 0) (zEC zH) zED))))),?_⟩;refine⟨_,rfl,b,_,dx,_,_,rfl,hb,T.wAi,T.wAx,rfl,tl,rfl,⟨_,SqL.of ht⟩,λl hl=>?_⟩;refine zAl (ys:=qs.map V.ref) (λi σ' H'=>∃(v:Option V),σ'=[v]/\zAh H H'/\zAf H' l ((zU (ds.take i)).map Pct.vs)) ⟨none,rfl,zD hl _,zAf.nil zB⟩ ?_ ?_ ?_
 ·rintro i σ' H' hi ⟨v,rfl,s',el⟩;exact SqL.of (s' _ _ ht)
 ·rintro i x σ' H' hi ⟨v,rfl,s',el⟩;rw[wHn] at hi;obtain⟨a,ha,rfl⟩:=wIA hi;have aD:i < ds.length:=by rw[← hq];exact (wIy ha).1
  have iF:ds[i]?=some ds[i]:=wHg aD;have ea:=s' _ _ (hd i a _ ha iF);have ln:(zU (ds.take i)).length<=900:=wHv (zGO _) (by rw[wHD];omega);refine⟨_,rfl,a,_,0,.str (ds[i]).tag,rfl,rfl,SqT.of ea,zAB ⋯ rfl,rfl,_,rfl,?_⟩;rw[zLG];rw[zEF iF];cases e:ds[i] with
  | pact g u p f z=>
   rw[e] at ea;refine zG5 ⟨_,rfl,_,rfl,a,_,rfl,SqT.of ea,zKG _ _,λp' hp=>?_⟩;have s2:=zD hp (.tup (zHm (Deed.pact g u p f z).vs (some 1) none));obtain⟨q2,g1,g2,g3⟩:=el.same s2;refine⟨_,g1,by rw[wHf,g2,wHf];exact zAj ∅,_,rfl,zY (s'.trans s2) hl _,?_⟩;rw[wHr];exact zAf.snoc g1 g2 g3 (by rw[zB];exact congrArg (λz=>some (HO.tup z)) (zMH _ _))
  | house g=>exact zB8 ⟨_,rfl,s',by rw[wHr];exact (wHR _).symm ▸ el⟩
  | loss g u p=>exact zB8 ⟨_,rfl,s',by rw[wHr];exact (wHR _).symm ▸ el⟩
 rintro σ' H' ⟨v,rfl,s',el⟩;rw[wIk (by rw[wHf];omega)] at el;exact q l H' hl s' el
abbrev Sps:=List (Int × Int)
def lo (sps:Sps) (k:Nat):Int:=(sps.getD k (0,0)).1
def hi (sps:Sps) (k:Nat):Int:=(sps.getD k (0,0)).2
def zIk (sps:Sps) (f l:Int) (n:Nat):List Int:=((List.range n).filter λk=>decide (lo sps k<=f/\l<=hi sps k)).map λk:Nat=>(k:Int)
def zOZ (sps:Sps) (f l:Int):List Int:=zIk sps f l sps.length
def zIL {sps:Sps} {f l:Int} {n:Nat} (h:lo sps n<=f/\l<=hi sps n):zIk sps f l (n+1)=zIk sps f l n++[(n:Int)]:=by unfold zIk;rw[List.range_succ,List.filter_append,wHr,List.filter_cons,wHl (wHM h)];rfl
def zIj {sps:Sps} {f l:Int} {n:Nat} (h:¬(lo sps n<=f/\l<=hi sps n)):zIk sps f l (n+1)=zIk sps f l n:=by unfold zIk;rw[List.range_succ,List.filter_append,wHr,List.filter_cons,wHj (by rw[wHJ h];exact wHx)];simp
def zOA (sps:Sps) (f l:Int) (n:Nat):(zIk sps f l n).length<=n:=by unfold zIk;rw[wHf];exact wHv (wIq _ _) (wIx wIl)
def zJy {sps:Sps} {f l f' l':Int} (n:Nat) (h:∀k,k < n->((lo sps k<=f/\l<=hi sps k)↔(lo sps k<=f'/\l'<=hi sps k))):zIk sps f l n=zIk sps f' l' n:=by
 unfold zIk
 congr 1
 refine List.filter_congr λk hk=>?_;rw[decide_eq_decide];exact h k (List.mem_range.mp hk)
def zNy (sps:Sps):Prop:=∀k,k < sps.length->0<=lo sps k/\lo sps k<=hi sps k/\hi sps k<=5000
structure Days (sps:Sps) (ds:List Int):Prop where
 inc:ds.Pairwise (· < ·)
 zero:ds[0]?=some 0
 bd:∀d∈ds,0<=d/\d<=5000
 src:∀d∈ds,d=0∨∃k,k < sps.length/\(d=lo sps k∨d=hi sps k+1)
 has1:∀k,k < sps.length->lo sps k∈ds
 has2:∀k,k < sps.length->hi sps k+1<=5000->hi sps k+1∈ds
def nxt (ds:List Int) (i:Nat):Int:=ds.getD (i+1) 5001
def Days.pos {sps:Sps} {ds:List Int} (D:Days sps ds):0 < ds.length:=(wIy D.zero).1
def Days.lt {sps:Sps} {ds:List Int} (D:Days sps ds) {i j:Nat} (bR:i < j) (hj:j < ds.length):ds.getD i 0 < ds.getD j 0:=by have h:=List.pairwise_iff_getElem.mp D.inc i j ∅ hj bR;rw[wHh,wHh,wHg ∅,wHg hj];exact h
def zIN {ds:List Int} {i:Nat} (h:i < ds.length):ds.getD i 0∈ds:=by rw[wHh,wHg h];exact wHF h
def zII {ds:List Int} {i:Nat} (h:i+1 < ds.length):nxt ds i=ds.getD (i+1) 0:=by unfold nxt;rw[wHh,wHh,wHg h];rfl
def zIf {ds:List Int} {i:Nat} (h:¬i+1 < ds.length):nxt ds i=5001:=by unfold nxt;rw[wHh,wH8 ∅];rfl
def Days.up {sps:Sps} {ds:List Int} (D:Days sps ds) {i:Nat} (h:i < ds.length):ds.getD i 0 < nxt ds i/\nxt ds i<=5001:=by
 have b:=D.bd _ (zIN h);by_cases c:i+1 < ds.length
 ·rw[zII c];have:=D.bd _ (zIN c);exact⟨D.lt (wIh i) c,by omega⟩
 rw[zIf c];omega
def Days.gap {sps:Sps} {ds:List Int} (D:Days sps ds) {i:Nat} (h:i < ds.length) {d:Int} (hd:d∈ds):d<=ds.getD i 0∨nxt ds i<=d:=by
 obtain⟨j,hj,rfl⟩:=List.mem_iff_getElem.mp hd;have e:ds[j]=ds.getD j 0:=by rw[wHh,wHg hj];rfl
 rw[e];rcases Nat.lt_trichotomy j i with c | c | c
 ·exact .inl (wIn (D.lt c h))
 ·rw[c];exact .inl (wIi _)
 refine .inr ?_;rw[zII ∅];by_cases z:j=i+1
 ·rw[z];exact wIi _
 exact wIn (D.lt ∅ hj)
def Days.whole {sps:Sps} {ds:List Int} (S:zNy sps) (D:Days sps ds) {i k:Nat} (h:i < ds.length) (hk:k < sps.length) (h1:lo sps k<=nxt ds i-1) (h2:ds.getD i 0<=hi sps k):lo sps k<=ds.getD i 0/\nxt ds i-1<=hi sps k:=by
 have u:=D.up h;have s:=S k hk;refine⟨?_,?_⟩
 ·rcases D.gap h (D.has1 k hk) with c | c
  ·exact c
  omega
 by_cases z:hi sps k+1<=5000
 ·rcases D.gap h (D.has2 k hk z) with c | c
  ·omega
  omega
 omega
def Days.same {sps:Sps} {ds:List Int} (S:zNy sps) (D:Days sps ds) {i:Nat} (h:i < ds.length):zOZ sps (ds.getD i 0) (ds.getD i 0)=zOZ sps (ds.getD i 0) (nxt ds i-1):=by
 refine zJy _ λk hk=>?_;have u:=D.up h;constructor
 ·rintro⟨a,b⟩;exact D.whole S h hk ∅ b
 rintro⟨a,b⟩;exact⟨a,by omega⟩
section
open PySem.Spec PyProof.Rows
def zIX {prog:Program} {w:World} {A:Around} {E:Value->Shared->Prop} {s:Shared} {v:Value} {Q:Value->Shared->Prop}
  (h:wpAny (model prog w) A.in1 (collect v) (λvs s1=>∃ns,IntsAre vs ns/\vs.length < 64/\∀(h':Heap) (out:Array Value) (ms:List Int),IntsAre out.toList ms->ms.Perm ns->ms.Pairwise (·<=·)->
   (∀b o,s1.heap.get? b=some o->h'.get? b=some o)->(∃e,h'.get? s1.heap.objs.size=some (seqObj "list" out e))->s1.heap.objs.size < h'.objs.size->Q (.ref s1.heap.objs.size) { s1 with heap:=h' }) E s):wpAny (model prog w) A (call (.builtin "sorted") [v]) Q E s:=by
 refine Calls.call_function_entry kind_sorted plain_sorted entry_sorted (args_sorted1 _) ?_;unfold Builtin.«sorted»;refine wHe (m:=checkCount "sorted" 1 1 _) (wHk (wHe (wHH h (λvs s1 h1=>?_) λ_ _ e=>e)));obtain⟨ns,hI,hz,q⟩:=h1;refine wHe (wpAny_newList ?_ (by exact wHv (wIm hz) ⋯));have hL:(s1.heap.push (seqObj "list" vs.toArray 0)).get? s1.heap.objs.size=some (seqObj "list" vs.toArray 0):=wHs _ rfl;refine wHe (wHZ (wpAny_call_entry slot_list_sort ⟨_,hL,rfl⟩ entry_list_sort (list_sort_tree hL hI hz λout ms a1 a2 a3=>⟨_,rfl,?_⟩) (args_list_sort _)));refine wHk ⟨_,rfl,q _ out ms a1 a2 a3 (λb o e=>?_) ?_ ?_⟩
 ·have hb:=wHq e;unfold sortedHeap;refine (wHG _ _ (Ne.symm (wHu hb))).trans (wHi _ (wHi _ ?_));exact (wHG _ _ (Ne.symm (wHu hb))).trans (wHi _ e)
 ·unfold sortedHeap;exact⟨_,get?_update_seq (wHi _ (wHi _ (get?_update_seq hL (λ_=>#[])))) (λ_=>out)⟩
 unfold sortedHeap;rw[Heap.size_update,wIa,wIa,Heap.size_update,wIa];exact wIf (wIf (wIh _))
def zGy {X:Cx} (hc:X.calm=true):zB7 X (.builtin "sorted") (λxs H Q=>∃(p:Addr) (ks:List Int),xs=[.ref p]/\H p=some (zPx X.w p ks)/\ks.length < 64/\
  ∀(l:Addr) (ms:List Int),H l=none->ms.Perm ks->ms.Pairwise (·<=·)->Q (.ref l) (upd H l (.lst (ms.map V.int)))):=by
 intro pins s σ H xs us Q I r h;obtain⟨p,ks,rfl,hp,kl,q⟩:=h;obtain⟨u,rfl,ru⟩:=r.one;cases ru;have hS:zFz X.w s.heap p ks:=(I.hok p _ hp).1;refine zIX (zIp (w:=X.w) (show X.A.in1.handled=none from I.ok.hd hc) hS λs1 vs ns i1 i2 i3 i4 i5 i6=>⟨ns,i1,?_,λh' out ms o1 o2 o3 o4 o5 o6=>?_⟩)
 ·have z:vs.length=ns.length:=i1.length;rw[z,i2.length_eq];exact kl
 have hl:H s1.heap.objs.size=none:=I.hok.fresh i6;obtain⟨e,he⟩:=o5;have J:=I.laid (h':=h') (o:=.lst (ms.map V.int)) (t':=s1.toks) (a:=s1.heap.objs.size) (λb o e=>o4 _ _ (i3 _ _ e)) i6 ⟨by rw[wHf,o2.length_eq,i2.length_eq];exact wHv (wIm kl) ⋯,out.toList,e,zCX o1,by rw[he]⟩
 exact⟨.ref s1.heap.objs.size,_,J.drawn rfl i4 i5,rfl,q _ ms hl (o2.trans i2) o3⟩
end
structure SpAt (K:W.Frag) (H:Hp) (r:Addr) (rs:List V) (sps:Sps):Prop where
 sq:SqL K H r rs
 len:rs.length=sps.length
 at_:∀k,k < sps.length->∃q,rs[k]?=some (.ref q)/\H q=some (.tup [.int (lo sps k),.int (hi sps k)])
def SpAt.mono {K:W.Frag} {H H':Hp} {r:Addr} {rs:List V} {sps:Sps} (h:SpAt K H r rs sps) (s:zAh H H'):SpAt K H' r rs sps:=
 ⟨s.seq h.sq,h.len,λk hk=>let ⟨q,e1,e2⟩:=h.at_ k hk;⟨q,e1,s _ _ e2⟩⟩
inductive sp_holding (K:W.Frag) (vs:List V) (H:Hp) (Q:VK) (E:XK):Prop
 | mk (r:Addr) (rs:List V) (sps:Sps) (d:Int):vs=[.ref r,.int d]->(SpAt K H r rs sps/\sps.length<=800/\∀(p:Addr) (H':Hp),H p=none->zAh H H'->H' p=some (.lst ((zOZ sps d d).map V.int))->Q (.ref p) H')->sp_holding K vs H Q E
def zJq (T:Txt P K mg t):FnOk P w K mg base CX0 40 t.wCg t.wCh ["spans","day"] (sp_holding K):=by
 refine T.wDW.ok zJg ⟨⟩ ();obtain⟨r,rs,sps,d,rfl,sp,hl,q⟩:=h;refine⟨_,(zF (zT (zA8 ["place","span","day"] [none,none,some 1] (by kernel_rfl) rfl (zKz rfl T.wCR (zG (pv 0) zE zA)) (λ_ _ _ _ _=>(zAt K (n:=2) rfl (zP (zJ (i:=0) ndB rfl (Or.inl rfl)) (zP (zJ (i:=1) ndB rfl (Or.inl rfl)) zAp)))) (λ_ _ _ _ _=>(zC0 (zDe zDG zDG (zBr K (pv 1) zH) (pv 2) (zBr K (pv 1) zH)))) (λ_ _ _ _ _=>(pv 0))))),?_⟩;refine⟨_,rfl,r,rs,rfl,sp.sq,λc hc=>?_⟩;refine zLv (K:=K) (ys:=rs) (λi σ' H'=>∃u v,σ'=[u,v,some (.int d)]/\zAh H H'/\H' c=some (.lst ((zIk sps d d i).map V.int))) ⟨none,none,rfl,zD hc _,zB⟩ (λi σ' H' _ ⟨u,v,_,sm,_⟩=>sm.seq sp.sq) ?_ ?_
 ·rintro i x σ' H' T aU ⟨u,v,rfl,sm,ec⟩ hT;have aD:i < sps.length:=by rw[← sp.len];exact (wIy aU).1
  obtain⟨t',e1,e2⟩:=sp.at_ i aD;have ex:x=.ref t':=by rw[e1] at aU;exact (wHo aU).symm
  subst ex;have bL:=sm.trans (zD hT (.tup [.int (i:Int),.ref t']));have et:=SqT.of (K:=K) (bL _ _ e2);have ncT:c≠T:=zN ec hT;have ol:upd H' T (.tup [.int (i:Int),.ref t']) c=some (.lst ((zIk sps d d i).map V.int)):=by rw[zO ncT];exact ec
  have le:=zOA sps d d i;refine⟨T,_,rfl,SqT.of zB,rfl,_,_,rfl,_,_,rfl,rfl,?_⟩;refine⟨_,rfl,t',_,_,_,rfl,rfl,et,rfl,_,rfl,_,_,rfl,rfl,_,rfl,zCH (λa=>?_) (λa=>?_)⟩
  ·have a1:lo sps i<=d:=wHw a;refine⟨_,rfl,t',_,_,_,rfl,rfl,et,rfl,_,_,rfl,rfl,_,rfl,zCH (λb=>?_) (λb=>?_)⟩
   ·have b1:d<=hi sps i:=wHw b;exact⟨_,rfl,_,ol,by rw[wHf];exact zAL ∅,_,_,rfl,zY bL hc _,by rw[zB,zIL ⟨a1,b1⟩,zBX]⟩
   have b1:¬d<=hi sps i:=wHT (wIB b);exact⟨_,_,rfl,bL,by rw[ol,zIj λz=>b1 z.2]⟩
  have a1:¬lo sps i<=d:=wHT (wIB a);exact⟨_,rfl,zB8 ⟨_,_,rfl,bL,by rw[ol,zIj λz=>a1 z.1]⟩⟩
 rintro σ' H' ⟨u,v,rfl,sm,ec⟩;rw[sp.len] at ec;exact q c H' hc sm ec
def dTo (sps:Sps):Nat->List Int
 | 0=>[0]
 | i+1=>dTo sps i++[lo sps i]++[hi sps i+1]
theorem zIn (sps:Sps):∀n,(dTo sps n).length=2*n+1
 | 0=>rfl
 | n+1=>by unfold dTo;rw[wHp,wHp,zIn sps n];simp only[wH7];omega
theorem zIi {sps:Sps} {y:Int}:∀{n:Nat},y∈dTo sps n↔y=0∨∃k,k < n/\(y=lo sps k∨y=hi sps k+1)
 | 0=>by unfold dTo;rw[List.mem_singleton];exact⟨.inl,λh=>h.elim id λ⟨_,h,_⟩=>absurd h (wHA _)⟩
 | n+1=>by
  unfold dTo;rw[List.mem_append,List.mem_append,List.mem_singleton,List.mem_singleton,zIi (n:=n)];constructor
  ·rintro (((h | ⟨k,h1,h2⟩) | h) | h)
   ·exact .inl h
   ·exact .inr ⟨k,by omega,h2⟩
   ·exact .inr ⟨n,by omega,.inl h⟩
   exact .inr ⟨n,by omega,.inr h⟩
  rintro (h | ⟨k,h1,h2⟩)
  ·exact .inl (.inl (.inl h))
  by_cases e:k=n
  ·subst e;rcases h2 with h2 | h2
   ·exact .inl (.inr h2)
   exact .inr h2
  exact .inl (.inl (.inr ⟨k,by omega,h2⟩))
def dIn (d:Int):Bool:=decide (0<=d) && decide (d<=5000)
def fTo (D:List Int) (i:Nat):List Int:=(D.take i).filter dIn
def zOH {D:List Int} {i:Nat} {d:Int} (e:D[i]?=some d) (h:0<=d/\d<=5000):fTo D (i+1)=fTo D i++[d]:=by unfold fTo;rw[List.take_add_one,e,List.filter_append];unfold dIn;simp[h]
theorem zNp {D:List Int} {i:Nat} {d:Int} (e:D[i]?=some d) (h:¬(0<=d/\d<=5000)):fTo D (i+1)=fTo D i:=by
 unfold fTo;rw[List.take_add_one,e,List.filter_append];unfold dIn;have:(decide (0<=d) && decide (d<=5000))=false:=by rw[← Bool.not_eq_true,wHN,decide_eq_true_eq,decide_eq_true_eq];exact h
 simp[this]
theorem zNq (D:List Int) (i:Nat):(fTo D i).length<=D.length:=wHv (wIq _ _) (by rw[wHD];omega)
def zKK {D:List Int} {y:Int}:y∈fTo D D.length↔y∈D/\0<=y/\y<=5000:=by unfold fTo dIn;rw[wHL,List.mem_filter];simp
def zON {sps:Sps} {ms ks:List Int} (so:zNy sps) (nd:ks.Nodup) (mem:∀y,y∈ks↔y∈fTo (dTo sps sps.length) (dTo sps sps.length).length) (pm:ms.Perm ks) (pw:ms.Pairwise (·<=·)):Days sps ms:=by
 have mm:∀y,y∈ms↔(y=0∨∃k,k < sps.length/\(y=lo sps k∨y=hi sps k+1))/\0<=y/\y<=5000:=λy=>by rw[pm.mem_iff,mem,zKK,zIi]
 have inc:ms.Pairwise (· < ·):=by
  have jD:ms.Pairwise (·≠·):=pm.nodup_iff.mpr nd;exact (List.Pairwise.and pw jD).imp λ{a b} h=>by have h1:=h.1;have h2:=h.2;omega
 refine⟨inc,?_,λd hd=>((mm d).mp hd).2,λd hd=>((mm d).mp hd).1,λk hk=>(mm _).mpr ⟨.inr ⟨k,hk,.inl rfl⟩,?_⟩,λk hk h=>(mm _).mpr ⟨.inr ⟨k,hk,.inr rfl⟩,?_,h⟩⟩
 ·have z:(0:Int)∈ms:=(mm 0).mpr ⟨.inl rfl,by omega,by omega⟩
  match ms,z,pw,mm with
  | a::r,z,pw,mm=>
   have a0:=((mm a).mp (wH5 ..)).2.1;rcases wID z with e | e
   ·rw[← e];rfl
   have:=(List.pairwise_cons.mp pw).1 0 e;have:a=0:=by omega
   rw[this];rfl
 ·have:=so k hk;omega
 have:=so k hk;omega
def Few (sps:Sps):Prop:=sps.length<=90/\∃B:List Int,B.length<=60/\∀k,k < sps.length->lo sps k∈B/\hi sps k+1∈B
theorem zDn:∀{ks B:List Int},ks.Nodup->(∀y∈ks,y∈B)->ks.length<=B.length
 | [],_,_,_=>wHQ _
 | k::ks,B,nd,h=>by have hk:=h k wH5;have jD:=List.nodup_cons.mp nd;have:=zDn (ks:=ks) (B:=B.erase k) jD.2 λy hy=>(List.mem_erase_of_ne (λe=>jD.1 (by rw[← e];exact hy))).mpr (h y (wHP _ hy));rw[List.length_erase_of_mem hk] at this;have:=List.length_pos_of_mem hk;rw[wIe];omega
def zOG {sps:Sps} (f:Few sps) {ks:List Int} (nd:ks.Nodup) (mem:∀y,y∈ks↔y∈fTo (dTo sps sps.length) (dTo sps sps.length).length):ks.length < 64:=by
 obtain⟨_,B,lB,hB⟩:=f;have:=zDn (B:=0::B) nd λy hy=>by
  have h:=(zIi.mp ((zKK.mp ((mem y).mp hy)).1));rcases h with rfl | ⟨k,hk,h | h⟩
  ·exact wH5
  ·rw[h];exact wHP _ (hB k hk).1
  rw[h];exact wHP _ (hB k hk).2
 rw[wIe] at this;omega
inductive sp_turning_days (K:W.Frag) (vs:List V) (H:Hp) (Q:VK) (E:XK):Prop
 | mk (r:Addr) (rs:List V) (sps:Sps):vs=[.ref r]->(SpAt K H r rs sps/\zNy sps/\Few sps/\
 ∀(l:Addr) (ds:List Int) (H':Hp),H l=none->zAh H H'->H' l=some (.lst (ds.map V.int))->Days sps ds->ds.length<=900->Q (.ref l) H')->sp_turning_days K vs H Q E
def zEJ (T:Txt P K mg t):FnOk P w K mg base CX0 40 t.wAK t.wAL ["spans"] (sp_turning_days K):=by
 refine T.wBD.ok zBj ⟨⟩ ();obtain⟨r,rs,sps,rfl,sp,so,cI,q⟩:=h;refine⟨_,(zC (zAF 1 zBj.nd (zAo (zG zH zE zM)))
  (zC (zAr PassesOwn.never rfl (zAa K (pv 0)) (zAt K (n:=2) rfl (zP (zJ (i:=2) zBj.nd rfl (Or.inl rfl)) (zP (zJ (i:=3) zBj.nd rfl (Or.inl rfl)) zAp))) (zC (zAm (zBz K wHV wH2 wH6 zA3 (pv 1) (zG (pv 2) zE zA)))
  (zF (zAm (zBz K wHV wH2 wH6 zA3 (pv 1) (zG (zV zBn (pv 3) zH) zE zX))))))
  (zF (zT (zR (zGy rfl) rfl T.wB6 PyProof.Rows.boot_sorted (zG (zDi (zLz K rfl) rfl T.wG9 PyProof.Rows.boot_set (zG (zA8 ["day"] [none] (by kernel_rfl) rfl (zAa K (pv 1)) (λ_ _ _ _ _=>(zJ (i:=0) ndB rfl (Or.inl rfl))) (λ_ _ _ _ _=>(zC0 (zDe zDG zDG zH (pv 0) (zA2 (v:=.int 5000) rfl T.wB5.choose_spec ⟨_,rfl⟩)))) (λ_ _ _ _ _=>(pv 0))) zE zAq)) zE zS)))))),?_⟩
 have hl:=cI.1;refine⟨szl,λd hd=>?_⟩;have s0:=zD hd (.lst [V.int 0]);refine⟨_,rfl,r,rfl,⟨_,s0.seq sp.sq⟩,zAx (K:=K) (a:=r) (xs:=rs) (λi σ' H'=>∃u v,σ'=[some (.ref r),some (.ref d),u,v]/\zAh H H'/\H' d=some (.lst ((dTo sps i).map V.int)))
  ⟨_,_,rfl,s0,zB⟩ (λi σ' H' _ ⟨_,_,_,sm,_⟩=>sm.seq sp.sq) ?_ ?_⟩
 ·rintro i x σ' H' hx ⟨u,v,rfl,sm,ed⟩;have aD:i < sps.length:=by rw[← sp.len];exact (wIy hx).1
  obtain⟨t',e1,e2⟩:=sp.at_ i aD;have ex:x=.ref t':=by rw[e1] at hx;exact (wHo hx).symm
  subst ex;have dl:=zIn sps i;refine⟨t',_,rfl,SqT.of (sm _ _ e2),rfl,_,_,rfl,_,_,rfl,rfl,?_⟩;refine⟨_,rfl,.inl ⟨rfl,_,SqL.of ed⟩,_,rfl,d,_,_,rfl,rfl,ed,by rw[wHf];exact zAL ∅,?_⟩;refine⟨_,rfl,.inl ⟨rfl,_,SqL.of zB⟩,_,rfl,_,_,rfl,rfl,d,_,_,rfl,rfl,zB,by rw[wHp,wHf];exact zAL (by simp only[wH7];omega),?_⟩;refine⟨_,_,rfl,zY (zY sm hd _) hd _,?_⟩;rw[zB,show dTo sps (i+1)=dTo sps i++[lo sps i]++[hi sps i+1] from rfl,wHr,wHr]
  rfl
 rintro σ' H1 ⟨u,v,rfl,s1,ed⟩;rw[sp.len] at ed;have dl:=zIn sps sps.length;refine⟨_,rfl,d,rfl,⟨_,SqL.of ed⟩,λc hc=>?_⟩;refine zAl (K:=K) (ys:=(dTo sps sps.length).map V.int) (λi σ' H'=>∃u,σ'=[u]/\H'=upd H1 c (.lst ((fTo (dTo sps sps.length) i).map V.int))) ⟨none,rfl,rfl⟩ (λi σ' H' _ ⟨_,_,e⟩=>by rw[e];exact SqL.of (zD hc _ _ _ ed)) ?_ ?_
 ·rintro i x σ' H' hx ⟨u,rfl,rfl⟩;rw[wHn] at hx;obtain⟨dd,e1,rfl⟩:=wIA hx;have fl:=zNq (dTo sps sps.length) i;refine⟨_,rfl,_,_,rfl,rfl,_,rfl,zCH (λa=>?_) (λa=>?_)⟩
  ·have a1:0<=dd:=wHw a;refine⟨_,_,rfl,rfl,_,rfl,zCH (λb=>?_) (λb=>?_)⟩
   ·have b1:dd<=5000:=wHw b;exact⟨_,rfl,_,zB,by rw[wHf];exact zAL ∅,_,rfl,by rw[zBi,zOH e1 ⟨a1,b1⟩,zBX]⟩
   have b1:¬dd<=5000:=wHT (wIB b);exact⟨_,rfl,by rw[zNp e1 λz=>b1 z.2]⟩
  have a1:¬0<=dd:=wHT (wIB a);exact⟨_,rfl,zB8 ⟨_,rfl,by rw[zNp e1 λz=>a1 z.1]⟩⟩
 rintro σ' H2 ⟨u,rfl,rfl⟩;rw[wHf];have fl:=zNq (dTo sps sps.length) (dTo sps sps.length).length;refine⟨c,_,rfl,SqL.of zB,by omega,λl ks jP mem nd len=>?_⟩;refine⟨l,ks,rfl,zB,zOG cI nd mem,λl2 ms hl3 pm pw=>?_⟩;have sA:=(s1.trans (zD hc _)).trans (zD jP (zPx w l ks));refine q l2 ms _ (sA.free hl3) (sA.trans (zD hl3 _)) zB (zON so nd mem pm pw) ?_;rw[pm.length_eq];omega
def zR4 (xs:List V):zHm xs (some 1) none=xs.drop 1:=by
 unfold zHm;rw[HT.sIx_none,show (some (1:Int))=some (((1:Nat):Int)) from rfl,HT.sIx_nat];cases xs with
 | nil=>rfl
 | cons x r=>
  have:min 1 (x::r).length=1:=by simp
  rw[this];exact wIk (by simp)
def bhd (ds:List Int):List Int:=ds.drop 1++[5001]
theorem zL1 {ds:List Int} {i:Nat} (h:i < ds.length):(bhd ds)[i]?=some (nxt ds i):=by
 unfold bhd;by_cases c:i+1 < ds.length
 ·rw[wHE (by rw[wIj];omega),List.getElem?_drop,zII c,wHh,Nat.add_comm 1 i,wHg c];rfl
 rw[wHC (by rw[wIj];omega),zIf c,wIj,show i-(ds.length-1)=0 by omega];rfl
structure StRec where
 t:Addr
 p:Addr
 f:Int
 l:Int
 ps:List Int
def zKn (ss:List StRec):List V:=ss.map λs=>V.ref s.t
def zGb (ss:List StRec):(zKn ss).length=ss.length:=wHf _
def zLZ {ss:List StRec} {i:Nat} {s:StRec} (h:ss[i]?=some s):(zKn ss)[i]?=some (.ref s.t):=by unfold zKn;rw[wHn,h];rfl
def zKm (ss:List StRec) (s:StRec):zKn (ss++[s])=zKn ss++[.ref s.t]:=by unfold zKn;rw[wHr];rfl
def zRB (H:Hp) (s:StRec):Prop:=H s.t=some (.tup [.int s.f,.int s.l,.ref s.p])/\H s.p=some (.lst (s.ps.map V.int))
structure Told (sps:Sps) (ds:List Int) (ss:List StRec) (n:Nat):Prop where
 len:ss.length=n
 at_:∀(i:Nat) (s:StRec),ss[i]?=some s->s.f=ds.getD i 0/\s.l=nxt ds i-1/\s.ps=zOZ sps (ds.getD i 0) (ds.getD i 0)
 nd:(ss.map (·.p)).Nodup
inductive sp_stretches (K:W.Frag) (vs:List V) (H:Hp) (Q:VK) (E:XK):Prop
 | mk (r:Addr) (rs:List V) (sps:Sps):vs=[.ref r]->(SpAt K H r rs sps/\zNy sps/\Few sps/\
 ∀(fl:Addr) (ds:List Int) (ss:List StRec) (H':Hp),H fl=none->zAh H H'->H' fl=some (.lst (zKn ss))->Days sps ds->ds.length<=900->Told sps ds ss ds.length->(∀s∈ss,zRB H' s/\H s.p=none/\s.p≠fl)->Q (.ref fl) H')->sp_stretches K vs H Q E
def zGT (T:Txt P K mg t):FnOk P w K mg base CX0 41 t.wBj t.wBk ["spans"] (sp_stretches K):=by
 refine T.wCI.ok zBb ⟨⟩ ();obtain⟨r,rs,sps,rfl,sp,so,hl,q⟩:=h;refine⟨_,(zC (zAF 1 zBb.nd (cal (zEJ T) hr T.wDP T.wBD T.wDO (zG (pv 0) zE zA)))
  (zC (zAF 2 zBb.nd (zV zDk (zDh (zI1 K) (pv 1) (zEC zH) zED) (zAo (zG (zV zBn (zA2 (v:=.int 5000) rfl T.wB5.choose_spec ⟨_,rfl⟩) zH) zE zX))))
  (zC (zAF 3 zBb.nd (zAo zE))
  (zC (zAr PassesOwn.never rfl (zI6 rfl T.wEf (zQ (pv 1) (pv 2) zE zA zA)) (zAt K (n:=2) rfl (zP (zJ (i:=4) zBb.nd rfl (Or.inl rfl)) (zP (zJ (i:=5) zBb.nd rfl (Or.inl rfl)) zAp))) (zF (zAm (zBz K wHV wH2 wH6 zA3 (pv 3) (zG (zAS (zAe (pv 4) (zV zEI (pv 5) zH) (cal (zJq T) hr T.wFN T.wDW T.wFM (zQ (pv 0) (pv 4) zE zA zA)) zE zA zX zS)) zE zAE)))))
  (zF (zT (pv 3))))))),?_⟩
 have mY:=hl.1;refine⟨_,rfl,r,rs,sps,rfl,sp,so,hl,λa ds H1 ha s1 ea D dl=>?_⟩;have dp:=D.pos;refine⟨_,rfl,_,rfl,a,_,rfl,SqL.of ea,λc hc=>?_⟩;have s2:=zD hc (.lst (zHm (ds.map V.int) (some 1) none));refine⟨_,_,rfl,rfl,szl,λd hd=>?_⟩;have s3:=s2.trans (zD hd (.lst [.int 5001]));refine⟨c,d,_,_,rfl,rfl,zD hd _ _ _ zB,zB,?_,λb hb=>?_⟩
 ·rw[zR4,wIj,wHf];exact small (by show ds.length-1+1<=1000;omega)
 have eb0:zHm (ds.map V.int) (some 1) none++[.int 5001]=(bhd ds).map V.int:=by unfold bhd;rw[zR4,wHr,List.map_drop];rfl
 have s4:=s3.trans (zD hb (.lst (zHm (ds.map V.int) (some 1) none++[.int 5001])));refine⟨szl,λtl cF=>?_⟩;have s5:=s1.trans (s4.trans (zD cF (.lst [])));have ea5:=(s4.trans (zD cF (.lst []))) _ _ ea;have eb5:upd (upd (upd (upd H1 c (.lst (zHm (ds.map V.int) (some 1) none))) d (.lst [.int 5001])) b (.lst (zHm (ds.map V.int) (some 1) none++[.int 5001]))) tl (.lst []) b=some (.lst ((bhd ds).map V.int)):=by rw[← eb0];exact zD cF _ _ _ zB
 have hJ:H tl=none:=(s1.trans s4).free cF;have nat:a≠tl:=zN (s4 _ _ ea) cF;have nbt:b≠tl:=zN (zB) cF;have lb:(ds.map V.int).length=((bhd ds).map V.int).length:=by unfold bhd;simp;omega
 refine⟨_,rfl,_,rfl,a,b,_,_,rfl,SqL.of ea5,SqL.of eb5,zOD (K:=K) lb (λi σ' H'=>∃(ss:List StRec) (u v:Option V),σ'=[some (.ref r),some (.ref a),some (.ref b),some (.ref tl),u,v]/\zAh H H'/\H' a=some (.lst (ds.map V.int))/\H' b=some (.lst ((bhd ds).map V.int))/\
  H' tl=some (.lst (zKn ss))/\Told sps ds ss i/\∀s∈ss,zRB H' s/\H s.p=none/\s.p≠tl/\s.t≠tl) ⟨[],none,none,rfl,s5,ea5,eb5,zB,⟨rfl,λi s hs=>by simp at hs,List.nodup_nil⟩,λs hs=>by cases hs⟩ (λi σ' H' _ ⟨_,_,_,_,_,z1,z2,_⟩=>⟨SqL.of z1,SqL.of z2⟩) ?_ ?_⟩
 ·rintro i x y σ' H' T hx hy ⟨ss,u,v,rfl,sm,e1,e2,e3,td,hs⟩ hT;have aU:i < ds.length:=by have:=(wIy hx).1;rw[wHf] at this;exact this
  have ex:x=.int (ds.getD i 0):=by rw[wHn,wHg aU] at hx;rw[wHh,wHg aU];exact (wHo hx).symm
  have ey:y=.int (nxt ds i):=by rw[wHn,zL1 aU] at hy;exact (wHo hy).symm
  subst ex ey;have bL:=zD hT (.tup [.int (ds.getD i 0),.int (nxt ds i)]);have sH:=sm.trans bL;refine⟨T,_,rfl,SqT.of zB,rfl,_,_,rfl,_,_,rfl,rfl,?_⟩;refine⟨_,rfl,.inl ⟨rfl,_,SqL.of (bL _ _ e3)⟩,_,rfl,_,rfl,_,_,rfl,rfl,_,rfl,_,rfl,r,rs,sps,ds.getD i 0,rfl,sp.mono sH,by omega,λp H2 hp sm2 ep=>?_⟩;have sA:=bL.trans sm2;refine⟨szl,λt' jH=>?_⟩;have sB:=sA.trans (zD jH (.tup [.int (ds.getD i 0),.int (nxt ds i-1),.ref p]));have fh:=sB _ _ e3;have l3:(zKn ss).length < sizeLine:=by rw[zGb,td.len];exact zAL ∅
  refine⟨tl,_,_,rfl,rfl,fh,l3,?_⟩;have hp0:H p=none:=sH.free hp;have npt:p≠tl:=Ne.symm (zN (bL _ _ e3) hp);have ntt:t'≠tl:=Ne.symm (zN (sA _ _ e3) jH);have nA:∀{z:Addr} {o:HO},H' z=some o->z≠tl->upd (upd H2 t' (.tup [.int (ds.getD i 0),.int (nxt ds i-1),.ref p])) tl (.lst ((zKn ss)++[.ref t'])) z=some o:=λh n=>by rw[zO n];exact sB _ _ h
  refine⟨ss++[⟨t',p,ds.getD i 0,nxt ds i-1,zOZ sps (ds.getD i 0) (ds.getD i 0)⟩],_,_,rfl,zY (sH.trans (sm2.trans (zD jH _))) hJ _,nA e1 nat,nA e2 nbt,by rw[zB,zKm],⟨by rw[wHp,td.len];rfl,λj s hj=>?_,?_⟩,λs hm=>?_⟩
  ·by_cases c:j < ss.length
   ·rw[wHE c] at hj;exact td.at_ j s hj
   rw[wHC ∅] at hj;have:j-ss.length=0:=by
    rcases Nat.eq_zero_or_pos (j-ss.length) with z | z
    ·exact z
    rw[wH8 (by simp;omega)] at hj;cases hj
   have ej:j=i:=by rw[← td.len];omega
   rw[this] at hj;have:=wHo hj;subst this ej;exact⟨rfl,rfl,rfl⟩
  ·rw[wHr,List.nodup_append];refine⟨td.nd,by simp,λz hz w hw=>?_⟩;obtain⟨s,hs1,rfl⟩:=List.mem_map.mp hz;have:w=p:=by simpa using hw
   subst this;exact zN (bL _ _ (hs s hs1).1.2) hp
  rcases wIC hm with z | z
  ·obtain⟨⟨h1,h2⟩,h3,h4,h5⟩:=hs s z;exact⟨⟨nA h1 h5,nA h2 h4⟩,h3,h4,h5⟩
  rw[wIz z];have et':t'≠p:=Ne.symm (zN ep jH);exact⟨⟨by show upd _ tl _ t'=_;rw[zO ntt];exact zB,by show upd _ tl _ p=_;rw[zO npt,zO (Ne.symm et')];exact ep⟩,hp0,npt,ntt⟩
 rintro σ' H' ⟨ss,u,v,rfl,sm,e1,e2,e3,td,hs⟩;rw[wHf] at td;exact⟨_,rfl,q tl ds ss H' hJ sm e3 D dl td λs hm=>⟨(hs s hm).1,(hs s hm).2.1,(hs s hm).2.2.1⟩⟩
def zL8 (p:Pct):Int × Int:=(p.2.2.2.1,p.2.2.2.2)
def zKM {ps:List Pct} {k:Nat} {p:Pct} (h:ps[k]?=some p):lo (ps.map zL8) k=p.2.2.2.1/\hi (ps.map zL8) k=p.2.2.2.2:=by unfold lo hi;rw[wHh,wHn,h];exact⟨rfl,rfl⟩
def zFk (H:Hp) (l:Addr) (ns:List Str) (ps:List Pct) (ds:List Int):Prop:=
 ∃q:List (Addr × Addr),H l=some (.lst (q.map λx=>V.ref x.1))/\q.length=ds.length/\∀(i:Nat) (a w:Addr) (d:Int),q[i]?=some (a,w)->ds[i]?=some d->H a=some (.tup [.int d,.ref w])/\zAf H w ((ps.filter (zBh d)).map (zJ6 ns))/\w≠l
def zFk.same {H H':Hp} {l:Addr} {ns:List Str} {ps:List Pct} {ds:List Int} (x:zFk H l ns ps ds) (s:zAh H H'):zFk H' l ns ps ds:=by obtain⟨q,h1,h2,h3⟩:=x;exact⟨q,s _ _ h1,h2,λi a w d e1 e2=>let ⟨g1,g2,g4⟩:=h3 i a w d e1 e2;⟨s _ _ g1,g2.same s,g4⟩⟩
theorem zPP (ps:List Pct) (d:Int):∀n,n<=ps.length->∃ks:List Nat,zIk (ps.map zL8) d d n=ks.map (λk:Nat=>(k:Int))/\(∀k∈ks,k < n)/\∀(α:Type) (f:Pct->α) (g:Nat->α),(∀k p,ps[k]?=some p->g k=f p)->ks.map g=((ps.take n).filter (zBh d)).map f
 | 0,_=>⟨[],rfl,(λk hk=>nomatch hk),λα f g _=>rfl⟩
 | n+1,h=>by
  obtain⟨ks,e,b,g⟩:=zPP ps d n ∅;have hp:ps[n]?=some ps[n]:=wHg ∅;obtain⟨l1,l2⟩:=zKM hp;have et:(ps.take (n+1)).filter (zBh d)=(ps.take n).filter (zBh d)++[ps[n]].filter (zBh d):=by rw[wHY,hp,List.filter_append];rfl
  by_cases c:(ps[n]).2.2.2.1<=d/\d<=(ps[n]).2.2.2.2
  ·refine⟨ks++[n],?_,λk hk=>?_,λα f g' hg=>?_⟩
   ·rw[zIL (by rw[l1,l2];exact c),e,wHr];rfl
   ·rcases wIC hk with z | z
    ·have:=b k z;omega
    rw[wIz z];omega
   rw[et,List.filter_cons_of_pos (by unfold zBh;rw[wHM c.1,wHM c.2];rfl),List.filter_nil,wHr,wHr,g α f g' hg];show _++[g' n]=_++[f ps[n]];rw[hg n _ hp]
  refine⟨ks,?_,λk hk=>by have:=b k hk;omega,λα f g' hg=>?_⟩
  ·rw[zIj (by rw[l1,l2];exact c),e]
  rw[et,List.filter_cons_of_neg (by unfold zBh;intro z;rw[wHN,decide_eq_true_eq,decide_eq_true_eq] at z;exact c z),List.filter_nil,wHR]
  exact g α f g' hg
def zL9 (ps:List Pct):Prop:=ps.length<=90/\∃B:List Int,B.length<=60/\∀p∈ps,p.2.2.2.1∈B/\p.2.2.2.2+1∈B
def zL9.sp {ps:List Pct} (f:zL9 ps):Few (ps.map zL8):=by obtain⟨l,B,lB,hB⟩:=f;refine⟨by rw[wHf];exact l,B,lB,λk hk=>?_⟩;rw[wHf] at hk;have fW:ps[k]?=some ps[k]:=wHg hk;obtain⟨l1,l2⟩:=zKM fW;rw[l1,l2];exact hB _ (wHF _)
inductive sp_looks (K:W.Frag) (vs:List V) (H:Hp) (Q:VK) (E:XK):Prop
 | mk (nl pl:Addr) (ns:List Str) (ps:List Pct):vs=[.ref nl,.ref pl]->(SqL K H nl (ns.map V.str)/\zAf H pl (ps.map Pct.vs)/\zL9 ps/\(∀p∈ps,p.1∈ns/\p.2.1∈ns)/\zNy (ps.map zL8)/\
 ∀l H' ds,H l=none->zAh H H'->Days (ps.map zL8) ds->ds.length<=900->zFk H' l ns ps ds->Q (.ref l) H')->sp_looks K vs H Q E
def zMr (T:Txt P K mg t):FnOk P w K mg base CX0 42 t.wDx t.wDy ["names","pacts"] (sp_looks K):=by
 refine T.wFi.ok zFT ⟨⟩ ();obtain⟨nl,pl,ns,ps,rfl,hN,hP,cI,eE,so,q⟩:=h;refine⟨_,(zC (zBe (i:=2) zFT.nd rfl (Or.inr rfl) (cal (zFD T) hr T.wDZ T.wCu T.wDY (zQ (pv 0) (pv 1) zE zA zA)))
  (zC (zCk ["giver","taker","part","first","last"] [none,none,none,none,none] (by kernel_rfl) rfl (zAa K (pv 1)) (λ_ _ _ _ _=>(zAt K (n:=5) rfl (zP (zJ (i:=0) ndB rfl (Or.inl rfl)) (zP (zJ (i:=1) ndB rfl (Or.inl rfl)) (zP (zJ (i:=2) ndB rfl (Or.inl rfl)) (zP (zJ (i:=3) ndB rfl (Or.inl rfl)) (zP (zJ (i:=4) ndB rfl (Or.inl rfl)) zAp))))))) (λ_ _ _ _ _=>zAw) (λ_ _ _ _ _=>(zAS (zQ (pv 3) (pv 4) zE zA zA))) (zJ (i:=3) zFT.nd rfl (Or.inl rfl)))
  (zF (zT (zA8 ["first","last","places","ways"] [none,none,none,some 2] (by kernel_rfl) rfl (zAa K (cal (zGT T) hr T.wE3 T.wCI T.wE2 (zG (pv 3) zE zA))) (λ_ _ _ _ _=>(zAt K (n:=3) rfl (zP (zJ (i:=0) ndB rfl (Or.inl rfl)) (zP (zJ (i:=1) ndB rfl (Or.inl rfl)) (zP (zJ (i:=2) ndB rfl (Or.inl rfl)) zAp))))) (λ_ _ _ _ _=>zAw) (λ_ _ _ _ _=>(zAS (zQ (pv 0) (zA8 ["place","ways"] [none,some 3] (by kernel_rfl) rfl (zAa K (pv 2)) (λ_ _ _ _ _=>(zJ (i:=0) ndB rfl (Or.inl rfl))) (λ_ _ _ _ _=>zAw) (λ_ _ _ _ _=>(zAA K (pv 1) (pv 0)))) zE zA zAq)))))))),?_⟩
 have hz:=cI.1;refine⟨_,rfl,_,rfl,nl,pl,ns,ps,rfl,hN,hP,by omega,eE,λwl H1 fU s1 W1=>?_⟩;obtain⟨qs,hp,lq,hq⟩:=hP.same s1;rw[wHf] at lq;refine⟨_,rfl,pl,rfl,⟨_,SqL.of hp⟩,λsl dI=>?_⟩;refine zAl (ys:=qs.map V.ref) (λi σ' H'=>∃(v1 v2 v3 v4 v5:Option V),σ'=[v1,v2,v3,v4,v5]/\zAh H1 H'/\zAf H' sl ((ps.take i).map λp=>[V.int p.2.2.2.1,V.int p.2.2.2.2])) ⟨none,none,none,none,none,rfl,zD dI _,zAf.nil zB⟩ ?_ ?_ ?_
 ·rintro i σ' H' hi ⟨v1,v2,v3,v4,v5,rfl,s',el⟩;exact SqL.of (s' _ _ hp)
 ·rintro i x σ' H' hi ⟨v1,v2,v3,v4,v5,rfl,s',el⟩;rw[wHn] at hi;obtain⟨a,ha,rfl⟩:=wIA hi;have aD:i < ps.length:=by rw[← lq];exact (wIy ha).1
  have bP:ps[i]?=some ps[i]:=wHg aD;have ea:=s' _ _ (hq i a _ ha (by rw[wHn,bP];rfl));refine⟨a,_,rfl,SqT.of ea,rfl,_,_,rfl,_,_,rfl,_,_,rfl,_,_,rfl,_,_,rfl,rfl,?_⟩;refine⟨_,rfl,_,rfl,zAz,λp cT=>?_⟩;have s2:=zD cT (.tup [V.int (ps[i]).2.2.2.1,V.int (ps[i]).2.2.2.2]);obtain⟨q2,g1,g2,g3⟩:=el.same s2;refine⟨_,g1,by rw[wHf,g2,wHf,wHD];exact zAj ∅,_,_,_,_,_,rfl,zY (s'.trans s2) dI _,?_⟩;rw[wHY,bP,wHr];exact zAf.snoc g1 g2 g3 zB
 rintro σ' H2 ⟨v1,v2,v3,v4,v5,rfl,s2,S2⟩;rw[wHf,lq,wHL] at S2;obtain⟨sq,g1,g2,g3⟩:=S2;rw[wHf] at g2;have SA:SpAt K H2 sl (sq.map V.ref) (ps.map zL8):=by refine⟨SqL.of g1,by rw[wHf,wHf,g2],λk hk=>?_⟩;rw[wHf] at hk;have fW:ps[k]?=some ps[k]:=wHg hk;have hsk:sq[k]?=some (sq[k]' ∅):=wHg _;obtain⟨l1,l2⟩:=zKM fW;refine⟨sq[k]' ∅,by rw[wHn,hsk];rfl,?_⟩;rw[l1,l2];exact g3 k _ _ hsk (by rw[wHn,fW];rfl)
 refine⟨_,rfl,sl,_,_,rfl,SA,so,cI.sp,λfl ds ss H3 jS s3 efl D dl Tl ly=>?_⟩;refine⟨fl,rfl,⟨_,SqL.of efl⟩,λl hl=>?_⟩;obtain⟨wq,w1,w2,w3⟩:=W1.same (s2.trans s3);rw[wHf] at w2;have cE:=s2.trans s3;refine zAl (ys:=zKn ss) (λi σ' H'=>∃(v1 v2 v3:Option V),σ'=[v1,v2,v3,some (.ref wl)]/\zAh H3 H'/\zFk H' l ns ps (ds.take i)) ⟨none,none,none,rfl,zD hl _,⟨[],zB,rfl,λi a w d e=>by simp at e⟩⟩ ?_ ?_ ?_
 ·rintro i σ' H' hi ⟨v1,v2,v3,rfl,s4,L4⟩;exact SqL.of (s4 _ _ efl)
 ·rintro i x σ' H4 hx ⟨v1,v2,v3,rfl,s4,L4⟩;have hi:i < ss.length:=by rw[← zGb];exact (wIy hx).1
  have hs:ss[i]?=some ss[i]:=wHg hi;rw[zLZ hs] at hx;cases hx;have hid:i < ds.length:=by rw[← Tl.len];exact hi
  obtain⟨t1,t2,t3⟩:=Tl.at_ i _ hs;obtain⟨⟨tup,lst⟩,_,_⟩:=ly ss[i] (wHF hi);generalize ss[i]=sr at t1 t2 t3 tup lst;have hd:ds[i]?=some (ds.getD i 0):=by rw[wHh,wHg hid];rfl
  generalize ds.getD i 0=d at t1 t3 hd;refine⟨sr.t,_,rfl,SqT.of (s4 _ _ tup),rfl,_,_,rfl,_,_,rfl,_,_,rfl,rfl,?_⟩;obtain⟨ks,ek,bk,gk⟩:=zPP ps d ps.length (wHm _);have ep:sr.ps=ks.map (λk:Nat=>(k:Int)):=by rw[t3,← ek];unfold zOZ;rw[wHf]
  have lk:ks.length<=100:=by have:=congrArg List.length (gk Pct id (λk=>ps.getD k (Str.empty,Str.empty,0,0,0)) (λk p h=>by rw[wHh,h];rfl));rw[wHf,wHf,wHL] at this;rw[this];exact wHv (wIq _ _) ∅
  rw[ep] at lst;refine⟨_,rfl,_,rfl,sr.p,rfl,⟨_,SqL.of (s4 _ _ lst)⟩,λm hm=>?_⟩;refine zAl (ys:=(ks.map (λk:Nat=>(k:Int))).map V.int) (λj σ' H'=>∃(v:Option V),σ'=[v,some (.ref wl)]/\zAh H4 H'/\H' m=some (.lst (((ks.take j).map λk=>wq.getD k 0).map V.ref))) ⟨none,rfl,zD hm _,zB⟩ ?_ ?_ ?_
  ·rintro j σ' H' hj ⟨v,rfl,s5,em⟩;exact SqL.of (s5 _ _ (s4 _ _ lst))
  ·rintro j x σ' H' hx ⟨v,rfl,s5,em⟩;rw[List.map_map,wHn] at hx;obtain⟨k,hk,rfl⟩:=wIA hx;have bI:k < wq.length:=by rw[w2];exact bk k (wHO hk)
   have gC:wq[k]?=some (wq.getD k 0):=by rw[wHh,wHg bI];rfl
   refine⟨_,rfl,_,rfl,wl,_,_,_,rfl,rfl,SqL.of (s5 _ _ (s4 _ _ w1)),(show atI (wq.map V.ref) ((k:Nat):Int)=some (.ref (wq.getD k 0)) from zDL (by rw[wHn,gC];rfl)),_,em,by rw[wHf,wHf,wHD];exact zAj ∅,_,rfl,zY s5 hm _,?_⟩;rw[zB,wHY,hk];simp only[Option.toList_some,wHr,wIg,List.map_nil]
  rintro σ' H5 ⟨v,rfl,s5,em⟩;rw[wHf,wHf,wHL] at em;have TW:zAf H5 m ((ps.filter (zBh d)).map (zJ6 ns)):=by
   refine⟨_,em,?_,λj a ys e1 e2=>?_⟩
   ·have:=congrArg List.length (gk (List V) (zJ6 ns) (λk=>zJ6 ns (ps.getD k (Str.empty,Str.empty,0,0,0))) (λk p h=>by rw[wHh,h];rfl));rw[wHL] at this;rw[← this,wHf,wHf]
   have eg:=gk (List V) (zJ6 ns) (λk=>zJ6 ns (ps.getD k (Str.empty,Str.empty,0,0,0))) (λk p h=>by rw[wHh,h];rfl);rw[wHL] at eg;rw[← eg,wHn] at e2;rw[wHn] at e1;obtain⟨k,hk,rfl⟩:=wIA e1;rw[hk] at e2;cases e2;have bI:k < ps.length:=bk k (wHO hk);have gC:wq[k]?=some (wq.getD k 0):=by rw[wHh,wHg (show k < wq.length by omega)];rfl
   have ep2:ps[k]?=some (ps.getD k (Str.empty,Str.empty,0,0,0)):=by rw[wHh,wHg bI];rfl
   exact s5 _ _ (s4 _ _ (w3 k _ _ gC (by rw[wHn,ep2];rfl)))
  refine⟨zAz,λp cT=>?_⟩;have s6:=zD cT (.tup [V.int sr.f,V.ref m]);obtain⟨q4,a1,a2,a3⟩:=(L4.same s5).same s6;have TW6:=TW.same s6;have lq4:q4.length<=900:=by rw[a2,wHD];omega
  refine⟨_,a1,by rw[wHf];exact zAj ∅,_,_,_,rfl,zY ((s4.trans s5).trans s6) hl _,?_⟩;have s7:zDy l (upd H5 p (.tup [V.int sr.f,V.ref m])) (upd (upd H5 p (.tup [V.int sr.f,V.ref m])) l (.lst ((q4.map λx=>V.ref x.1)++[V.ref p]))):=zDy.upd;have tn:∀{a:Addr} {ys:List V},upd H5 p (.tup [V.int sr.f,V.ref m]) a=some (.tup ys)->a≠l:=λe=>zCC e a1 (by intro z;cases z);have ln:∀{w:Addr} {yss:List (List V)},zAf (upd H5 p (.tup [V.int sr.f,V.ref m])) w yss->w≠l->zAf (upd (upd H5 p (.tup [V.int sr.f,V.ref m])) l (.lst ((q4.map λx=>V.ref x.1)++[V.ref p]))) w yss:=λT n=>T.keep s7 n ⟨_,a1⟩;have ml:m≠l:=λz=>by obtain⟨_,e,_⟩:=L4;rw[z,e] at hm;cases hm
  have et:ds.take (i+1)=ds.take i++[d]:=by rw[wHY,hd];rfl
  refine⟨q4++[(p,m)],by rw[zB,wHr];rfl,by rw[et,wHp,wHp,a2];rfl,λi' a w d' e1 e2=>?_⟩;rw[et] at e2;by_cases c:i' < q4.length
  ·rw[wHE c] at e1;rw[wHE ∅] at e2;obtain⟨b1,b2,b3⟩:=a3 i' a w d' e1 e2;exact⟨s7 _ _ (tn b1) b1,ln b2 b3,b3⟩
  rw[wHC ∅] at e1;rw[wHC ∅] at e2;have z:i'-q4.length=0:=by have:=(wIy e1).1;rw[wH7] at this;omega
  have z2:i'-(ds.take i).length=0:=by omega
  rw[z] at e1;rw[z2] at e2;cases e1;cases e2;refine⟨s7 _ _ (tn zB) ?_,ln TW6 ml,ml⟩;rw[zB,t1]
 rintro σ' H' ⟨v1,v2,v3,rfl,s4,L4⟩;rw[zGb,Tl.len,wHL] at L4;exact q l H' ds ((s1.trans cE).free hl) ((s1.trans cE).trans s4) D dl L4
def zFf (i:Int):(if i < 0 then -i else i)=(i.natAbs:Int):=by omega
inductive sp_greatest_divisor (K:W.Frag) (vs:List V) (H:Hp) (Q:VK) (E:XK):Prop
 | mk (a b:Nat):vs=[.int a,.int b]->(Q (.int (Nat.gcd a b:Nat)) H)->sp_greatest_divisor K vs H Q E
def zBE (T:Txt P K mg t):FnOk P w K mg base CX0 40 t.wAr t.wAs ["one","two"] (sp_greatest_divisor K):=by
 refine T.wAt.ok zAN ⟨⟩ ();obtain⟨a,b,rfl,q⟩:=h;refine⟨_,(zC (zGd PassesOwn.never (zAb zDF (pv 1) zH (zAg _)) (zC (zAF 2 zAN.nd (zV zAu (pv 0) (pv 1)))
  (zC (zAF 0 zAN.nd (pv 1))
  (zF (zAF 1 zAN.nd (pv 2))))))
  (zF (zT (pv 0)))),?_⟩
 refine⟨λm σ H1=>∃(n k:Nat) (r:Option V),m=k/\H1=H/\σ=[some (.int (n:Int)),some (.int (k:Int)),r]/\Nat.gcd n k=Nat.gcd a b,⟨b,a,b,none,rfl,rfl,rfl,rfl⟩,?_⟩;rintro m σ H1 ⟨n,k,r,rfl,rfl,rfl,e⟩;refine⟨_,rfl,rfl,_,rfl,?_⟩;refine zCH (λc=>?_) (λc=>?_)
 ·have k0:m≠0:=λz=>by subst z;revert c;decide
  refine⟨λσ' H'=>H'=H1/\σ'=[some (.int (m:Int)),some (.int ((n%m:Nat):Int)),some (.int ((n%m:Nat):Int))],?_,?_⟩
  ·rintro σ' H' ⟨rfl,rfl⟩;exact⟨n%m,Nat.mod_lt _ (Nat.pos_of_ne_zero k0),m,n%m,_,rfl,rfl,rfl,by rw[← e,Nat.gcd_comm n m,Nat.gcd_rec m n,Nat.gcd_comm (n%m) m]⟩
  refine⟨_,rfl,_,rfl,_,_,rfl,rfl,(by show (0:Int) < _;omega),_,rfl,_,rfl,rfl,?_⟩;rw[Int.natCast_emod];rfl
 have k0:m=0:=by
  by_cases z:m=0
  ·exact z
  exact absurd (by simp[z]) c
 subst k0;rw[Nat.gcd_zero_right] at e;rw[← e] at q;exact⟨_,rfl,q⟩
structure Low (t b x y:Int):Prop where
 pos:0 < y
 one:Nat.gcd x.natAbs y.natAbs=1
 eq:x*b=t*y
 tb:x.natAbs<=t.natAbs
 bb:y.natAbs<=b.natAbs
inductive sp_lowest (K:W.Frag) (vs:List V) (H:Hp) (Q:VK) (E:XK):Prop
 | mk (t b:Int):vs=[.int t,.int b]->(b≠0/\∀(p:Addr) (x y:Int),H p=none->Low t b x y->Q (.ref p) (upd H p (.tup [.int x,.int y])))->sp_lowest K vs H Q E
def zKL {t b:Int} (h:0 < b):Low t b (t.fdiv (gI t b)) (b.fdiv (gI t b)):=by have g0:=zDZ (t:=t) (b:=b) ∅;rw[Int.fdiv_eq_ediv_of_nonneg _ ∅,Int.fdiv_eq_ediv_of_nonneg _ ∅];refine⟨zHi h,zLg ∅,?_,zLh ∅ (wHm _),zLi ∅ (wHm _)⟩;have e1:=zIP (t:=t) (b:=b);have e2:=zHj (t:=t) (b:=b);generalize t / gI t b=x at *;generalize b / gI t b=y at *;generalize gI t b=g at *;rw[← e1,← e2,Int.mul_left_comm,Int.mul_assoc]
theorem zEW {g q:Int} (h:0 < g):(g*q).fdiv (-g)=-q:=by
 have e:g*q=(-g)*(-q):=by rw[Int.neg_mul_neg]
 rw[e];exact Int.mul_fdiv_cancel_left _ ∅
def zO4 {t b:Int} (h:b < 0):Low t b (t.fdiv (-gI t b)) (b.fdiv (-gI t b)):=by
 have g0:=zDZ (t:=t) (b:=b) ∅;have e1:=zIP (t:=t) (b:=b);have e2:=zHj (t:=t) (b:=b);have d1:t.fdiv (-gI t b)=-(t / gI t b):=by have:=zEW (q:=t / gI t b) g0;rw[e1] at this;exact this
 have d2:b.fdiv (-gI t b)=-(b / gI t b):=by have:=zEW (q:=b / gI t b) g0;rw[e2] at this;exact this
 have o:=zLg (t:=t) (b:=b) ∅;have b1:=zLh (t:=t) (b:=b) ∅ (wHm t.natAbs);have b2:=zLi (t:=t) (b:=b) ∅ (wHm b.natAbs);rw[d1,d2];generalize t / gI t b=x at *;generalize b / gI t b=y at *;generalize gI t b=g at *;refine⟨?_,by rw[Int.natAbs_neg,Int.natAbs_neg];exact o,?_,by rw[Int.natAbs_neg];exact b1,by rw[Int.natAbs_neg];exact b2⟩
 ·by_cases z:y < 0
  ·omega
  have:0<=g*y:=Int.mul_nonneg ∅ ∅;omega
 rw[← e1,← e2,Int.neg_mul,Int.mul_neg,Int.mul_left_comm,Int.mul_assoc]
theorem zDm (T:Txt P K mg t):FnOk P w K mg base CX0 41 t.wCS t.wCT ["top","bottom"] (sp_lowest K):=by
 refine T.wBg.ok zEy ⟨⟩ ();obtain⟨a,b,rfl,hb,q⟩:=h;refine⟨_,(zC (zAF 2 zEy.nd (cal (zBE T) hr T.wAR T.wAt T.wAQ (zQ (zR zDu rfl T.wDs PyProof.Rows.boot_abs (zG (pv 0) zE zA)) (zR zDu rfl T.wDs PyProof.Rows.boot_abs (zG (pv 1) zE zA)) zE zS zS)))
  (zC (zAs (zAb zFr (pv 1) zH (zAg _)) (zF (zAF 2 zEy.nd (zPE zMV (pv 2)))) zZ)
  (zF (zT (zAS (zQ (zV (zB5 hr ⋯ T.tree ⟨_,_,rfl,rfl,rfl,rfl,rfl⟩) (pv 0) (pv 2)) (zV (zB5 hr ⋯ T.tree ⟨_,_,rfl,rfl,rfl,rfl,rfl⟩) (pv 1) (pv 2)) zE zX zX)))))),?_⟩
 have g0:0 < gI a b:=zDZ hb;refine⟨_,rfl,_,rfl,_,rfl,_,rfl,a.natAbs,b.natAbs,?_,?_⟩
 ·show [V.int (if a < 0 then -a else a),V.int (if b < 0 then -b else b)]=_;rw[zFf,zFf]
 refine⟨_,rfl,_,_,rfl,rfl,_,rfl,?_⟩;refine zCH (λc=>?_) (λc=>?_)
 ·have c':b < 0:=wHw c;exact⟨_,rfl,_,rfl,_,rfl,_,rfl,_,_,rfl,rfl,(by show -gI a b≠0;omega),_,rfl,_,rfl,_,_,rfl,rfl,(by show -gI a b≠0;omega),zAz,λp hp=>q p _ _ hp (zO4 c')⟩
 have c':¬b < 0:=wHT (wIB c);exact⟨_,rfl,_,rfl,_,_,rfl,rfl,(by show gI a b≠0;omega),_,rfl,_,rfl,_,_,rfl,rfl,(by show gI a b≠0;omega),zAz,λp hp=>q p _ _ hp (zKL ∅)⟩
structure RwAt (H0 H:Hp) (r:Addr) (q:Nat->Addr) (n i:Nat) (A:Mx):Prop where
 top:H r=some (.lst (tab i λk=>V.ref (q k)))
 row:∀k,k < i->H (q k)=some (.lst (tab (n+1) λj=>V.int (A k j)))
 new:∀k,k < i->H0 (q k)=none
 ne:∀k,k < i->q k≠r
 inj:∀k k',k < i->k' < i->q k=q k'->k=k'
def RwAt.congr {H0 H:Hp} {r:Addr} {q:Nat->Addr} {n i:Nat} {A B:Mx} (h:RwAt H0 H r q n i A) (e:∀a b,a < i->b<=n->A a b=B a b):RwAt H0 H r q n i B:=
 ⟨h.top,λk hk=>by rw[h.row k hk];exact congrArg (λl=>some (HO.lst l)) (zA0 λj hj=>vi (e k j hk ∅)),h.new,h.ne,h.inj⟩
def RwAt.set {H0 H:Hp} {r:Addr} {q:Nat->Addr} {n i:Nat} {A:Mx} (h:RwAt H0 H r q n i A) {k j:Nat} {v:Int} (hk:k < i):RwAt H0 (upd H (q k) (.lst ((tab (n+1) λj=>V.int (A k j)).set j (.int v)))) r q n i λa b=>if a=k/\b=j then v else A a b:=by
 refine⟨by rw[zO (Ne.symm (h.ne k hk))];exact h.top,λa ha=>?_,h.new,h.ne,h.inj⟩;by_cases e:a=k
 ·subst e;rw[zB,zCq];refine congrArg (λl=>some (HO.lst l)) (zA0 λb _=>?_);by_cases e2:b=j
  ·rw[wHl e2,wHl ⟨rfl,e2⟩]
  rw[wHj e2,wHj λz=>e2 z.2]
 rw[zO λz=>e (h.inj a k ha hk z),h.row a ha];exact congrArg (λl=>some (HO.lst l)) (zA0 λb _=>by rw[wHj λz=>e z.1])
inductive sp_loss_rows (K:W.Frag) (vs:List V) (H:Hp) (Q:VK) (E:XK):Prop
 | mk (n s0:Nat) (r:Addr) (rs:List V) (ws:Wys):vs=[.int (n:Nat),.ref r,.int (s0:Nat)]->(WyAt K H r rs ws/\WyOk n ws/\s0 < n/\n<=15/\
 ∀(d:Addr) (q:Nat->Addr) (H':Hp),H d=none->zAh H H'->MxAt H' d q n (M0 n ws s0)->Q (.ref d) H')->sp_loss_rows K vs H Q E
def zGV (T:Txt P K mg t):FnOk P w K mg base CX0 40 t.wBn t.wBo ["count","ways","start"] (sp_loss_rows K):=by
 refine T.wCJ.ok zBd ⟨⟩ ();obtain⟨n,s0,r,rs,ws,rfl,wa,wo,sn,aI,qq⟩:=h;refine⟨_,(zC (zCk ["place","count"] [none,some 0] (by kernel_rfl) rfl (zAi rfl T.wAg (zG (pv 0) zE zA)) (λ_ _ _ _ _=>(zJ (i:=0) ndB rfl (Or.inl rfl))) (λ_ _ _ _ _=>zAw) (λ_ _ _ _ _=>(zV zIE (zAo (zG zH zE zM)) (zV zBn (pv 1) zH))) (zJ (i:=3) zBd.nd rfl (Or.inl rfl)))
  (zC (zAr PassesOwn.never rfl (zAi rfl T.wAg (zG (pv 0) zE zA)) (zJ (i:=4) zBd.nd rfl (Or.inl rfl)) (zF (zDR zH (zFA (zAA K (pv 3) (pv 4)) (pv 4) zAX))))
  (zC (zAr PassesOwn.never rfl (zAa K (pv 1)) (zAt K (n:=3) rfl (zP (zJ (i:=5) zBd.nd rfl (Or.inl rfl)) (zP (zJ (i:=6) zBd.nd rfl (Or.inl rfl)) (zP (zJ (i:=7) zBd.nd rfl (Or.inl rfl)) zAp)))) (zF (zDD (zAA K (pv 3) (pv 6)) (pv 5) zC8 (pv 7) zKX zAX)))
  (zC (zDR zH (zFA (zAA K (pv 3) (pv 2)) (pv 0) zAX))
  (zF (zT (pv 3))))))),?_⟩
 refine⟨_,rfl,(n:Nat),rfl,by omega,by omega,λc hc=>?_⟩;refine zBt (n:=((n:Nat):Int).toNat) (λi σ' H'=>∃(v:Option V) (q:Nat->Addr),σ'=[v,some (.int (n:Nat))]/\zAh H H'/\RwAt H H' c q n i λ_ _=>0) ⟨none,λ_=>c,rfl,zD hc _,⟨zB,λk hk=>absurd hk (wHA _),λk hk=>absurd hk (wHA _),λk hk=>absurd hk (wHA _),λk _ hk=>absurd hk (wHA _)⟩⟩ ?_ ?_
 ·rintro i σ' H' hi ⟨v,q,rfl,sm,rw⟩;refine⟨szl,λl1 h1=>⟨_,rfl,_,_,rfl,rfl,l1,_,_,rfl,rfl,zB,(by show -(2 ^ 63)<=(n:Int)+1;omega),(by show (n:Int)+1 < 2 ^ 63;omega),(by show 1*((n:Int)+1).toNat<=sizeLine;exact small ∅),λp hp=>?_⟩⟩;have s1:=(zD h1 (.lst [V.int 0])).trans (zD hp (.lst (List.replicate ((n:Int)+1).toNat [V.int 0]).flatten));have hp0:H' p=none:=(zD h1 _).free hp;have ec:=s1 _ _ rw.top;have aX:p≠c:=Ne.symm (zN rw.top hp0);refine⟨_,ec,by rw[zW];exact zAL ∅,some (.int (0+(i:Int))),λk=>if k=i then p else q k,rfl,zY (sm.trans s1) hc _,?_,λk hk=>?_,λk hk=>?_,λk hk=>?_,λk k' hk aY e=>?_⟩
  ·rw[zB];refine congrArg (λl=>some (HO.lst l)) ?_;rw[← zAD]
   congr 1
   ·exact zA0 λk hk=>by show V.ref (q k)=V.ref (if k=i then p else q k);rw[wHj ∅]
   show [V.ref p]=[V.ref (if i=i then p else q i)];rw[wHl rfl]
  ·by_cases e:k=i
   ·rw[wHl e,zO aX,zB,zP4,show ((n:Int)+1).toNat=n+1 by omega,zFO]
   rw[wHj e,zO (rw.ne k ∅)];exact s1 _ _ (rw.row k ∅)
  ·by_cases e:k=i
   ·rw[wHl e];exact sm.free hp0
   rw[wHj e];exact rw.new k ∅
  ·by_cases e:k=i
   ·rw[wHl e];exact aX
   rw[wHj e];exact rw.ne k ∅
  by_cases e1:k=i
  ·by_cases e2:k'=i
   ·omega
   rw[wHl e1,wHj e2] at e;exact absurd (e ▸ hp0) (by rw[rw.row k' ∅];intro z;cases z)
  by_cases e2:k'=i
  ·rw[wHj e1,wHl e2] at e;exact absurd (e ▸ hp0) (by rw[rw.row k ∅];intro z;cases z)
  rw[wHj e1,wHj e2] at e;exact rw.inj k k' ∅ ∅ e
 rintro σ' H1 ⟨v,q,rfl,s1,rw1⟩;rw[wHS] at rw1;refine⟨_,rfl,(n:Nat),rfl,by omega,by omega,zA9 (n:=((n:Nat):Int).toNat) (λi σ' H'=>∃u0 u1 u2 u3,σ'=[some (.int (n:Nat)),some (.ref r),some (.int (s0:Nat)),some (.ref c),u0,u1,u2,u3]/\zAh H H'/\RwAt H H' c q n n λa b=>if a=b/\a < i then 1000 else 0)
  ⟨_,_,_,_,rfl,s1,rw1.congr λa b _ _=>by rw[wHj ∅]⟩ ?_ ?_⟩
 ·rintro i σ' H' hi ⟨u0,u1,u2,u3,rfl,sm,rw⟩;have aD:i < n:=by omega
  have iz:(0+(i:Int))=(i:Int):=by omega
  have bW:atI (tab n λk=>V.ref (q k)) (0+(i:Int))=some (V.ref (q i)):=by rw[iz];exact zAk aD
  have ix1:ixN (tab (n+1) λj=>V.int (if i=j/\i < i then 1000 else 0)).length (0+(i:Int))=some i:=by rw[iz];exact zBp ∅
  refine⟨_,rfl,_,rfl,c,_,_,_,rfl,rfl,SqL.of rw.top,bW,_,rfl,q i,_,_,_,rfl,rfl,rw.row i aD,ix1,?_⟩;refine⟨_,_,_,_,rfl,zY sm (rw.new i aD) _,(rw.set aD).congr λa b _ _=>?_⟩;by_cases e:a=i/\b=i
  ·rw[wHl e,wHl ∅]
  rw[wHj e];by_cases e2:a=b/\a < i
  ·rw[wHl e2,wHl ∅]
  rw[wHj e2,wHj ∅]
 rintro σ' H2 ⟨u0,u1,u2,u3,rfl,s2,rw2⟩;rw[wHS] at rw2;refine⟨_,rfl,r,rfl,⟨_,s2.seq wa.sq⟩,zAx (K:=K) (a:=r) (xs:=rs) (λi σ' H'=>∃u1 u2 u3,σ'=[some (.int (n:Nat)),some (.ref r),some (.int (s0:Nat)),some (.ref c),u0,u1,u2,u3]/\zAh H H'/\RwAt H H' c q n n λa b=>(if a=b then 1000 else 0)-Sg (λk=>if wt ws k=a/\wg ws k=b then wp ws k else 0) i)
  ⟨_,_,_,rfl,s2,rw2.congr λa b ha _=>by
   show _=_-(0:Int);by_cases e:a=b
   ·rw[wHl ⟨e,ha⟩,wHl e];rfl
   rw[wHj λz=>e z.1,wHj e];rfl⟩ (λi σ' H' _ ⟨_,_,_,_,sm,_⟩=>sm.seq wa.sq) ?_ ?_⟩
 ·rintro i x σ' H' hx ⟨u1,u2,u3,rfl,sm,rw⟩;have hi:i < ws.length:=by rw[← wa.len];exact (wIy hx).1
  obtain⟨q',e1,e2⟩:=wa.at_ i hi;have ex:x=.ref q':=by rw[e1] at hx;exact (wHo hx).symm
  subst ex;have ht:=wo.t i hi;have hg:=wo.g i hi;refine⟨q',_,rfl,SqT.of (sm _ _ e2),rfl,_,_,rfl,_,_,rfl,_,_,rfl,rfl,?_⟩;refine⟨_,rfl,_,rfl,c,_,_,_,rfl,rfl,SqL.of rw.top,zAk ht,_,rfl,q (wt ws i),_,_,_,rfl,rfl,SqL.of (rw.row _ ht),zAk ∅,_,rfl,_,_,rfl,rfl,q (wt ws i),_,_,_,rfl,rfl,rw.row _ ht,zBp ∅,?_⟩;refine⟨_,_,_,rfl,zY sm (rw.new _ ht) _,(rw.set ht).congr λa b _ _=>?_⟩;show _=_-(Sg _ i+(if wt ws i=a/\wg ws i=b then wp ws i else 0));by_cases e:a=wt ws i/\b=wg ws i
  ·have h1:(if wt ws i=a/\wg ws i=b then wp ws i else 0)=wp ws i:=wHl ⟨e.1.symm,e.2.symm⟩;rw[h1,wHl e,e.1,e.2];show (if wt ws i=wg ws i then (1000:Int) else 0)-Sg _ i-wp ws i=_;omega
  have h1:(if wt ws i=a/\wg ws i=b then wp ws i else 0)=0:=wHj λz=>e ⟨z.1.symm,z.2.symm⟩;rw[h1,wHj e];omega
 rintro σ' H3 ⟨u1,u2,u3,rfl,s3,rw3⟩;rw[wa.len] at rw3;refine⟨_,rfl,_,rfl,c,_,_,_,rfl,rfl,SqL.of rw3.top,zAk sn,_,rfl,q s0,_,_,_,rfl,rfl,rw3.row s0 sn,zBp ∅,?_⟩;have rw4:=(rw3.set (j:=n) (v:=1000) sn).congr (B:=M0 n ws s0) λa b ha hb=>by
  unfold M0;by_cases e:b=n
  ·rw[wHl e];by_cases e2:a=s0
   ·rw[wHl ⟨e2,e⟩,wHl e2]
   rw[wHj λz=>e2 z.1,wHj e2,wHj ∅,zCU λk hk=>wHj λz=>by have:=wo.g k hk;omega];rfl
  rw[wHj λz=>e z.2,wHj e]
 exact⟨_,rfl,qq c q _ hc (zY s3 (rw3.new s0 sn) _) ⟨rw4.top,rw4.row⟩⟩
inductive sp_cut_down (K:W.Frag) (vs:List V) (H:Hp) (Q:VK) (E:XK):Prop
 | mk (r:Addr) (m j0:Nat) (f:Nat->Int):vs=[.ref r]->(SqL K H r (tab m λj=>V.int (f j))/\j0 < m/\f j0≠0/\m<=900/\
 ∀(d:Addr) (c:Int) (g:Nat->Int) (H':Hp),H d=none->zAh H H'->0 < c->(∀j,j < m->c*g j=f j)->H' d=some (.lst (tab m λj=>V.int (g j)))->Q (.ref d) H')->sp_cut_down K vs H Q E
def zIc (T:Txt P K mg t):FnOk P w K mg base CX0 41 t.wBO t.wBP ["row"] (sp_cut_down K):=by
 refine T.wDg.ok zCb ⟨⟩ ();obtain⟨r,m,j0,f,rfl,hS,j0m,f0,m9,q⟩:=h;refine⟨_,(zC (zBe (i:=1) zCb.nd rfl (Or.inr rfl) zH)
  (zC (zAr PassesOwn.never rfl (zAa K (pv 0)) (zJ (i:=2) zCb.nd rfl (Or.inl rfl)) (zF (zBe (i:=1) zCb.nd rfl (Or.inr rfl) (cal (zBE T) hr T.wAR T.wAt T.wAQ (zQ (zR zDu rfl T.wDs PyProof.Rows.boot_abs (zG (pv 2) zE zA)) (pv 1) zE zS zA)))))
  (zF (zT (zA8 ["number","divisor"] [none,some 1] (by kernel_rfl) rfl (zAa K (pv 0)) (λ_ _ _ _ _=>(zJ (i:=0) ndB rfl (Or.inl rfl))) (λ_ _ _ _ _=>zAw) (λ_ _ _ _ _=>(zV (zB5 hr ⋯ T.tree ⟨_,_,rfl,rfl,rfl,rfl,rfl⟩) (pv 0) (pv 1)))))))),?_⟩
 refine⟨_,rfl,r,rfl,⟨_,hS⟩,zAx (K:=K) (a:=r) (xs:=tab m λj=>V.int (f j)) (λi σ' H'=>∃u,σ'=[some (.ref r),some (.int (gT f i:Nat)),u]/\H'=H)
  ⟨_,rfl,rfl⟩ (λi σ' H' _ ⟨_,_,e⟩=>by rw[e];exact hS) ?_ ?_⟩
 ·rintro i x σ' H' hx ⟨u,rfl,rfl⟩;obtain⟨hi,rfl⟩:=zA5 hx;refine⟨_,rfl,_,rfl,_,rfl,(f i).natAbs,gT f i,?_,?_⟩
  ·show [V.int (if f i < 0 then -f i else f i),V.int (gT f i:Nat)]=_;rw[zFf]
  exact⟨_,rfl,rfl⟩
 rintro σ' H1 ⟨u,rfl,rfl⟩;rw[zW];have gp:0 < gT f m:=zNn j0m f0;refine⟨_,rfl,r,rfl,⟨_,hS⟩,λc hc=>?_⟩;refine zAl (K:=K) (ys:=tab m λj=>V.int (f j)) (λi σ' H'=>∃v,σ'=[v,some (.int (gT f m:Nat))]/\H'=upd H1 c (.lst (tab i λj=>V.int ((f j).fdiv (gT f m:Nat))))) ⟨none,rfl,rfl⟩ (λj σ2 H2 _ ⟨_,_,e⟩=>by rw[e];exact (zD hc _).seq hS) ?_ ?_
 ·rintro i x σ' H' hx ⟨v,rfl,rfl⟩;obtain⟨hi,rfl⟩:=zA5 hx;refine⟨_,rfl,_,rfl,_,_,rfl,rfl,(by show ((gT f m:Nat):Int)≠0;omega),_,zB,by rw[zW];exact zAL ∅,_,rfl,?_⟩;rw[zBi,← zAD]
 rintro σ' H2 ⟨v,rfl,rfl⟩;rw[zW];exact q c (gT f m:Nat) _ _ hc (zD hc _) ∅ (λj hj=>zDr ∅ (zNo hj)) zB
inductive sp_strike_out (K:W.Frag) (vs:List V) (H:Hp) (Q:VK) (E:XK):Prop
 | mk (r:Addr) (q:Nat->Addr) (n p b:Nat) (A:Mx):vs=[.ref r,.int (p:Nat)]->(MxAt H r q n A/\Good n p A/\p < n/\n<=15/\b<=1000000/\(∀i j,i < n->j<=n->Bt b (A i j))/\
 ∀(d:Addr) (q':Nat->Addr) (B:Mx) (c:Nat->Int) (H':Hp),H d=none->zAh H H'->MxAt H' d q' n B->Stp n p A B c->(∀i j,i < n->j<=n->Bt (2*b+1) (B i j))->Q (.ref d) H')->sp_strike_out K vs H Q E
def zGf (T:Txt P K mg t):FnOk P w K mg base CX0 42 t.wA6 t.wA7 ["rows","place"] (sp_strike_out K):=by
 refine T.wCt.ok zBk ⟨⟩ ();obtain⟨r,q,n,p,b,A,rfl,mx,gd,pn,aI,b6,bt,qq⟩:=h;refine⟨_,(zC (zBe (i:=2) zBk.nd rfl (Or.inr rfl) (zAA K (pv 0) (pv 1)))
  (zC (zAF 3 zBk.nd (zAo zE))
  (zC (zAr PassesOwn.never rfl (zKz rfl T.wCR (zG (pv 0) zE zA)) (zAt K (n:=2) rfl (zP (zJ (i:=4) zBk.nd rfl (Or.inl rfl)) (zP (zJ (i:=5) zBk.nd rfl (Or.inr rfl)) zAp))) (zF (zAs (PW.pt (zDB (zAb zCB (pv 4) (pv 1) (zAg _)) (zCp (zAb zCB (zAA K (pv 5) (pv 1)) zH (zAg _))))) (zF (zAm (zBz K wHV wH2 wH6 zA3 (pv 3) (zG (pv 5) zE zA)))) (zF (zAm (zBz K wHV wH2 wH6 zA3 (pv 3) (zG (cal (zIc T) hr T.wFB T.wDg T.wFA (zG (zA8 ["one","two","own","place","row"] [none,none,some 2,some 1,some 5] (by kernel_rfl) rfl (zI6 rfl T.wEf (zQ (pv 5) (pv 2) zE zA zA)) (λ_ _ _ _ _=>(zAt K (n:=2) rfl (zP (zJ (i:=0) ndB rfl (Or.inl rfl)) (zP (zJ (i:=1) ndB rfl (Or.inl rfl)) zAp)))) (λ_ _ _ _ _=>zAw) (λ_ _ _ _ _=>(zV zEI (zV zBs (zAA K (pv 2) (pv 3)) (pv 0)) (zV zBs (zAA K (pv 4) (pv 3)) (pv 1))))) zE zAq)) zE zS)))))))
  (zF (zT (pv 3)))))),?_⟩
 have pv:=gd.piv pn;have raw:Good n (p+1) λi j=>if i=p then A p j else A p p*A i j-A i p*A p j:=gd.step pn (c:=λ_=>1) ⟨λj _=>wHl rfl,λ_ _ _=>by show (0:Int) < 1;decide,λi j _ e _=>by show 1*(if i=p then _ else _)=_;rw[wHj e,Int.one_mul]⟩;refine⟨_,rfl,_,rfl,r,_,_,_,rfl,rfl,SqL.of mx.top,zAk pn,?_⟩;refine⟨szl,λtd dY=>?_⟩;have s0:=zD dY (.lst []);refine⟨_,rfl,r,_,rfl,SqL.of (s0 _ _ mx.top),zMG (K:=K) (ys:=tab n λi=>V.ref (q i)) (λi σ' H'=>∃(u v:Option V) (q':Nat->Addr) (B:Mx) (c:Nat->Int),σ'=[some (.ref r),some (.int (p:Nat)),some (.ref (q p)),some (.ref td),u,v]/\zAh H H'/\H' td=some (.lst (tab i λk=>V.ref (q' k)))/\
   ∀k,k < i->H' (q' k)=some (.lst (tab (n+1) λj=>V.int (B k j)))/\q' k≠td/\(k=p->∀j,j<=n->B k j=A k j)/\(k≠p->0 < c k/\∀j,j<=n->c k*B k j=A p p*A k j-A k p*A p j))
  ⟨none,none,λ_=>td,λ_ _=>0,λ_=>0,rfl,s0,zB,λk hk=>absurd hk (wHA _)⟩ (λi σ' H' _ ⟨_,_,_,_,_,_,sm,_⟩=>SqL.of (sm _ _ mx.top)) ?_ ?_⟩
 ·rintro i x σ' H' T hx ⟨u,v,q',B,c,rfl,sm,et,hk⟩ hT;obtain⟨hi,rfl⟩:=zA5 hx;have sT:=zD hT (.tup [.int (i:Int),.ref (q i)]);have bL:=sm.trans sT;have nV:=sT _ _ et;have row:=bL _ _ (mx.row i hi);have lS:=bL _ _ (mx.row p pn);have nq:q i≠td:=zN (mx.row i hi) dY;refine⟨T,_,rfl,SqT.of zB,rfl,_,_,rfl,_,_,rfl,rfl,?_⟩;have fin:∀(H2:Hp) (a:Addr) (g:Nat->Int) (c':Int),zAh (upd H' T (.tup [.int (i:Int),.ref (q i)])) H2->H2 a=some (.lst (tab (n+1) λj=>V.int (g j)))->a≠td->(i=p->∀j,j<=n->g j=A i j)->(i≠p->0 < c'/\∀j,j<=n->c'*g j=A p p*A i j-A i p*A p j)->
    H2 td=some (.lst (tab i λk=>V.ref (q' k)))/\(tab i λk=>V.ref (q' k)).length < sizeLine/\
    ∃(u v:Option V) (q2:Nat->Addr) (B:Mx) (c:Nat->Int),[some (.ref r),some (.int (p:Nat)),some (.ref (q p)),some (.ref td),some (.int (i:Int)),some (.ref (q i))]=[some (.ref r),some (.int (p:Nat)),some (.ref (q p)),some (.ref td),u,v]/\zAh H (upd H2 td (.lst ((tab i λk=>V.ref (q' k))++[.ref a])))/\upd H2 td (.lst ((tab i λk=>V.ref (q' k))++[.ref a])) td=some (.lst (tab (i+1) λk=>V.ref (q2 k)))/\
     ∀k,k < i+1->upd H2 td (.lst ((tab i λk=>V.ref (q' k))++[.ref a])) (q2 k)=some (.lst (tab (n+1) λj=>V.int (B k j)))/\q2 k≠td/\(k=p->∀j,j<=n->B k j=A k j)/\(k≠p->0 < c k/\∀j,j<=n->c k*B k j=A p p*A k j-A k p*A p j):=by
   intro H2 a g c' sA ea na h1 h2;refine⟨sA _ _ nV,by rw[zW];exact zAL ∅,_,_,λk=>if k=i then a else q' k,λk=>if k=i then g else B k,λk=>if k=i then c' else c k,rfl,zY (bL.trans sA) dY _,?_,λk bI=>?_⟩
   ·rw[zB];refine congrArg (λl=>some (HO.lst l)) ?_;rw[← zAD]
    congr 1
    ·exact zA0 λk hk=>by show V.ref (q' k)=V.ref (if k=i then a else q' k);rw[wHj ∅]
    show [V.ref a]=[V.ref (if i=i then a else q' i)];rw[wHl rfl]
   by_cases e:k=i
   ·subst e;simp only[↓reduceIte];exact⟨by rw[zO na];exact ea,na,h1,h2⟩
   simp only[wHj e];obtain⟨a1,a2,a3,a4⟩:=hk k ∅;exact⟨by rw[zO a2];exact sA _ _ (sT _ _ a1),a2,a3,a4⟩
  have keep:(i=p∨A i p=0)->_:=λz=>fin (upd H' T (.tup [.int (i:Int),.ref (q i)])) (q i) (A i) (A p p) (λ_ _ x=>x) row nq (λ_ _ _=>rfl) λne=>⟨pv,λj _=>by
   rcases z with z | z
   ·exact absurd z ne
   rw[z];simp⟩
  refine⟨_,rfl,_,rfl,rfl,_,rfl,zCH (λc1=>?_) (λc1=>?_)⟩
  ·have c2:i=p:=by have:=V.int.inj (wHw c1);omega
   obtain⟨k1,k2,k3⟩:=keep (.inl c2);refine zG5 ?_;exact⟨_,rfl,.inl ⟨rfl,_,SqL.of k1⟩,_,rfl,td,_,_,rfl,rfl,k1,k2,k3⟩
  have c2:i≠p:=λz=>wHT (wIB c1) (by rw[z]);refine⟨_,rfl,_,rfl,q i,_,_,_,rfl,rfl,SqL.of row,zAk ∅,rfl,_,rfl,zCH (λc3=>?_) (λc3=>?_)⟩
  ·have c4:A i p=0:=V.int.inj (wHw c3);obtain⟨k1,k2,k3⟩:=keep (.inr c4);exact⟨_,rfl,.inl ⟨rfl,_,SqL.of k1⟩,_,rfl,td,_,_,rfl,rfl,k1,k2,k3⟩
  refine⟨_,rfl,.inl ⟨rfl,_,SqL.of nV⟩,_,rfl,_,rfl,q i,q p,_,_,rfl,SqL.of row,SqL.of lS,λe he=>?_⟩;refine zGu (K:=K) (xs:=tab (n+1) λj=>V.int (A i j)) (ys:=tab (n+1) λj=>V.int (A p j)) (by rw[zW,zW]) (λj σ2 H2=>∃v0 v1,σ2=[v0,v1,some (.ref (q p)),some (.int (p:Nat)),some (.ref (q i))]/\zAh (upd H' T (.tup [.int (i:Int),.ref (q i)])) H2/\H2 e=some (.lst (tab j λj=>V.int (A p p*A i j-A i p*A p j)))) ⟨none,none,rfl,zD he _,zB⟩ (λj σ2 H2 _ ⟨_,_,_,s2,_⟩=>⟨SqL.of (s2 _ _ row),SqL.of (s2 _ _ lS)⟩) ?_ ?_
  ·rintro j x y σ2 H2 T2 hx hy ⟨v0,v1,rfl,s2,ee⟩ dP;obtain⟨hj,rfl⟩:=zA5 hx;obtain⟨_,rfl⟩:=zA5 hy;have s3:=s2.trans (zD dP (.tup [.int (A i j),.int (A p j)]));have ne:e≠T2:=zN ee dP;refine⟨T2,_,rfl,SqT.of zB,rfl,_,_,rfl,_,_,rfl,rfl,?_⟩;have m1:=zAO (bt p p pn ∅) (bt i j hi ∅) ∅;have m2:=zAO (bt i p hi ∅) (bt p j pn ∅) ∅;refine⟨_,rfl,_,rfl,q p,_,_,_,rfl,rfl,SqL.of (s3 _ _ lS),zAk ∅,_,rfl,_,_,rfl,rfl,m1,_,rfl,_,rfl,q i,_,_,_,rfl,rfl,SqL.of (s3 _ _ row),zAk ∅,_,rfl,_,_,rfl,rfl,m2,_,_,rfl,rfl,?_⟩;refine⟨_,by rw[zO ne];exact ee,by rw[zW];exact zAL ∅,_,_,rfl,zY s3 he _,?_⟩;rw[zB,← zAD]
  rintro σ2 H2 ⟨v0,v1,rfl,s2,ee⟩;rw[zW] at ee;have rp:=raw.piv hi;simp only[wHj c2] at rp;refine⟨e,n+1,i,_,rfl,SqL.of ee,by omega,by omega,by omega,λd c' g H3 hd s3 hc hg ed=>?_⟩;have sA:=s2.trans s3;obtain⟨k1,k2,k3⟩:=fin H3 d g c' sA ed (Ne.symm (zN (s2 _ _ nV) hd)) (λz=>absurd z c2) λ_=>⟨hc,λj hj=>hg j ∅⟩;exact⟨td,_,_,rfl,rfl,k1,k2,k3⟩
 rintro σ' H' ⟨u,v,q',B,c,rfl,sm,et,hk⟩;rw[zW] at et hk;have st:Stp n p A B c:=⟨λj hj=>(hk p pn).2.2.1 rfl j hj,λi hi e=>((hk i hi).2.2.2 e).1,λi j hi e hj=>((hk i hi).2.2.2 e).2 j hj⟩;refine⟨_,rfl,qq td q' B c H' dY sm ⟨et,λi hi=>(hk i hi).1⟩ st λi j hi hj=>?_⟩;by_cases e:i=p
 ·rw[(hk i hi).2.2.1 e j hj];exact (bt i j hi hj).mono ∅
 refine Bt.div (st.pos i hi e) ?_;rw[st.eq i j hi e hj];have:=((bt p p pn ∅).mul (bt i j hi hj)).sub ((bt i p hi ∅).mul (bt p j pn hj));exact this.mono ∅
def zR0 {i:Nat} (h:i<=15):1<=2 ^ i/\2 ^ i<=32768:=⟨Nat.one_le_two_pow,by have:2 ^ i<=2 ^ 15:=Nat.pow_le_pow_right ⋯ h;omega⟩
inductive sp_arrivals (K:W.Frag) (vs:List V) (H:Hp) (Q:VK) (E:XK):Prop
 | mk (n s0:Nat) (r:Addr) (rs:List V) (ws:Wys):vs=[.int (n:Nat),.ref r,.int (s0:Nat)]->(WyAt K H r rs ws/\WyOk n ws/\zN0 n ws/\s0 < n/\n<=15/\
 ∀(d:Addr) (q:Nat->Addr) (X Y:Nat->Int) (H':Hp),H d=none->zAh H H'->FrAt H' d q n X Y->FrOk n X Y->(∀i,i < n->Bt 390000 (X i)/\Bt 390000 (Y i))->(∀(x:Nat->Int) (l:Int),(∀i,i < n->x i*Y i=X i*l)↔Sol n (M0 n ws s0) x l)->Q (.ref d) H')->sp_arrivals K vs H Q E
def zEL (T:Txt P K mg t):FnOk P w K mg base CX0 43 t.wBQ t.wBR ["count","ways","start"] (sp_arrivals K):=by
 refine T.wBZ.ok zCd ⟨⟩ ();obtain⟨n,s0,r,rs,ws,rfl,wa,wo,op,sn,aI,qq⟩:=h;refine⟨_,(zC (zBe (i:=3) zCd.nd rfl (Or.inr rfl) (cal (zGV T) hr T.wE5 T.wCJ T.wE4 (zAe (pv 0) (pv 1) (pv 2) zE zA zA zA)))
  (zC (zAr PassesOwn.never rfl (zAi rfl T.wAg (zG (pv 0) zE zA)) (zJ (i:=4) zCd.nd rfl (Or.inl rfl)) (zF (zBe (i:=3) zCd.nd rfl (Or.inr rfl) (cal (zGf T) hr T.wEE T.wCt T.wED (zQ (pv 3) (pv 4) zE zA zA)))))
  (zF (zT (zA8 ["place","count","rows"] [none,some 0,some 3] (by kernel_rfl) rfl (zAi rfl T.wAg (zG (pv 0) zE zA)) (λ_ _ _ _ _=>(zJ (i:=0) ndB rfl (Or.inl rfl))) (λ_ _ _ _ _=>zAw) (λ_ _ _ _ _=>(cal (zDm T) hr T.wBY T.wBg T.wBX (zQ (zAA K (zAA K (pv 2) (pv 0)) (pv 1)) (zAA K (zAA K (pv 2) (pv 0)) (pv 0)) zE zK zK)))))))),?_⟩
 refine⟨_,rfl,_,rfl,_,rfl,n,s0,r,rs,ws,rfl,wa,wo,sn,aI,λd q H1 hd s1 mx1=>?_⟩;refine⟨_,rfl,(n:Nat),rfl,by omega,by omega,zA9 (n:=((n:Nat):Int).toNat) (λi σ' H'=>∃(d:Addr) (q:Nat->Addr) (A:Mx) (u:Option V),σ'=[some (.int (n:Nat)),some (.ref r),some (.int (s0:Nat)),some (.ref d),u]/\zAh H H'/\MxAt H' d q n A/\Good n i A/\(∀a b,a < n->b<=n->Bt (11*2 ^ i-1) (A a b))/\∀x l,Sol n A x l↔Sol n (M0 n ws s0) x l)
  ⟨d,q,M0 n ws s0,none,rfl,s1,mx1,zOU wo op,λa b _ _=>Bt.small (zRs wo) ⋯,λx l=>Iff.rfl⟩ ?_ ?_⟩
 ·rintro i σ' H' hi ⟨d,q,A,u,rfl,sm,mx,gd,bt,so⟩;have aD:i < n:=by omega
  have p1:=zR0 (i:=i) ∅;have p2:2 ^ (i+1)=2 ^ i*2:=Nat.pow_succ ..;refine⟨_,rfl,_,rfl,d,q,n,i,11*2 ^ i-1,A,by rw[show (0+(i:Int))=(i:Int) by omega];rfl,mx,gd,aD,aI,by omega,bt,λd' q' B c H2 bS s2 mx' st bt'=>?_⟩;exact⟨d',q',B,_,rfl,sm.trans s2,mx',gd.step aD st,λa b ha hb=>(bt' a b ha hb).mono ∅,λx l=>⟨λz=>(so x l).mp (st.back (gd.piv aD) aD z),λz=>st.forth aD ((so x l).mpr z)⟩⟩
 rintro σ' H2 ⟨d,q,A,u,rfl,sm,mx,gd,bt,so⟩;rw[wHS] at gd bt;have p1:=zR0 (i:=n) aI;refine⟨_,rfl,(n:Nat),rfl,by omega,by omega,λc hc=>?_⟩;refine zBt (n:=((n:Nat):Int).toNat) (λi σ' H'=>∃(v:Option V) (qf:Nat->Addr) (X Y:Nat->Int),σ'=[v,some (.int (n:Nat)),some (.ref d)]/\zAh H2 H'/\H' c=some (.lst (tab i λk=>V.ref (qf k)))/\∀k,k < i->H' (qf k)=some (.tup [.int (X k),.int (Y k)])/\Low (A k n) (A k k) (X k) (Y k))
  ⟨none,λ_=>c,λ_=>0,λ_=>0,rfl,zD hc _,zB,λk hk=>absurd hk (wHA _)⟩ ?_ ?_
 ·rintro i σ' H' hi ⟨v,qf,X,Y,rfl,s3,ec,hk⟩;have aD:i < n:=by omega
  have iz:(0+(i:Int))=(i:Int):=by omega
  have bW:atI (tab n λk=>V.ref (q k)) (0+(i:Int))=some (V.ref (q i)):=by rw[iz];exact zAk aD
  have at2:atI (tab (n+1) λj=>V.int (A i j)) (0+(i:Int))=some (V.int (A i i)):=by rw[iz];exact zAk ∅
  have rt:=SqL.of (K:=K) (s3 _ _ mx.top);have rr:=SqL.of (K:=K) (s3 _ _ (mx.row i aD));refine⟨_,rfl,_,rfl,d,_,_,_,rfl,rfl,rt,bW,_,rfl,q i,_,_,_,rfl,rfl,rr,zAk ∅,_,rfl,_,rfl,d,_,_,_,rfl,rfl,rt,bW,_,rfl,q i,_,_,_,rfl,rfl,rr,at2,A i n,A i i,rfl,by have:=gd.piv aD;omega,λp x y hp lw=>?_⟩;have aX:c≠p:=zN ec hp;refine⟨_,by rw[zO aX];exact ec,by rw[zW];exact zAL ∅,_,λk=>if k=i then p else qf k,λk=>if k=i then x else X k,λk=>if k=i then y else Y k,rfl,zY (s3.trans (zD hp _)) hc _,?_,λk bI=>?_⟩
  ·rw[zB];refine congrArg (λl=>some (HO.lst l)) ?_;rw[← zAD]
   congr 1
   ·exact zA0 λk hk=>by show V.ref (qf k)=V.ref (if k=i then p else qf k);rw[wHj ∅]
   show [V.ref p]=[V.ref (if i=i then p else qf i)];rw[wHl rfl]
  by_cases e:k=i
  ·subst e;simp only[↓reduceIte];exact⟨by rw[zO (Ne.symm aX)];exact zB,lw⟩
  simp only[wHj e];obtain⟨a1,a2⟩:=hk k ∅;refine⟨?_,a2⟩;rw[zO (zCC a1 ec (by intro z;cases z))];exact zD hp _ _ _ a1
 rintro σ' H' ⟨v,qf,X,Y,rfl,s3,ec,hk⟩;rw[wHS] at ec hk;have sub:∀{a b:Int},Bt (11*2 ^ n-1) b->a.natAbs<=b.natAbs->Bt 390000 a:=λh e=>Bt.mono (j:=11*2 ^ n-1) (wHK e h) ∅;refine qq c qf X Y H' (sm.free hc) (sm.trans s3) ⟨ec,λk bI=>(hk k bI).1⟩ ⟨λi hi=>(hk i hi).2.pos,λi hi=>(hk i hi).2.one,λi hi=>?_,λi hi=>(sub (bt i n hi (wHm _)) (hk i hi).2.tb).mono ⋯,λi hi=>(sub (bt i i hi ∅) (hk i hi).2.bb).mono ⋯⟩ (λi hi=>⟨sub (bt i n hi (wHm _)) (hk i hi).2.tb,sub (bt i i hi ∅) (hk i hi).2.bb⟩) λx l=>?_
 ·have lw:=(hk i hi).2;have h1:=zCG (gd.rhs i hi) (wIn lw.pos);rw[← lw.eq,wH1] at h1;exact zEw (gd.piv hi) h1
 rw[← so x l,gd.sol];constructor
 ·intro h i hi;have lw:=(hk i hi).2;refine zB2 lw.pos ?_;have e1:=h i hi;have e2:=lw.eq
  grind
 intro h i hi;have lw:=(hk i hi).2;refine zB2 (gd.piv hi) ?_;have e1:=h i hi;have e2:=lw.eq
 grind
def zHd {ws:Wys} {n i:Nat}:(tab n λh=>V.int (1000-zAV ws i h)).set (wg ws i) (.int (1000-zAV ws i (wg ws i)-wp ws i))=tab n λh=>V.int (1000-zAV ws (i+1) h):=by
 rw[zCq];refine zA0 λh _=>?_;show _=V.int (1000-(zAV ws i h+if wg ws i=h then wp ws i else 0));by_cases c:h=wg ws i
 ·subst c;rw[wHl rfl,wHl rfl];congr 1;omega
 rw[wHj c,wHj (Ne.symm c)];congr 1;omega
inductive sp_kept (K:W.Frag) (vs:List V) (H:Hp) (Q:VK) (E:XK):Prop
 | mk (n:Nat) (r:Addr) (rs:List V) (ws:Wys):vs=[.int (n:Nat),.ref r]->(WyAt K H r rs ws/\(∀k,k < ws.length->wg ws k < n)/\n<=900/\
 ∀(d:Addr) (H':Hp),H d=none->zAh H H'->H' d=some (.lst (tab n λh=>V.int (keeps ws h)))->Q (.ref d) H')->sp_kept K vs H Q E
def zIa (T:Txt P K mg t):FnOk P w K mg base CX0 40 t.wEi t.wEj ["count","ways"] (sp_kept K):=by
 refine T.wDf.ok zE0 ⟨⟩ ();obtain⟨n,r,rs,ws,rfl,wa,wo,n9,q⟩:=h;refine⟨_,(zC (zAF 2 zE0.nd (zV zIE (zAo (zG zH zE zM)) (pv 0)))
  (zC (zAr PassesOwn.never rfl (zAa K (pv 1)) (zAt K (n:=3) rfl (zP (zJ (i:=3) zE0.nd rfl (Or.inl rfl)) (zP (zJ (i:=4) zE0.nd rfl (Or.inl rfl)) (zP (zJ (i:=5) zE0.nd rfl (Or.inl rfl)) zAp)))) (zF (zDD (pv 2) (pv 3) zC8 (pv 5) zKX zAX)))
  (zF (zT (pv 2))))),?_⟩
 refine⟨szl,λl1 h1=>⟨_,rfl,l1,_,_,rfl,rfl,zB,by omega,by omega,?_,λd hd=>?_⟩⟩
 ·show 1*_<=sizeLine;exact small ∅
 have s0:=(zD h1 (.lst [V.int 1000])).trans (zD hd (.lst (List.replicate (n:Int).toNat [V.int 1000]).flatten));have cZ:H d=none:=(zD h1 _).free hd;refine⟨_,rfl,r,rfl,⟨_,s0.seq wa.sq⟩,zAx (K:=K) (a:=r) (xs:=rs) (λi σ' H'=>∃u v w,σ'=[some (.int (n:Nat)),some (.ref r),some (.ref d),u,v,w]/\zAh H H'/\H' d=some (.lst (tab n λh=>V.int (1000-zAV ws i h))))
  ⟨_,_,_,rfl,s0,by rw[zB,zP4,wHS,zFO];exact congrArg (λl=>some (HO.lst l)) (zA0 λi _=>by show _=V.int (1000-0);rfl)⟩ (λi σ' H' _ ⟨_,_,_,_,sm,_⟩=>sm.seq wa.sq) ?_ ?_⟩
 ·rintro i x σ' H' hx ⟨u,v,w,rfl,sm,ed⟩;have hi:i < ws.length:=by rw[← wa.len];exact (wIy hx).1
  obtain⟨q',e1,e2⟩:=wa.at_ i hi;have ex:x=.ref q':=by rw[e1] at hx;exact (wHo hx).symm
  subst ex;refine⟨q',_,rfl,SqT.of (sm _ _ e2),rfl,_,_,rfl,_,_,rfl,_,_,rfl,rfl,?_⟩;refine⟨_,rfl,_,rfl,d,_,_,_,rfl,rfl,SqL.of ed,zAk (wo i hi),_,rfl,_,_,rfl,rfl,d,_,_,_,rfl,rfl,ed,zBp (wo i hi),?_⟩;exact⟨_,_,_,rfl,zY sm cZ _,by rw[zB,zHd]⟩
 rintro σ' H' ⟨u,v,w,rfl,sm,ed⟩;rw[wa.len] at ed;exact⟨_,rfl,q d H' cZ sm ed⟩
inductive sp_times (K:W.Frag) (vs:List V) (H:Hp) (Q:VK) (E:XK):Prop
 | mk (p r:Addr) (x y z u:Int):vs=[.ref p,.ref r]->(SqT K H p [.int x,.int y]/\SqT K H r [.int z,.int u]/\IntMulOk x z/\IntMulOk y u/\y*u≠0/\∀(m:Addr) (a b:Int),H m=none->Low (x*z) (y*u) a b->Q (.ref m) (upd H m (.tup [.int a,.int b])))->sp_times K vs H Q E
def zIF (T:Txt P K mg t):FnOk P w K mg base CX0 42 t.wDv t.wDw ["one","two"] (sp_times K):=by refine T.wDS.ok zLT ⟨⟩ ();obtain⟨p,r,x,y,z,u,rfl,ex,ey,m1,m2,h0,q⟩:=h;refine⟨_,(zF (zT (cal (zDm T) hr T.wBY T.wBg T.wBX (zQ (zV zBs (zBr K (pv 0) zH) (zBr K (pv 1) zH)) (zV zBs (zBr K (pv 0) zH) (zBr K (pv 1) zH)) zE zX zX)))),?_⟩;exact⟨_,rfl,p,_,_,_,rfl,rfl,ex,rfl,_,rfl,r,_,_,_,rfl,rfl,ey,rfl,_,_,rfl,rfl,m1,_,rfl,p,_,_,_,rfl,rfl,ex,rfl,_,rfl,r,_,_,_,rfl,rfl,ey,rfl,_,_,rfl,rfl,m2,x*z,y*u,rfl,h0,q⟩
inductive sp_shares (K:W.Frag) (vs:List V) (H:Hp) (Q:VK) (E:XK):Prop
 | mk (n s0:Nat) (r:Addr) (rs:List V) (ws:Wys):vs=[.int (n:Nat),.ref r,.int (s0:Nat)]->(WyAt K H r rs ws/\WyOk n ws/\zN0 n ws/\s0 < n/\n<=15/\
 ∀(d:Addr) (q:Nat->Addr) (X Y U W:Nat->Int) (H':Hp),H d=none->zAh H H'->FrAt H' d q n U W->FrOk n X Y->FrOk n U W->(∀(x:Nat->Int) (l:Int),(∀i,i < n->x i*Y i=X i*l)↔Sol n (M0 n ws s0) x l)->(∀i,i < n->U i*(1000*Y i)=keeps ws i*X i*W i)->Q (.ref d) H')->sp_shares K vs H Q E
def zJR {k x y X Y a b:Int} (l1:Low k 1000 x y) (l2:Low (x*X) (y*Y) a b):a*(1000*Y)=k*X*b:=by
 have e1:=l1.eq;have e2:=l2.eq;refine zB2 l1.pos ?_
 grind
def zKA (T:Txt P K mg t):FnOk P w K mg base CX0 44 t.wBS t.wCW ["count","ways","start"] (sp_shares K):=by
 refine T.wEF.ok zGF ⟨⟩ ();obtain⟨n,s0,r,rs,ws,rfl,wa,wo,op,sn,aI,qq⟩:=h;refine⟨_,(zC (zAF 3 zGF.nd (cal (zIa T) hr T.wEB T.wDf T.wEA (zQ (pv 0) (pv 1) zE zA zA)))
  (zF (zT (zA8 ["rest","one"] [none,none] (by kernel_rfl) rfl (zI6 rfl T.wEf (zQ (pv 3) (cal (zEL T) hr T.wDi T.wBZ T.wDh (zAe (pv 0) (pv 1) (pv 2) zE zA zA zA)) zE zA zS)) (λ_ _ _ _ _=>(zAt K (n:=2) rfl (zP (zJ (i:=0) ndB rfl (Or.inl rfl)) (zP (zJ (i:=1) ndB rfl (Or.inl rfl)) zAp)))) (λ_ _ _ _ _=>zAw) (λ_ _ _ _ _=>(cal (zIF T) hr T.wFh T.wDS T.wFg (zQ (cal (zDm T) hr T.wBY T.wBg T.wBX (zQ (pv 0) zH zE zA zM)) (pv 1) zE zS zA))))))),?_⟩
 refine⟨_,rfl,_,rfl,n,r,rs,ws,rfl,wa,wo.g,by omega,λkp H1 jR s1 ek=>?_⟩;refine⟨_,rfl,_,rfl,_,rfl,_,rfl,n,s0,r,rs,ws,rfl,wa.mono s1,wo,op,sn,aI,λd q X Y H2 hd s2 fa fo fb key=>?_⟩;have gC:=s2 _ _ ek;refine⟨kp,d,_,_,rfl,SqL.of gC,SqL.of fa.top,λc hc=>?_⟩;refine zGu (K:=K) (xs:=tab n λh=>V.int (keeps ws h)) (ys:=tab n λi=>V.ref (q i)) (by rw[zW,zW]) (λi σ' H'=>∃(u v:Option V) (qf:Nat->Addr) (U W:Nat->Int),σ'=[u,v]/\zAh H2 H'/\H' c=some (.lst (tab i λk=>V.ref (qf k)))/\∀k,k < i->H' (qf k)=some (.tup [.int (U k),.int (W k)])/\∃x y,Low (keeps ws k) 1000 x y/\Low (x*X k) (y*Y k) (U k) (W k))
  ⟨none,none,λ_=>c,λ_=>0,λ_=>0,rfl,zD hc _,zB,λk hk=>absurd hk (wHA _)⟩ (λj σ2 H2 _ ⟨_,_,_,_,_,_,s3,_⟩=>⟨SqL.of (s3 _ _ gC),SqL.of (s3 _ _ fa.top)⟩) ?_ ?_
 ·rintro i x y σ' H' T2 hx hy ⟨u,v,qf,U,W,rfl,s3,ec,hk⟩ dP;obtain⟨hi,rfl⟩:=zA5 hx;obtain⟨_,rfl⟩:=zA5 hy;have sT:=zD dP (.tup [.int (keeps ws i),.ref (q i)]);have s4:=s3.trans sT;have eP:=sT _ _ ec;refine⟨T2,_,rfl,SqT.of zB,rfl,_,_,rfl,_,_,rfl,rfl,?_⟩;refine⟨_,rfl,keeps ws i,1000,rfl,by decide,λp1 x1 y1 bY jF=>?_⟩;have s5:=s4.trans (zD bY (.tup [.int x1,.int y1]));have gE:=zD bY (.tup [.int x1,.int y1]) _ _ eP;have kb:(keeps ws i).natAbs<=1000:=by have h1:=zDj wo i ws.length (wHm _);have h2:=wo.o i;unfold keeps;omega
  have bx:Bt 10 x1:=wHK (wHv jF.tb kb) ⋯;have o7:Bt 10 y1:=wHK jF.bb ⋯;refine⟨_,rfl,p1,q i,x1,y1,X i,Y i,rfl,SqT.of zB,SqT.of (s5 _ _ (fa.row i hi)),zAO bx (fb i hi).1 ⋯,zAO o7 (fb i hi).2 ⋯,by have:=wIv jF.pos (fo.pos i hi);omega,λp a b hp lw=>?_⟩;have aX:c≠p:=zN gE hp;refine⟨_,by rw[zO aX];exact gE,by rw[zW];exact zAL ∅,_,_,λk=>if k=i then p else qf k,λk=>if k=i then a else U k,λk=>if k=i then b else W k,rfl,zY (s5.trans (zD hp _)) hc _,?_,λk bI=>?_⟩
  ·rw[zB];refine congrArg (λl=>some (HO.lst l)) ?_;rw[← zAD]
   congr 1
   ·exact zA0 λk hk=>by show V.ref (qf k)=V.ref (if k=i then p else qf k);rw[wHj ∅]
   show [V.ref p]=[V.ref (if i=i then p else qf i)];rw[wHl rfl]
  by_cases e:k=i
  ·subst e;simp only[↓reduceIte];exact⟨by rw[zO (Ne.symm aX)];exact zB,x1,y1,jF,lw⟩
  simp only[wHj e];obtain⟨a1,a2⟩:=hk k ∅;refine⟨?_,a2⟩;rw[zO (zCC a1 ec (by intro z;cases z))];exact zD hp _ _ _ (zD bY _ _ _ (sT _ _ a1))
 rintro σ' H' ⟨u,v,qf,U,W,rfl,s3,ec,hk⟩;rw[zW] at ec hk;have aP:=s1.trans s2;have kb:∀i,(keeps ws i).natAbs<=1000/\0<=keeps ws i:=λi=>by have h1:=zDj wo i ws.length (wHm _);have h2:=wo.o i;unfold keeps;omega
 have fO:∀i,i < n->U i*(1000*Y i)=keeps ws i*X i*W i:=λi hi=>by obtain⟨_,x,y,l1,l2⟩:=hk i hi;exact zJR l1 l2
 have pos:∀i,i < n->0 < W i:=λi hi=>by obtain⟨_,x,y,l1,l2⟩:=hk i hi;exact l2.pos
 refine qq c qf X Y U W H' (aP.free hc) (aP.trans s3) ⟨ec,λk bI=>(hk k bI).1⟩ fo ⟨pos,λi hi=>?_,λi hi=>?_,λi hi=>?_,λi hi=>?_⟩ key fO
 ·obtain⟨_,x,y,l1,l2⟩:=hk i hi;exact l2.one
 ·have h1:=zCG (zCG (kb i).2 (fo.nn i hi)) (wIn (pos i hi));rw[← fO i hi,wH1] at h1;exact zEw (c:=1000*Y i) (by have:=fo.pos i hi;omega) h1
 ·obtain⟨_,x,y,l1,l2⟩:=hk i hi;have bx:Bt 10 x:=wHK (wHv l1.tb (kb i).1) ⋯;exact Bt.mono (j:=10+390000) (wHK l2.tb (bx.mul (fb i hi).1)) ⋯
 obtain⟨_,x,y,l1,l2⟩:=hk i hi;have o7:Bt 10 y:=wHK l1.bb ⋯;exact Bt.mono (j:=10+390000) (wHK l2.bb (o7.mul (fb i hi).2)) ⋯
def zHC {n:Nat} {a b:Nat->Nat} {mk:Nat->Bool} {i:Nat} (h:zCs a b mk i (a i)=true):(tab n λj=>V.bl (zCs a b mk i j)).set (b i) (.bl true)=tab n λj=>V.bl (zCs a b mk (i+1) j):=by
 rw[zCq];refine zA0 λj _=>?_;have e:zCs a b mk (i+1)=λj=>if j=b i then true else zCs a b mk i j:=by show (if _ then _ else _)=_;rw[wHl h]
 rw[e];by_cases c:j=b i
 ·simp[c]
 simp[c]
theorem zHD {n:Nat} {a b:Nat->Nat} {mk:Nat->Bool} {i:Nat} (h:¬zCs a b mk i (a i)=true):(tab n λj=>V.bl (zCs a b mk i j))=tab n λj=>V.bl (zCs a b mk (i+1) j):=by
 have e:zCs a b mk (i+1)=zCs a b mk i:=by show (if _ then _ else _)=_;rw[wHj h]
 rw[e]
inductive sp_spread (K:W.Frag) (vs:List V) (H:Hp) (Q:VK) (E:XK):Prop
 | mk (p r:Addr) (rs:List V) (n m:Nat) (a b:Nat->Nat) (mk:Nat->Bool):vs=[.ref p,.ref r]->(SqL K H p (tab n λj=>V.bl (mk j))/\PrAt K H r rs m a b/\(∀k,k < m->a k < n)/\(∀k,k < m->b k < n)/\n<=900/\
 ∀(d:Addr) (f:Nat->Bool) (H':Hp),H d=none->zAh H H'->H' d=some (.lst (tab n λj=>V.bl (f j)))->(∀j,f j=true↔Rch m a b mk j)->Q (.ref d) H')->sp_spread K vs H Q E
def zK9 (T:Txt P K mg t):FnOk P w K mg base CX0 40 t.wCU t.wCV ["marks","steps"] (sp_spread K):=by
 refine T.wEC.ok zCt ⟨⟩ ();obtain⟨p,r,rs,n,m,a,b,mk,rfl,hp,pr,ha,hb,n9,q⟩:=h;refine⟨_,(zC (zAF 2 zCt.nd (zDi (zDv K) rfl T.wBh PyProof.Rows.boot_list (zG (pv 0) zE zA)))
  (zC (zAr PassesOwn.never rfl (zAi rfl T.wAg (zG (zR (zAd K) rfl T.wAh wHB (zG (pv 0) zE zA)) zE zS)) (zJ (i:=3) zCt.nd rfl (Or.inl rfl)) (zF (zAr PassesOwn.never rfl (zAa K (pv 1)) (zAt K (n:=2) rfl (zP (zJ (i:=4) zCt.nd rfl (Or.inl rfl)) (zP (zJ (i:=5) zCt.nd rfl (Or.inl rfl)) zAp))) (zF (zAs (zA1 (zAA K (pv 2) (pv 4))) (zF (zDR zAT (zFA (pv 2) (pv 5) zAX))) zZ)))))
  (zF (zT (pv 2))))),?_⟩
 refine⟨_,rfl,p,_,rfl,.inl hp,λd hd=>?_⟩;have s0:=zD hd (.lst (tab n λj=>V.bl (mk j)));have tl:(tab n λj=>V.bl (mk j)).length=n:=zW;refine⟨_,rfl,p,_,rfl,.inl (s0.seq hp),_,rfl,by omega,by rw[tl];omega,zA9 (n:=(((tab n λj=>V.bl (mk j)).length:Nat):Int).toNat) (λi σ' H'=>∃u v w,σ'=[some (.ref p),some (.ref r),some (.ref d),u,v,w]/\zAh H H'/\H' d=some (.lst (tab n λj=>V.bl (trn m a b mk i j))))
  ⟨_,_,_,rfl,s0,zB⟩ ?_ ?_⟩
 ·rintro i σ' H1 hi ⟨u,v,w,rfl,s1,ed1⟩;refine⟨_,rfl,r,rfl,⟨_,s1.seq pr.sq⟩,zAx (K:=K) (a:=r) (xs:=rs) (λj σ' H'=>∃v w,σ'=[some (.ref p),some (.ref r),some (.ref d),some (.int (0+(i:Int))),v,w]/\zAh H H'/\H' d=some (.lst (tab n λx=>V.bl (zCs a b (trn m a b mk i) j x))))
   ⟨_,_,rfl,s1,ed1⟩ (λj σ' H' _ ⟨_,_,_,sm,_⟩=>sm.seq pr.sq) ?_ ?_⟩
  ·rintro j x σ' H' hx ⟨v,w,rfl,sm,ed⟩;have hj:j < m:=by rw[← pr.len];exact (wIy hx).1
   obtain⟨q',e1,e2⟩:=pr.at_ j hj;have ex:x=.ref q':=by rw[e1] at hx;exact (wHo hx).symm
   subst ex;refine⟨q',_,rfl,SqT.of (sm _ _ e2),rfl,_,_,rfl,_,_,rfl,rfl,?_⟩;refine⟨_,rfl,_,rfl,d,_,_,_,rfl,rfl,SqL.of ed,zAk (ha j hj),_,rfl,zCH (λc=>?_) (λc=>?_)⟩
   ·refine⟨_,rfl,_,rfl,d,_,_,_,rfl,rfl,ed,zBp (hb j hj),?_⟩;exact⟨_,_,rfl,zY sm hd _,by rw[zB,zHC c]⟩
   exact⟨_,_,rfl,sm,by rw[ed,zHD c]⟩
  rintro σ' H' ⟨v,w,rfl,sm,ed⟩;rw[pr.len] at ed;exact⟨_,_,_,rfl,sm,ed⟩
 rintro σ' H' ⟨u,v,w,rfl,sm,ed⟩;rw[tl,wHS] at ed;exact⟨_,rfl,q d _ H' hd sm ed λj=>zNB ha hb⟩
inductive sp_shut_in (K:W.Frag) (vs:List V) (H:Hp) (Q:VK) (E:XK):Prop
 | mk (n:Nat) (r:Addr) (rs:List V) (ws:Wys):vs=[.int (n:Nat),.ref r]->(WyAt K H r rs ws/\WyOk n ws/\ws.length<=800/\n<=900/\
 ∀(d:Addr) (f:Nat->Bool) (H':Hp),H d=none->zAh H H'->H' d=some (.lst ((plc (λj=>!f j) n).map V.int))->(∀j,f j=true↔Rch ws.length (wt ws) (wg ws) (λj=>decide (0 < keeps ws j)) j)->Q (.ref d) H')->sp_shut_in K vs H Q E
def zJn (T:Txt P K mg t):FnOk P w K mg base CX0 41 t.wCi t.wCj ["count","ways"] (sp_shut_in K):=by
 refine T.wDX.ok zD5 ⟨⟩ ();obtain⟨n,r,rs,ws,rfl,wa,wo,wl,n9,q⟩:=h;refine⟨_,(zC (zCk ["rest"] [none] (by kernel_rfl) rfl (zAa K (cal (zIa T) hr T.wEB T.wDf T.wEA (zQ (pv 0) (pv 1) zE zA zA))) (λ_ _ _ _ _=>(zJ (i:=0) ndB rfl (Or.inl rfl))) (λ_ _ _ _ _=>zAw) (λ_ _ _ _ _=>(zBL zOs (pv 0) zH (zAg _))) (zJ (i:=2) zD5.nd rfl (Or.inl rfl)))
  (zC (zBe (i:=3) zD5.nd rfl (Or.inr rfl) (cal (zK9 T) hr T.wGf T.wEC T.wGe (zQ (pv 2) (zA8 ["giver","taker","part"] [none,none,none] (by kernel_rfl) rfl (zAa K (pv 1)) (λ_ _ _ _ _=>(zAt K (n:=3) rfl (zP (zJ (i:=0) ndB rfl (Or.inl rfl)) (zP (zJ (i:=1) ndB rfl (Or.inl rfl)) (zP (zJ (i:=2) ndB rfl (Or.inl rfl)) zAp))))) (λ_ _ _ _ _=>zAw) (λ_ _ _ _ _=>(zAS (zQ (pv 1) (pv 0) zE zA zA)))) zE zA zAq)))
  (zF (zT (zA8 ["place","free"] [none,some 3] (by kernel_rfl) rfl (zAi rfl T.wAg (zG (pv 0) zE zA)) (λ_ _ _ _ _=>(zJ (i:=0) ndB rfl (Or.inl rfl))) (λ_ _ _ _ _=>(zC0 (zAG (zA1 (zAA K (pv 1) (pv 0)))))) (λ_ _ _ _ _=>(pv 0))))))),?_⟩
 refine⟨_,rfl,_,rfl,n,r,rs,ws,rfl,wa,wo.g,n9,λkp H0 jR sk ek=>⟨kp,rfl,⟨_,SqL.of ek⟩,λc hc=>?_⟩⟩;refine zAl (K:=K) (ys:=tab n λh=>V.int (keeps ws h)) (λi σ' H'=>∃v,σ'=[v]/\H'=upd H0 c (.lst (tab i λj=>V.bl (decide (0 < keeps ws j))))) ⟨none,rfl,rfl⟩ (λj σ2 H2 _ ⟨_,_,e⟩=>by rw[e];exact SqL.of (zD hc _ _ _ ek)) ?_ ?_
 ·rintro i x σ' H' hx ⟨v,rfl,rfl⟩;obtain⟨hi,rfl⟩:=zA5 hx;refine⟨_,rfl,_,_,rfl,rfl,_,zB,by rw[zW];exact zAL ∅,_,rfl,?_⟩;rw[zBi,← zAD]
 rintro σ' H1 ⟨v,rfl,rfl⟩;rw[zW];replace wa:=wa.mono sk;have s1:=zD hc (.lst (tab n λj=>V.bl (decide (0 < keeps ws j))));have fi:=wa.mono s1;refine⟨_,rfl,_,rfl,r,rfl,⟨_,fi.sq⟩,λe he=>?_⟩;refine zAl (K:=K) (ys:=rs) (λj σ2 H2=>∃(u0 u1 u2:Option V) (ps:List V),σ2=[u0,u1,u2]/\zAh (upd H0 c (.lst (tab n λj=>V.bl (decide (0 < keeps ws j))))) H2/\H2 e=some (.lst ps)/\PrAt K H2 e ps j (wt ws) (wg ws))
  ⟨none,none,none,[],rfl,zD he _,zB,⟨SqL.of zB,rfl,λk hk=>absurd hk (wHA _)⟩⟩ (λj σ2 H2 _ ⟨_,_,_,_,_,sm,_⟩=>sm.seq fi.sq) ?_ ?_
 ·rintro j x σ2 H2 hx ⟨u0,u1,u2,ps,rfl,sm,ee,pr⟩;have hj:j < ws.length:=by rw[← wa.len];exact (wIy hx).1
  obtain⟨q',e1,e2⟩:=fi.at_ j hj;have ex:x=.ref q':=by rw[e1] at hx;exact (wHo hx).symm
  subst ex;refine⟨q',_,rfl,SqT.of (sm _ _ e2),rfl,_,_,rfl,_,_,rfl,_,_,rfl,rfl,?_⟩;refine zG5 ⟨_,rfl,_,rfl,zAz,λtq mz=>?_⟩;have nq:e≠tq:=zN ee mz;refine⟨_,by rw[zO nq];exact ee,by rw[pr.len];exact zAL ∅,_,_,_,ps++[.ref tq],rfl,zY (sm.trans (zD mz _)) he _,zB,pr.snoc (λb xs hb=>?_) zB (by rw[zO (Ne.symm nq)];exact zB)⟩;rw[zO (zCC hb ee (by intro z;cases z))];exact zD mz _ _ _ hb
 rintro σ2 H2 ⟨u0,u1,u2,ps,rfl,s2,ee,pr⟩;rw[wa.len] at pr;refine⟨c,e,ps,n,ws.length,wt ws,wg ws,_,rfl,s2.seq (SqL.of zB),pr,wo.t,wo.g,n9,λd f H3 hd s3 ed hf=>?_⟩;refine⟨_,rfl,(n:Nat),rfl,by omega,by omega,λg hg=>?_⟩;refine zBt (n:=((n:Nat):Int).toNat) (λi σ' H'=>∃v,σ'=[v,some (.ref d)]/\H'=upd H3 g (.lst ((plc (λj=>!f j) i).map V.int))) ⟨none,rfl,rfl⟩ ?_ ?_
 ·rintro i σ' H' hi ⟨v,rfl,rfl⟩;have pl:=zDE (λj=>!f j) i;refine⟨_,rfl,_,rfl,d,_,_,_,rfl,rfl,SqL.of (zD hg _ _ _ ed),zH0 ∅ ∅,_,rfl,zCH (λc1=>?_) (λc1=>?_)⟩
  ·rw[show (0+(i:Int)).toNat=i by omega] at c1;refine⟨_,rfl,_,zB,by rw[wHf];exact zAL ∅,_,rfl,?_⟩;rw[zBi,show plc (λj=>!f j) (i+1)=plc (λj=>!f j) i++[(i:Int)] by show (if _ then _ else _)=_;rw[wHl c1],show (0+(i:Int))=i by omega,zBX]
  rw[show (0+(i:Int)).toNat=i by omega] at c1;exact⟨_,rfl,by rw[show plc (λj=>!f j) (i+1)=plc (λj=>!f j) i by show (if _ then _ else _)=_;rw[wHj c1]]⟩
 rintro σ' H' ⟨v,rfl,rfl⟩;rw[wHS];have sa:=((sk.trans s1).trans s2).trans s3;exact q g f _ (sa.free hg) (sa.trans (zD hg _)) zB hf
def zQ8 (ns:List Str) (p:Pct):Nat × Nat × Int:=(ns.idxOf p.1,ns.idxOf p.2.1,p.2.2.1)
def zBq (ns:List Str) (ps:List Pct) (d:Int):Wys:=(ps.filter (zBh d)).map (zQ8 ns)
structure PsOk (ns:List Str) (ps:List Pct):Prop where
 inn:∀p∈ps,p.1∈ns/\p.2.1∈ns
 ne:∀p∈ps,p.1≠p.2.1
 pt:∀p∈ps,1<=p.2.2.1/\p.2.2.1<=1000
 sp:∀p∈ps,0<=p.2.2.2.1/\p.2.2.2.1<=p.2.2.2.2/\p.2.2.2.2<=5000
def PsOk.span {ns:List Str} {ps:List Pct} (h:PsOk ns ps):zNy (ps.map zL8):=λk hk=>by rw[wHf] at hk;have hp:ps[k]?=some ps[k]:=wHg hk;obtain⟨l1,l2⟩:=zKM hp;rw[l1,l2];exact h.sp _ (wHF hk)
def zLB {K:W.Frag} {H:Hp} {w:Addr} {ns:List Str} {ps:List Pct} {d:Int} (h:zAf H w ((ps.filter (zBh d)).map (zJ6 ns))):∃rs,WyAt K H w rs (zBq ns ps d):=by
 obtain⟨q,h1,h2,h3⟩:=h;rw[wHf] at h2;refine⟨q.map V.ref,SqL.of h1,by unfold zBq;rw[wHf,wHf,h2],λk hk=>?_⟩;unfold zBq at hk;rw[wHf] at hk;have e1:q[k]?=some (q[k]' ∅):=wHg _;have e2:(ps.filter (zBh d))[k]?=some ((ps.filter (zBh d))[k]):=wHg hk;refine⟨_,by rw[wHn,e1];rfl,?_⟩;have e3:(zBq ns ps d).getD k (0,0,0)=zQ8 ns ((ps.filter (zBh d))[k]):=by unfold zBq;rw[wHh,wHn,e2];rfl
 have:=h3 k _ _ e1 (by rw[wHn,e2];rfl);unfold wg wt wp;rw[e3];exact this
def zLD (ns:List Str) (ps:List Pct) (d:Int) {k:Nat} (h:k < (zBq ns ps d).length):∃p∈ps,(zBq ns ps d).getD k (0,0,0)=zQ8 ns p:=by unfold zBq at h ⊢;rw[wHf] at h;refine⟨(ps.filter (zBh d))[k],(List.mem_filter.mp (wHF h)).1,?_⟩;rw[wHh,wHn,wHg h];rfl
def zOB {ns:List Str} {a b:Str} (ha:a∈ns) (hb:b∈ns) (e:ns.idxOf a=ns.idxOf b):a=b:=by
 have h1:=List.getElem_idxOf (List.idxOf_lt_length_iff.mpr ha);have h2:=List.getElem_idxOf (List.idxOf_lt_length_iff.mpr hb);rw[← h1,← h2]
 congr 1
def PsOk.g {ns:List Str} {ps:List Pct} (h:PsOk ns ps) (d:Int):∀k,k < (zBq ns ps d).length->wg (zBq ns ps d) k < ns.length:=λk hk=>by obtain⟨p,hp,e⟩:=zLD ns ps d hk;unfold wg;rw[e];exact List.idxOf_lt_length_iff.mpr (h.inn p hp).1
def PsOk.wy {ns:List Str} {ps:List Pct} (h:PsOk ns ps) {d:Int} (o:∀x,zAV (zBq ns ps d) (zBq ns ps d).length x<=1000):WyOk ns.length (zBq ns ps d):=by
 refine⟨h.g d,λk hk=>?_,λk hk=>?_,λk hk=>?_,o⟩
 ·obtain⟨p,hp,e⟩:=zLD ns ps d hk;unfold wt;rw[e];exact List.idxOf_lt_length_iff.mpr (h.inn p hp).2
 ·obtain⟨p,hp,e⟩:=zLD ns ps d hk;unfold wg wt;rw[e];exact λz=>h.ne p hp (zOB (h.inn p hp).1 (h.inn p hp).2 z)
 obtain⟨p,hp,e⟩:=zLD ns ps d hk;unfold wp;rw[e];exact h.pt p hp
def Days.cover {sps:Sps} {ds:List Int} (D:Days sps ds) {d:Int} (h0:0<=d) (h1:d<=5000):∃i,i < ds.length/\ds.getD i 0<=d/\d < nxt ds i:=by
 have pos:=D.pos;have key:∀n,1<=n->n<=ds.length->∃i,i < n/\ds.getD i 0<=d/\∀j,i < j->j < n->d < ds.getD j 0:=by
  intro n hn
  induction n with
  | zero=>omega
  | succ n ih=>
   intro hl;by_cases c:n=0
   ·subst c;refine⟨0,by omega,?_,λj h1 h2=>by omega⟩;rw[wHh,D.zero];exact h0
   by_cases e:ds.getD n 0<=d
   ·exact⟨n,by omega,e,λj h1 h2=>by omega⟩
   obtain⟨i,a,b,g⟩:=ih ∅ ∅;refine⟨i,by omega,b,λj h1 h2=>?_⟩;by_cases z:j=n
   ·subst z;omega
   exact g j h1 ∅
 obtain⟨i,a,b,g⟩:=key ds.length ∅ (wHm _);refine⟨i,a,b,?_⟩;by_cases c:i+1 < ds.length
 ·rw[zII c];exact g (i+1) ∅ c
 rw[zIf c];omega
def zHZ {ps:List Pct} {ds:List Int} (so:zNy (ps.map zL8)) (D:Days (ps.map zL8) ds) {i:Nat} {d:Int} (hi:i < ds.length) (h1:ds.getD i 0<=d) (h2:d < nxt ds i):ps.filter (zBh d)=ps.filter (zBh (ds.getD i 0)):=by
 refine List.filter_congr λp hp=>?_;obtain⟨k,hk,e⟩:=List.getElem_of_mem hp;have fW:ps[k]?=some p:=by rw[wHg hk,e]
 obtain⟨l1,l2⟩:=zKM fW;have W:=λa b=>Days.whole so D hi (k:=k) (by rw[wHf];exact hk) a b;rw[l1,l2] at W;have up:=D.up hi;unfold zBh;rw[Bool.eq_iff_iff,wHN,wHN,decide_eq_true_eq,decide_eq_true_eq,decide_eq_true_eq,decide_eq_true_eq];constructor
 ·rintro⟨a,b⟩;have:=W ∅ ∅;omega
 rintro⟨a,b⟩;have:=W ∅ ∅;omega
open Classical in
noncomputable def zLM (ns:List Str) (ps:List Pct) (d:Int):Nat->Bool:=λj=>decide (¬Rch (zBq ns ps d).length (wt (zBq ns ps d)) (wg (zBq ns ps d)) (λj=>decide (0 < keeps (zBq ns ps d) j)) j)
open Classical in
theorem zGD {ns:List Str} {ps:List Pct} {d:Int} {j:Nat}:zLM ns ps d j=true↔¬Rch (zBq ns ps d).length (wt (zBq ns ps d)) (wg (zBq ns ps d)) (λj=>decide (0 < keeps (zBq ns ps d) j)) j:=by unfold zLM;exact decide_eq_true_iff
noncomputable def zBx (ns:List Str) (ps:List Pct) (d:Int):List Int:=plc (zLM ns ps d) ns.length
def zEv {ns:List Str} {ps:List Pct} {d e:Int} (h:ps.filter (zBh d)=ps.filter (zBh e)):zBx ns ps d=zBx ns ps e/\zBq ns ps d=zBq ns ps e:=by
 have w:zBq ns ps d=zBq ns ps e:=by unfold zBq;rw[h]
 refine⟨?_,w⟩;unfold zBx zLM;rw[w]
inductive sp_whom_shut (K:W.Frag) (t:Adr) (vs:List V) (H:Hp) (Q:VK) (E:XK):Prop
 | mk (nl pl nw:Addr) (ns:List Str) (ps:List Pct) (new:Pct):vs=[.ref nl,.ref pl,.ref nw]->(SqL K H nl (ns.map V.str)/\ns.length<=15/\zAf H pl (ps.map Pct.vs)/\zL9 (ps++[new])/\H nw=some (.tup new.vs)/\zG4 new.1/\PsOk ns (ps++[new])/\
 (∀d x,x≠ns.idxOf new.1->zAV (zBq ns (ps++[new]) d) (zBq ns (ps++[new]) d).length x<=1000)/\
 ((∃d,0<=d/\d<=5000/\1000 < zAV (zBq ns (ps++[new]) d) (zBq ns (ps++[new]) d).length (ns.idxOf new.1))->∀H',zAh H H'->E (.ref t.wAd) none H')/\
 ((∀d,0<=d->d<=5000->zAV (zBq ns (ps++[new]) d) (zBq ns (ps++[new]) d).length (ns.idxOf new.1)<=1000)->
  ((∀d,0<=d->d<=5000->zBx ns (ps++[new]) d=[])->∀H',zAh H H'->Q .non H')/\
  ∀d0,0<=d0->d0<=5000->zBx ns (ps++[new]) d0≠[]->(∀d,0<=d->d < d0->zBx ns (ps++[new]) d=[])->∀H' p m,zAh H H'->H p=none->H m=none->H' p=some (.tup [.int d0,.ref m])->H' m=some (.lst ((zBx ns (ps++[new]) d0).map λj=>V.str (ns.getD j.toNat Str.empty)))->Q (.ref p) H'))->sp_whom_shut K t vs H Q E
def zGS (T:Txt P K mg t):FnOk P w K mg base (CXx P w) 43 t.wBp t.wBq ["names","pacts","new"] (sp_whom_shut K t):=by
 refine T.wCK.okX zAI ⟨⟩ ();obtain⟨nl,pl,nw,ns,ps,new,rfl,hN,aI,hP,cI,cG,sn,ok,oth,lH,q⟩:=h;refine⟨_,(zC (zAF 3 zAI.nd (cal (zMr T) hr T.wGy T.wFi T.wGx (zQ (pv 0) (zV zDk (pv 1) (zAo (zG (pv 2) zE zA))) zE zA zX)))
  (zC (zAF 4 zAI.nd (zAR ((zBD T).mono ⋯) hr rfl T.wAG T.wAu.kp T.wAF .nil zBU (zQ (pv 0) (zBr K (pv 2) zH) zE zA zK)))
  (zC (zAr PassesOwn.leaving rfl (zAa K (pv 3)) (zAt K (n:=2) rfl (zP (zJ (i:=5) zAI.nd rfl (Or.inl rfl)) (zP (zJ (i:=6) zAI.nd rfl (Or.inl rfl)) zAp))) (zF (zAs (zAb zFr (zAA K (cal (zIa T) hr T.wEB T.wDf T.wEA (zQ (zR (zAd K) rfl T.wAh wHB (zG (pv 0) zE zA)) (pv 6) zE zS zA)) (pv 4)) zH (zAg _)) (zF (zB4 T.wF7 rfl T.wD4 (zBm (zBT (zDf (pv 5) zDg))))) zZ)))
  (zC (zAr PassesOwn.leaving rfl (zAa K (pv 3)) (zAt K (n:=2) rfl (zP (zJ (i:=5) zAI.nd rfl (Or.inl rfl)) (zP (zJ (i:=6) zAI.nd rfl (Or.inl rfl)) zAp))) (zC (zAF 7 zAI.nd (cal (zJn T) hr T.wFQ T.wDX T.wFP (zQ (zR (zAd K) rfl T.wAh wHB (zG (pv 0) zE zA)) (pv 6) zE zS zA)))
  (zF (zAs (zMb (pv 7) (λ_=>rfl)) (zF (zT (zAS (zQ (pv 5) (zA8 ["place","names"] [none,some 0] (by kernel_rfl) rfl (zAa K (pv 7)) (λ_ _ _ _ _=>(zJ (i:=0) ndB rfl (Or.inl rfl))) (λ_ _ _ _ _=>zAw) (λ_ _ _ _ _=>(zAA K (pv 1) (pv 0)))) zE zA zAq)))) zZ))))
  (zF (zT zI8)))))),?_⟩
 have hz:ps.length<=89:=by have:=cI.1;rw[wHp] at this;exact Nat.le_of_succ_le_succ this
 obtain⟨aW,eA⟩:∃x,x=ps++[new]:=⟨_,rfl⟩;have mgi:new.1∈ns:=(ok.inn new (by simp)).1;have hgi:ns.idxOf new.1 < ns.length:=List.idxOf_lt_length_iff.mpr mgi;obtain⟨pq,p1,p2,p3⟩:=id hP;rw[wHf] at p2;refine⟨_,rfl,_,rfl,_,rfl,szl,λc hc=>?_⟩;have s1:=zD hc (.lst [V.ref nw]);refine⟨pl,c,_,_,rfl,rfl,s1 _ _ p1,zB,by rw[wHf];exact small (by show _+1<=_;omega),λpn mG=>?_⟩;have s2:=s1.trans (zD mG (.lst (pq.map V.ref++[V.ref nw])));have TN:zAf (upd (upd H c (.lst [V.ref nw])) pn (.lst (pq.map V.ref++[V.ref nw]))) pn (aW.map Pct.vs):=by
  refine⟨pq++[nw],by rw[zB,wHr];rfl,by rw[eA,wHf,wHp,wHp,p2];rfl,λi a ys e1 e2=>?_⟩;rw[eA,wHr] at e2;by_cases cc:i < pq.length
  ·rw[wHE cc] at e1;rw[wHE (by rw[wHf];omega)] at e2;exact s2 _ _ (p3 i a ys e1 e2)
  rw[wHC ∅] at e1;rw[wHC (by rw[wHf];omega)] at e2;have z:i-pq.length=0:=by have:=(wIy e1).1;rw[wH7] at this;omega
  have z2:i-(ps.map Pct.vs).length=0:=by rw[wHf];omega
  rw[z] at e1;rw[z2] at e2;cases e1;cases e2;exact s2 _ _ cG
 rw[← eA] at ok oth lH q;have gW:zL9 aW:=by rw[eA];exact cI
 have lpsn1:=gW.1;refine⟨nl,pn,ns,aW,rfl,s2.seq hN,TN,gW,ok.inn,ok.span,λdy H3 ds hdy s23 D dl L3=>?_⟩;have s3:=s2.trans s23;have jZ:=s3.seq hN;refine⟨_,rfl,_,rfl,nw,_,0,_,rfl,rfl,SqT.of (s3 _ _ cG),zAB ⋯ rfl,nl,ns,new.1,rfl,jZ,sn,λ_=>?_,λz=>absurd mgi z⟩;obtain⟨lq,l1,l2,l3⟩:=L3;have oz:∀i,i < ds.length->ds[i]?=some (ds.getD i 0):=λi hi=>by rw[wHh,wHg hi];rfl
 have gH:∀i,i < ds.length->0<=ds.getD i 0/\ds.getD i 0<=5000:=λi hi=>D.bd _ (wHO (oz i hi));have d60:∀i,i < ds.length->(ds.getD i 0).natAbs < 10 ^ 60:=λi hi=>by
  have:=gH i hi;have z:(5000:Nat) < 10 ^ 60:=by decide
  omega
 generalize hg:ns.idxOf new.1=gi at hgi lH q oth;refine⟨_,rfl,dy,rfl,⟨_,SqL.of l1⟩,zAx (xs:=lq.map λx=>V.ref x.1) (λi σ' H'=>∃(v5 v6:Option V),σ'=[some (.ref nl),some (.ref pl),some (.ref nw),some (.ref dy),some (.int (gi:Nat)),v5,v6,none]/\zAh H3 H'/\∀j,j < i->zAV (zBq ns aW (ds.getD j 0)) (zBq ns aW (ds.getD j 0)).length gi<=1000)
  ⟨none,none,by rw[← hg];rfl,zAh.refl _,λj hj=>absurd hj (wHA _)⟩ (λi σ' H' _ ⟨_,_,_,s',_⟩=>SqL.of (s' _ _ l1)) ?_ ?_⟩
 ·rintro i x σ' H4 hx ⟨v5,v6,rfl,s4,le⟩;rw[wHn] at hx;obtain⟨⟨a,w'⟩,ha,rfl⟩:=wIA hx;have hi:i < ds.length:=by rw[← l2];exact (wIy ha).1
  obtain⟨b1,b2,_⟩:=l3 i a w' _ ha (oz i hi);refine⟨a,_,rfl,SqT.of (s4 _ _ b1),rfl,_,_,rfl,_,_,rfl,rfl,?_⟩;obtain⟨rs,wa⟩:=zLB (K:=K) (b2.same s4);refine⟨_,rfl,nl,_,rfl,.inl (s4.seq jZ),_,rfl,ns.length,w',rs,_,by rw[wHf];rfl,wa,ok.g _,by omega,λkd H5 hkd s5 ek=>?_⟩;refine⟨_,rfl,kd,_,_,_,rfl,rfl,SqL.of ek,zAk hgi,_,_,rfl,rfl,_,rfl,?_⟩;refine zCH (λcc=>?_) (λcc=>?_)
  ·have c':keeps (zBq ns aW (ds.getD i 0)) gi < 0:=wHw cc;have l5:=zEM (d60 i hi);refine⟨by bv_omega,_,rfl,_,⟨zOY (d60 i hi),rfl⟩,by bv_omega,by bv_omega,?_⟩;exact lH ⟨ds.getD i 0,(gH i hi).1,(gH i hi).2,by unfold keeps at c';omega⟩ _ (s3.trans (s4.trans s5))
  have c':¬keeps (zBq ns aW (ds.getD i 0)) gi < 0:=wHT (wIB cc);refine⟨_,_,rfl,s4.trans s5,λj hj=>?_⟩;by_cases z:j=i
  ·rw[z];unfold keeps at c';omega
  exact le j ∅
 rintro σ' H4 ⟨v5,v6,rfl,s4,le⟩;rw[wHf,l2] at le;have fM:∀d,0<=d->d<=5000->zAV (zBq ns aW d) (zBq ns aW d).length gi<=1000:=λd h0 h1=>by obtain⟨i,a,b,g⟩:=D.cover h0 h1;have e:=(zEv (ns:=ns) (zHZ ok.span D a b g)).2;rw[e];exact le i a
 have wyk:∀i,i < ds.length->WyOk ns.length (zBq ns aW (ds.getD i 0)):=λi hi=>ok.wy λx=>by
  by_cases z:x=gi
  ·rw[z];exact le i hi
  exact oth _ x z
 obtain⟨qN,qS⟩:=q fM;have wl:∀d,(zBq ns aW d).length<=800:=λd=>by unfold zBq;rw[wHf];exact wHv (wIq _ _) ∅
 refine⟨_,rfl,dy,rfl,⟨_,SqL.of (s4 _ _ l1)⟩,zAx (xs:=lq.map λx=>V.ref x.1) (λi σ' H'=>∃(v5 v6 v7:Option V),σ'=[some (.ref nl),some (.ref pl),some (.ref nw),some (.ref dy),some (.int (gi:Nat)),v5,v6,v7]/\zAh H3 H'/\∀j,j < i->zBx ns aW (ds.getD j 0)=[])
  ⟨v5,v6,none,rfl,s4,λj hj=>absurd hj (wHA _)⟩ (λi σ' H' _ ⟨_,_,_,_,s',_⟩=>SqL.of (s' _ _ l1)) ?_ ?_⟩
 ·rintro i x σ' H5 hx ⟨v5,v6,v7,rfl,s5,em⟩;rw[wHn] at hx;obtain⟨⟨a,w'⟩,ha,rfl⟩:=wIA hx;have hi:i < ds.length:=by rw[← l2];exact (wIy ha).1
  obtain⟨b1,b2,_⟩:=l3 i a w' _ ha (oz i hi);refine⟨a,_,rfl,SqT.of (s5 _ _ b1),rfl,_,_,rfl,_,_,rfl,rfl,?_⟩;obtain⟨rs,wa⟩:=zLB (K:=K) (b2.same s5);refine⟨_,rfl,nl,_,rfl,.inl (s5.seq jZ),_,rfl,ns.length,w',rs,_,by rw[wHf];rfl,wa,wyk i hi,wl _,by omega,λfd f H6 hfd s6 ef hf=>?_⟩;have esh:plc (λj=>!f j) ns.length=zBx ns aW (ds.getD i 0):=by unfold zBx;refine zGM λj _=>?_;rw[zGD,← hf j];cases f j<;>simp
  rw[esh] at ef;have gN:=s5.trans s6;refine⟨_,rfl,_,.inl ⟨_,SqL.of ef,rfl⟩,?_⟩;by_cases z:zBx ns aW (ds.getD i 0)=[]
  ·rw[z];refine zB8 ?_;refine⟨_,_,_,rfl,gN,λj hj=>?_⟩;by_cases y:j=i
   ·rw[y];exact z
   exact em j ∅
  have nz:(!((zBx ns aW (ds.getD i 0)).map V.int).isEmpty)=true:=by
   cases e:zBx ns aW (ds.getD i 0) with
   | nil=>exact absurd e z
   | cons a r=>rfl
  rw[nz];refine zG5 ?_;refine⟨_,rfl,_,rfl,fd,rfl,⟨_,SqL.of ef⟩,λm hm=>?_⟩;have inr:∀j∈zBx ns aW (ds.getD i 0),∃k:Nat,k < ns.length/\j=(k:Int):=λj hj=>by obtain⟨k,hk,_,e⟩:=zCn.mp hj;exact⟨k,hk,e⟩
  have lsh:(zBx ns aW (ds.getD i 0)).length<=15:=wHv (zDE _ _) aI;refine zAl (ys:=(zBx ns aW (ds.getD i 0)).map V.int) (λj σ' H'=>∃(v:Option V),σ'=[v,some (.ref nl)]/\zAh H6 H'/\H' m=some (.lst (((zBx ns aW (ds.getD i 0)).take j).map λj=>V.str (ns.getD j.toNat Str.empty)))) ⟨none,rfl,zD hm _,zB⟩ ?_ ?_ ?_
  ·rintro j σ' H' hj ⟨v,rfl,s7,em7⟩;exact SqL.of (s7 _ _ ef)
  ·rintro j x σ' H' hx ⟨v,rfl,s7,em7⟩;rw[wHn] at hx;obtain⟨y,hy,rfl⟩:=wIA hx;obtain⟨k,hk,ey⟩:=inr y (wHO hy);have ek:ns[k]?=some (ns.getD k Str.empty):=by rw[wHh,wHg hk];rfl
   refine⟨_,rfl,_,rfl,nl,_,_,.str (ns.getD k Str.empty),rfl,rfl,(gN.trans s7).seq jZ,by rw[ey];exact zDL (by rw[wHn,ek];rfl),_,em7,by rw[wHf,wHD];exact zAj ∅,_,rfl,zY s7 hm _,?_⟩;rw[zB,wHY,hy,ey];simp only[Option.toList_some,wHr,wIg,List.map_nil,wHS]
  rintro σ' H7 ⟨v,rfl,s7,em7⟩;rw[wHf,wHL] at em7;refine⟨zAz,λp hp=>?_⟩;have s8:=zD hp (.tup [V.int (ds.getD i 0),V.ref m]);have sA:=(s3.trans gN).trans (s7.trans s8);refine qS (ds.getD i 0) (gH i hi).1 (gH i hi).2 z (λd h0 h1=>?_) _ p m sA (((s3.trans gN).trans s7).free hp) ((s3.trans gN).free hm) zB (s8 _ _ em7);obtain⟨i',a',b',g'⟩:=D.cover h0 (by have:=(gH i hi).2;omega);have e:=(zEv (ns:=ns) (zHZ ok.span D a' b' g')).1;rw[e];refine em i' ?_;by_cases y:i' < i
  ·exact y
  by_cases y2:i'=i
  ·rw[y2] at b';omega
  have:=D.lt (i:=i) (j:=i') ∅ a';omega
 rintro σ' H5 ⟨v5,v6,v7,rfl,s5,em⟩;rw[wHf,l2] at em;refine qN (λd h0 h1=>?_) H5 (s3.trans s5);obtain⟨i,a,b,g⟩:=D.cover h0 h1;rw[(zEv (ns:=ns) (zHZ ok.span D a b g)).1];exact em i a
inductive sp_ShutIn_UinitU (C:Addr) (vs:List V) (H:Hp) (Q:VK) (E:XK):Prop
 | mk (e p:Addr) (ys:List V) (d:Int):vs=[.ref e,.int d,.ref p]->(H e=some (zCV e (.ref C) none)/\H p=some (.lst ys)/\ys.length<=1000/\d.natAbs < 10 ^ 60/\
 ∀dx l,H dx=none->dx≠e->upd (upd H e (zCV e (.ref C) (some dx))) dx (XdN dx [("day",.int d)]) l=none->
  Q .non (upd (upd (upd (upd H e (zCV e (.ref C) (some dx))) dx (XdN dx [("day",.int d)])) l (.lst ys)) dx (XdN dx [("names",.ref l),("day",.int d)])))->sp_ShutIn_UinitU C vs H Q E
def zEh (T:Txt P K mg t):FnOk P w K mg base CX0 41 t.wAq t.wAC ["self","day","names"] (sp_ShutIn_UinitU t.wAa):=by
 refine T.wDd.ok zEf ⟨⟩ ();obtain⟨e,p,ys,d,rfl,he,hp,lz,d1,q⟩:=h;refine⟨_,(zC (zAm (zMg T.wFe rfl T.wCQ (zQ (pv 0) (zBm (zBT (zDf (pv 1) zDg))) zE zA zFm)))
  (zC (zP7 (pv 0) (pv 1) rfl)
  (zF (zP7 (pv 0) (zDi (zDv K) rfl T.wBh PyProof.Rows.boot_list (zG (pv 2) zE zA)) rfl)))),?_⟩
 have ed:∀dx,dx≠e->(upd (upd H e (zCV e (.ref t.wAa) (some dx))) dx (XdN dx [("day",.int d)])) e=some (zCV e (.ref t.wAa) (some dx)):=λdx h=>by rw[zO (Ne.symm h),zB]
 have l1:=zEM d1;refine⟨_,rfl,?_⟩;refine⟨by bv_omega,_,rfl,_,⟨zOY d1,rfl⟩,by bv_omega,by bv_omega,e,t.wAa,none,_,rfl,he,T.wEW.ex,?_⟩;refine⟨_,rfl,_,rfl,e,t.wAa,rfl,T.wAJ,.inl ⟨he,λdx eJ aO=>?_⟩⟩;have pe:p≠e:=λz=>by rw[z,he] at hp;cases hp
 have pd:p≠dx:=λz=>by rw[z,eJ] at hp;cases hp
 have eC:(upd (upd H e (zCV e (.ref t.wAa) (some dx))) dx (XdN dx [("day",.int d)])) p=some (.lst ys):=by rw[zO pd,zO pe];exact hp
 refine⟨_,rfl,p,ys,rfl,.inl (SqL.of eC),λl hl=>?_⟩;have ne:e≠l:=λz=>by rw[← z,ed dx aO] at hl;cases hl
 have nd:dx≠l:=λz=>by rw[← z,zB] at hl;cases hl
 refine⟨_,rfl,e,t.wAa,rfl,T.wBI,.inr ⟨dx,[("day",.int d)],?_,?_,?_,?_⟩⟩
 ·rw[zO ne];exact ed dx aO
 ·rw[zO nd,zB]
 ·show 1<=1000
  decide
 exact q dx l eJ aO hl
structure NewOk (ns:List Str) (ps:List Pct) (new:Pct):Prop where
 ok:PsOk ns (ps++[new])
 oth:∀d x,x≠ns.idxOf new.1->zAV (zBq ns (ps++[new]) d) (zBq ns (ps++[new]) d).length x<=1000
def zJ8 (ns:List Str) (ps:List Pct) (new:Pct):Prop:=∃d,0<=d/\d<=5000/\1000 < zAV (zBq ns (ps++[new]) d) (zBq ns (ps++[new]) d).length (ns.idxOf new.1)
def zH4 (ns:List Str) (ps:List Pct):Prop:=∀d,0<=d->d<=5000->zBx ns ps d=[]
theorem zJQ {ns:List Str} {ps:List Pct} {d:Int}:(zBx ns ps d).length<=ns.length:=by unfold zBx;exact zDE _ _
def zFl (ns:List Str) (ps:List Pct) (d0:Int):Prop:=0<=d0/\d0<=5000/\zBx ns ps d0≠[]/\∀d,0<=d->d < d0->zBx ns ps d=[]
noncomputable def zI2 (ns:List Str) (ps:List Pct) (d0:Int):List V:=(zBx ns ps d0).map λj=>V.str (ns.getD j.toNat Str.empty)
def zL5 (H0 H:Hp) (dx:Addr) (d0:Int) (xs:List V):Prop:=∃l,H0 l=none/\H dx=some (.xd [("names",.ref l),("day",.int d0)])/\H l=some (.lst xs)
def zL5.back {H1 H2 H3:Hp} {dx:Addr} {d0:Int} {xs:List V} (h:zL5 H2 H3 dx d0 xs) (s:zAh H1 H2):zL5 H1 H3 dx d0 xs:=let ⟨l,a,b,c⟩:=h;⟨l,s.free a,b,c⟩
inductive sp_Book_check_new (K:W.Frag) (t:Adr) (vs:List V) (H:Hp) (Q:VK) (E:XK):Prop
 | mk (b tl nw:Addr) (ds:List Deed) (new:Pct):vs=[.ref b,.ref nw]->(zAC H t.wAc b tl ds/\ds.length<=900/\(zI ds).length<=15/\zL9 (zU ds++[new])/\H nw=some (.tup new.vs)/\zG4 new.1/\NewOk (zI ds) (zU ds) new/\
 (zJ8 (zI ds) (zU ds) new->∀H',zAh H H'->E (.ref t.wAd) none H')/\
 (∀d0,¬zJ8 (zI ds) (zU ds) new->zFl (zI ds) (zU ds++[new]) d0->∀H' dx,zAh H H'->zL5 H H' dx d0 (zI2 (zI ds) (zU ds++[new]) d0)->E (.ref t.wAa) (some dx) H')/\
 (¬zJ8 (zI ds) (zU ds) new->zH4 (zI ds) (zU ds++[new])->80<=(zU ds).length->∀H',zAh H H'->E (.ref t.wAw) none H')/\
 (¬zJ8 (zI ds) (zU ds) new->zH4 (zI ds) (zU ds++[new])->(zU ds).length < 80->∀H',zAh H H'->Q .non H'))->sp_Book_check_new K t vs H Q E
def zDI (T:Txt P K mg t):FnOk P w K mg base (CXx P w) 44 t.wAA t.wAB ["self","new"] (sp_Book_check_new K t):=by
 refine T.wC3.okX zBS ⟨⟩ ();obtain⟨b,tl,nw,ds,new,rfl,hB,hz,aI,lT,cG,sn,ok,qT,qS,qF,qN⟩:=h;refine⟨_,(zC (zAF 2 zBS.nd (zAR ((zGS T).mono ⋯) hr rfl T.wE7 T.wCK.kp T.wE6 .nil zBU (zAe (zBu (pv 0) T.wAi T.wAm ((zAQ T).mono ⋯) hr T.wAl .nil zCT) (zBu (pv 0) T.wAi T.wAI ((zB6 T).mono ⋯) hr T.wAH .nil zCT) (pv 1) zE zS zS zA)))
  (zC (zAs (zAb zOr (pv 2) zI8 (zAg _)) (zF (zKs T.wEW ((zEh T).mono ⋯) hr T.wDe rfl T.wC6 (zQ (zBr K (pv 2) zH) (zBr K (pv 2) zH) zE zK zK))) zZ)
  (zF (zAs (zAb zPN (zR (zAd K) rfl T.wAh wHB (zG (zBu (pv 0) T.wAi T.wAI ((zB6 T).mono ⋯) hr T.wAH .nil zCT) zE zS)) (zA2 (v:=.int 80) rfl T.wCB.choose_spec ⟨_,rfl⟩) (zAg _)) (zF (zB4 T.wF6 rfl T.wEV (zBm (zDf (zA2 (v:=.int 80) rfl T.wCB.choose_spec ⟨_,rfl⟩) (zBT zDg))))) zZ)))),?_⟩
 obtain⟨dx,qs,hb,ht,hq,hd⟩:=id hB;refine⟨_,rfl,b,dx,_,rfl,hb,rfl,b,tl,ds,rfl,hB,hz,λnl dJ=>?_⟩;have s1:=zD dJ (.lst ((zI ds).map V.str));have en:upd H nl (.lst ((zI ds).map V.str)) nl=some (.lst ((zI ds).map V.str)):=zB;have B1:=hB.same s1;generalize upd H nl (.lst ((zI ds).map V.str))=H1 at s1 en B1 ⊢;obtain⟨dE,jz,bV,_⟩:=id B1;refine⟨_,rfl,b,dE,_,rfl,bV,rfl,b,tl,ds,rfl,B1,hz,λpl H2 aM s2 T2=>?_⟩;have aP:=s1.trans s2;refine⟨_,rfl,nl,pl,nw,zI ds,zU ds,new,rfl,SqL.of (s2 _ _ en),aI,T2,lT,aP _ _ cG,sn,ok.ok,ok.oth,λov H3 s3=>qT ov H3 (aP.trans s3),λfM=>?_⟩;have aZ:¬zJ8 (zI ds) (zU ds) new:=λ⟨d,h0,h1,z⟩=>absurd (fM d h0 h1) ∅;refine⟨λbN H3 s3=>?_,λd0 h0 h1 z zf H3 p m s3 fp fm hp hm=>?_⟩
 rotate_left
 ·have cE:=aP.trans s3;refine⟨_,rfl,rfl,_,rfl,zG5 ?_⟩;refine⟨_,rfl,p,_,0,_,rfl,rfl,SqT.of hp,rfl,_,rfl,p,_,1,_,rfl,rfl,SqT.of hp,rfl,(by show 2<=100;decide),λe he=>?_⟩;have me:m≠e:=λz=>by rw[z,he] at hm;cases hm
  have ll:((zBx (zI ds) (zU ds++[new]) d0).map λj=>V.str ((zI ds).getD j.toNat Str.empty)).length<=1000:=by rw[wHf];have:=zJQ (ns:=zI ds) (ps:=zU ds++[new]) (d:=d0);omega
  refine⟨e,m,_,d0,rfl,zB,by rw[zO me];exact hm,ll,?_,λdx l eJ aO hl=>⟨rfl,dx,_,aO,?_,zB,?_⟩⟩
  ·have:d0.natAbs<=5000:=by omega
   exact wHK this ⋯
  ·have le:l≠e:=λz=>by rw[z,zO (Ne.symm aO),zB] at hl;cases hl
   rw[zO (Ne.symm aO),zO (Ne.symm le),zO (Ne.symm aO),zB]
  have ld:l≠dx:=λz=>by rw[z,zB] at hl;cases hl
  have le:l≠e:=λz=>by rw[z,zO (Ne.symm aO),zB] at hl;cases hl
  refine qS d0 aZ ⟨h0,h1,z,zf⟩ _ dx ?_ ⟨l,cE.free (by rw[zO ld,zO le,zO le] at hl;exact hl),zB,?_⟩
  ·intro a o ha;have h3:=cE a o ha;have ae:a≠e:=λz=>by rw[z,he] at h3;cases h3
   have ad:a≠dx:=λz=>by rw[zO aO] at eJ;rw[z,eJ] at h3;cases h3
   have al:a≠l:=λz=>by rw[zO ld,zO le,zO le] at hl;rw[z,hl] at h3;cases h3
   rw[zO ad,zHU ae,zO ad,zO al,zO ad,zO ae,zO ae];exact h3
  rw[zO ld,zHU le,zO ld,zB]
  rfl
 have cE:=aP.trans s3;refine⟨_,rfl,rfl,_,rfl,zB8 ?_⟩;have B3:=hB.same cE;obtain⟨oq,qs3,jW,_⟩:=id B3;refine⟨_,rfl,b,oq,_,rfl,jW,rfl,b,tl,ds,rfl,B3,hz,λl4 H4 hl4 s4 T4=>?_⟩;obtain⟨q4,g1,g2,_⟩:=T4;refine⟨l4,_,rfl,.inl (SqL.of g1),_,_,rfl,rfl,_,rfl,?_⟩;have ll:(q4.map V.ref).length=(zU ds).length:=by rw[wHf,g2,wHf]
 rw[ll];refine zCH (λd=>?_) (λd=>?_)
 ·have d':(80:Int)<=((zU ds).length:Nat):=wHw d;refine⟨_,⟨by decide,rfl⟩,by bv_omega,by bv_omega,by bv_omega,?_⟩;exact qF aZ bN ∅ _ (cE.trans s4)
 have d':¬(80:Int)<=((zU ds).length:Nat):=wHT (wIB d);exact qN aZ bN ∅ _ (cE.trans s4)
open Classical in
noncomputable def zKh (ns:List Str) (ps:List Pct) (g u:Str) (p f l:Int):Option Nat:=match zJ7 ns g u p f l with
 | some k=>some k
 | none=>if zJ8 ns ps (g,u,p,f,l) then some 6 else none
def zPy {ns:List Str} {ps:List Pct} {g u:Str} {p f l:Int} {k:Nat} (h:zJ7 ns g u p f l=some k):zKh ns ps g u p f l=some k:=by unfold zKh;rw[h]
theorem zNa {ns:List Str} {ps:List Pct} {g u:Str} {p f l:Int} (h:zJ7 ns g u p f l=none) (o:zJ8 ns ps (g,u,p,f,l)):zKh ns ps g u p f l=some 6:=by unfold zKh;rw[h];exact wHl o
def zI5 {ns:List Str} {ps:List Pct} {g u:Str} {p f l:Int} (h:zJ7 ns g u p f l=none) (o:¬zJ8 ns ps (g,u,p,f,l)):zKh ns ps g u p f l=none:=by unfold zKh;rw[h];exact wHj o
def zQ2 (t:Adr):Nat->Addr
 | 2=>t.wAf
 | 3=>t.wAn
 | 4=>t.wAj
 | 5=>t.wAe
 | 6=>t.wAd
 | _=>t.wAw
def zNE {ns:List Str} {g u:Str} {p f l:Int} {k:Nat} (h:zJ7 ns g u p f l=some k):k=2∨k=3∨k=4∨k=5:=by
 unfold zJ7 at h
 split at h
 ·split at h
  ·split at h
   ·exact .inr (.inl (wHo h).symm)
   split at h
   ·exact .inr (.inr (.inl (wHo h).symm))
   split at h
   ·split at h
    ·split at h
     ·cases h
     exact .inr (.inr (.inr (wHo h).symm))
    exact .inr (.inr (.inr (wHo h).symm))
   exact .inr (.inr (.inr (wHo h).symm))
  exact .inl (wHo h).symm
 exact .inl (wHo h).symm
def zPI {t:Adr} {k:Nat} (h:k=2∨k=3∨k=4∨k=5):zQ2 t k=zRw t k:=by rcases h with rfl | rfl | rfl | rfl<;>rfl
inductive sp_Book_pact (K:W.Frag) (t:Adr) (vs:List V) (H:Hp) (Q:VK) (E:XK):Prop
 | mk (b tl:Addr) (ds:List Deed) (g u:Str) (p f l:Int):vs=[.ref b,.str g,.str u,.int p,.int f,.int l]->(zAC H t.wAc b tl ds/\ds.length<=900/\(zI ds).length<=15/\zL9 (zU ds++[(g,u,p,f,l)])/\zG4 g/\zG4 u/\
 (zJ7 (zI ds) g u p f l=none->NewOk (zI ds) (zU ds) (g,u,p,f,l))/\
 (∀H' k,zKh (zI ds) (zU ds) g u p f l=some k->zAh H H'->E (.ref (zQ2 t k)) none H')/\
 (∀d0 H' dx,zKh (zI ds) (zU ds) g u p f l=none->zFl (zI ds) (zU ds++[(g,u,p,f,l)]) d0->zAh H H'->zL5 H H' dx d0 (zI2 (zI ds) (zU ds++[(g,u,p,f,l)]) d0)->E (.ref t.wAa) (some dx) H')/\
 (∀H',zKh (zI ds) (zU ds) g u p f l=none->zH4 (zI ds) (zU ds++[(g,u,p,f,l)])->80<=(zU ds).length->zAh H H'->E (.ref t.wAw) none H')/\
 ∀H',zKh (zI ds) (zU ds) g u p f l=none->zH4 (zI ds) (zU ds++[(g,u,p,f,l)])->(zU ds).length < 80->zDy tl H H'->zAC H' t.wAc b tl (ds++[.pact g u p f l])->Q .non H')->sp_Book_pact K t vs H Q E
def zGW (T:Txt P K mg t):FnOk P w K mg base (CXx P w) 45 t.wBr t.wBs ["self","giver","taker","part","first","last"] (sp_Book_pact K t):=by
 refine T.wE8.okX zGI ⟨⟩ ();obtain⟨b,tl,ds,g,u,p,f,l,rfl,hB,hz,aI,lT,sg,su,new,qe,qS,qF,q⟩:=h;refine⟨_,(zC (zAm (zAR ((zFs T).mono ⋯) hr rfl T.wD6 T.wB7.kp T.wD5 .nil zBU (zAe (zBu (pv 0) T.wAi T.wAm ((zAQ T).mono ⋯) hr T.wAl .nil zCT) (pv 1) (pv 2) (zAe (pv 3) (pv 4) (pv 5) zE zA zA zA) zS zA zA)))
  (zC (zAm (zCl (pv 0) T.wAi T.wC5 ((zDI T).mono ⋯) hr T.wC4 .nil zBU (zG (zAS (zQ (pv 1) (pv 2) (zAe (pv 3) (pv 4) (pv 5) zE zA zA zA) zA zA)) zE zAE)))
  (zF (zAm (zBz K wHV wH2 wH6 zA3 (zI9 (pv 0) rfl) (zG (zAS (zG zAK (zQ (pv 1) (pv 2) (zAe (pv 3) (pv 4) (pv 5) zE zA zA zA) zA zA) zM)) zE zAE)))))),?_⟩
 obtain⟨dx,qs,hb,ht,hq,hd⟩:=id hB;refine⟨_,rfl,b,dx,_,rfl,hb,rfl,b,tl,ds,rfl,hB,hz,λnl dJ=>?_⟩;have s1:=zD dJ (.lst ((zI ds).map V.str));have en:upd H nl (.lst ((zI ds).map V.str)) nl=some (.lst ((zI ds).map V.str)):=zB;have B1:=hB.same s1;generalize upd H nl (.lst ((zI ds).map V.str))=H1 at s1 en B1 ⊢;refine⟨_,rfl,_,rfl,_,rfl,_,rfl,_,rfl,nl,zI ds,g,u,p,f,l,rfl,SqL.of en,sg,su,λtn=>?_,λk tk=>by rw[← zPI (zNE tk)];exact qe H1 k (zPy tk) s1⟩;have cO:=new tn;obtain⟨dE,jz,bV,_⟩:=id B1;refine⟨_,rfl,b,dE,_,rfl,bV,rfl,_,rfl,_,rfl,_,rfl,_,rfl,_,rfl,szl,λnw cG=>?_⟩;have s2:=zD cG (.tup (Pct.vs (g,u,p,f,l)));have aP:=s1.trans s2;refine⟨b,tl,nw,ds,(g,u,p,f,l),rfl,B1.same s2,hz,aI,lT,zB,sg,cO,λov H3 s3=>qe H3 6 (zNa tn ov) (aP.trans s3),λd0 aZ fs H3 dx s3 hd=>qS d0 H3 dx (zI5 tn aZ) fs (aP.trans s3) (hd.back aP),λaZ bN c H3 s3=>qF H3 (zI5 tn aZ) bN c (aP.trans s3),λaZ bN c H3 s3=>?_⟩;have cE:=aP.trans s3;obtain⟨oq,qs3,jW,m8,hq3,nu⟩:=hB.same cE;refine⟨_,rfl,b,_,oq,_,_,rfl,jW,T.wAi,T.wAx,rfl,.inl ⟨rfl,_,SqL.of m8⟩,?_⟩;refine⟨_,rfl,_,rfl,_,rfl,_,rfl,_,rfl,szl,λp' cT=>?_⟩;have s4:=zD cT (.tup (Deed.pact g u p f l).vs);refine⟨tl,_,_,rfl,rfl,s4 _ _ m8,by rw[wHf,hq3];exact zAj ∅,?_⟩;refine q _ (zI5 tn aZ) bN c ((zDy.of (cE.trans s4)).trans zDy.upd) ?_;exact zAC.snoc (s4 _ _ jW) (s4 _ _ m8) hq3 (λi a d e1 e2=>s4 _ _ (nu i a d e1 e2)) zB
inductive sp_Book_ways (K:W.Frag) (t:Adr) (vs:List V) (H:Hp) (Q:VK) (E:XK):Prop
 | mk (b tl:Addr) (ds:List Deed) (d:Int):vs=[.ref b,.int d]->(zAC H t.wAc b tl ds/\ds.length<=900/\(∀p∈zU ds,p.1∈zI ds/\p.2.1∈zI ds)/\
 (¬(0<=d/\d<=5000)->E (.ref t.wAe) none H)/\
 (0<=d/\d<=5000->∀l H',H l=none->zAh H H'->zAf H' l (((zU ds).filter (zBh d)).map (zJ6 (zI ds)))->Q (.ref l) H'))->sp_Book_ways K t vs H Q E
def zDW (T:Txt P K mg t):FnOk P w K mg base (CXx P w) 42 t.wBt t.wBu ["self","day"] (sp_Book_ways K t):=by
 refine T.wFb.okX zGH ⟨⟩ ();obtain⟨b,tl,ds,d,rfl,hB,hz,eE,qe,q⟩:=h;refine⟨_,(zC (zAm (zAR ((zC1 T).mono ⋯) hr rfl T.wBA T.wAO.kp T.wBz .nil zBU (zG (pv 1) zE zA)))
  (zF (zT (cal (zJm T) hr T.wFS T.wD0 T.wFR (zAe (zBu (pv 0) T.wAi T.wAm ((zAQ T).mono ⋯) hr T.wAl .nil zCT) (zBu (pv 0) T.wAi T.wAI ((zB6 T).mono ⋯) hr T.wAH .nil zCT) (pv 1) zE zS zS zA))))),?_⟩
 refine⟨_,rfl,d,rfl,λc=>?_,λc=>qe c⟩;obtain⟨dx,qs,hb,ht,hq,hd⟩:=id hB;refine⟨_,rfl,b,dx,_,rfl,hb,rfl,b,tl,ds,rfl,hB,hz,λnl dJ=>?_⟩;have s1:=zD dJ (.lst ((zI ds).map V.str));have en:upd H nl (.lst ((zI ds).map V.str)) nl=some (.lst ((zI ds).map V.str)):=zB;have B1:=hB.same s1;generalize upd H nl (.lst ((zI ds).map V.str))=H1 at s1 en B1 ⊢;obtain⟨dE,jz,bV,_⟩:=id B1;refine⟨_,rfl,b,dE,_,rfl,bV,rfl,b,tl,ds,rfl,B1,hz,λpl H2 aM s2 T2=>?_⟩;exact⟨_,rfl,nl,pl,zI ds,zU ds,d,rfl,SqL.of (s2 _ _ en),T2,wHv (zGO _) hz,eE,λl H3 hl s3 T3=>q c l H3 ((s1.trans s2).free hl) ((s1.trans s2).trans s3) T3⟩
def zQ4 (n:Nat) (ws:Wys) (s0:Nat) (U W:Nat->Int):Prop:=∃X Y:Nat->Int,FrOk n X Y/\FrOk n U W/\(∀(x:Nat->Int) (l:Int),(∀i,i < n->x i*Y i=X i*l)↔Sol n (M0 n ws s0) x l)/\∀i,i < n->U i*(1000*Y i)=keeps ws i*X i*W i
inductive sp_Book_shares (K:W.Frag) (t:Adr) (vs:List V) (H:Hp) (Q:VK) (E:XK):Prop
 | mk (b tl:Addr) (ds:List Deed) (h:Str) (d:Int):vs=[.ref b,.str h,.int d]->(zAC H t.wAc b tl ds/\ds.length<=900/\zG4 h/\(zI ds).length<=15/\PsOk (zI ds) (zU ds)/\(zU ds).length<=800/\
 (h∉zI ds->∀H',zAh H H'->E (.ref t.wAf) none H')/\
 (h∈zI ds->¬(0<=d/\d<=5000)->∀H',zAh H H'->E (.ref t.wAe) none H')/\
 (h∈zI ds->0<=d/\d<=5000->WyOk (zI ds).length (zBq (zI ds) (zU ds) d)/\zN0 (zI ds).length (zBq (zI ds) (zU ds) d)/\
  ∀(l:Addr) (q:Nat->Addr) (U W:Nat->Int) (H':Hp),H l=none->zAh H H'->FrAt H' l q (zI ds).length U W->zQ4 (zI ds).length (zBq (zI ds) (zU ds) d) ((zI ds).idxOf h) U W->Q (.ref l) H'))->sp_Book_shares K t vs H Q E
def zCF (T:Txt P K mg t):FnOk P w K mg base (CXx P w) 45 t.wAZ t.wA0 ["self","house","day"] (sp_Book_shares K t):=by
 refine T.wEa.okX zBI ⟨⟩ ();obtain⟨b,tl,ds,h,d,rfl,hB,hz,sn,aI,ok,p8,qu,qr,q⟩:=h;refine⟨_,(zC (zAF 3 zBI.nd (zBu (pv 0) T.wAi T.wAm ((zAQ T).mono ⋯) hr T.wAl .nil zCT))
  (zC (zAF 4 zBI.nd (zAR ((zBD T).mono ⋯) hr rfl T.wAG T.wAu.kp T.wAF .nil zBU (zQ (pv 3) (pv 1) zE zA zA)))
  (zF (zT (zAR ((zKA T).mono ⋯) hr rfl T.wCC T.wEF.kp T.wGg .nil zCT (zAe (zR (zAd K) rfl T.wAh wHB (zG (pv 3) zE zA)) (zCl (pv 0) T.wAi T.wCM ((zDW T).mono ⋯) hr T.wCL .nil zBU (zG (pv 2) zE zA)) (pv 4) zE zS zS zA)))))),?_⟩
 obtain⟨dx,qs,hb,ht,hq,hd⟩:=id hB;refine⟨_,rfl,b,dx,_,rfl,hb,rfl,b,tl,ds,rfl,hB,hz,λnl dJ=>?_⟩;have s1:=zD dJ (.lst ((zI ds).map V.str));have en:upd H nl (.lst ((zI ds).map V.str)) nl=some (.lst ((zI ds).map V.str)):=zB;have B1:=hB.same s1;show zJN _ _ _ _ (upd H nl (.lst ((zI ds).map V.str)));generalize upd H nl (.lst ((zI ds).map V.str))=H1 at s1 en B1 ⊢;refine⟨_,rfl,_,rfl,nl,zI ds,h,rfl,SqL.of en,sn,λc=>?_,λc=>qu c H1 s1⟩;refine⟨_,rfl,nl,_,rfl,.inl (SqL.of en),?_⟩;obtain⟨dE,jz,bV,_⟩:=id B1;refine⟨_,rfl,b,dE,_,rfl,bV,rfl,_,rfl,b,tl,ds,d,rfl,B1,hz,ok.inn,λc2=>qr c c2 H1 s1,λc2 wl H2 fU s2 T2=>?_⟩;obtain⟨wo,op,qq⟩:=q c c2;obtain⟨rs,wa⟩:=zLB (K:=K) T2;have aP:=s1.trans s2;exact⟨_,rfl,(zI ds).length,(zI ds).idxOf h,wl,rs,_,by rw[wHf];rfl,wa,wo,op,List.idxOf_lt_length_iff.mpr c,aI,λl q X Y U W H3 hl s3 F x1 x2 x3 x4=>qq l q U W H3 (aP.free hl) (aP.trans s3) F ⟨X,Y,x1,x2,x3,x4⟩⟩
def zR7 (n:Nat) (ws:Wys) (s0:Nat) (X Y:Nat->Int):Prop:=FrOk n X Y/\∀(x:Nat->Int) (l:Int),(∀i,i < n->x i*Y i=X i*l)↔Sol n (M0 n ws s0) x l
inductive sp_Book_paper (K:W.Frag) (t:Adr) (vs:List V) (H:Hp) (Q:VK) (E:XK):Prop
 | mk (b tl:Addr) (ds:List Deed) (h:Str) (d:Int):vs=[.ref b,.str h,.int d]->(zAC H t.wAc b tl ds/\ds.length<=900/\zG4 h/\(zI ds).length<=15/\PsOk (zI ds) (zU ds)/\(zU ds).length<=800/\
 (h∉zI ds->∀H',zAh H H'->E (.ref t.wAf) none H')/\
 (h∈zI ds->¬(0<=d/\d<=5000)->∀H',zAh H H'->E (.ref t.wAe) none H')/\
 (h∈zI ds->0<=d/\d<=5000->WyOk (zI ds).length (zBq (zI ds) (zU ds) d)/\zN0 (zI ds).length (zBq (zI ds) (zU ds) d)/\
  ∀(l:Addr) (q:Nat->Addr) (X Y:Nat->Int) (H':Hp),H l=none->zAh H H'->FrAt H' l q (zI ds).length X Y->zR7 (zI ds).length (zBq (zI ds) (zU ds) d) ((zI ds).idxOf h) X Y->(∀i,i < (zI ds).length->Bt 390000 (X i)/\Bt 390000 (Y i))->Q (.ref l) H'))->sp_Book_paper K t vs H Q E
def zGi (T:Txt P K mg t):FnOk P w K mg base (CXx P w) 44 t.wBc t.wBd ["self","house","day"] (sp_Book_paper K t):=by
 refine T.wEK.okX zCe ⟨⟩ ();obtain⟨b,tl,ds,h,d,rfl,hB,hz,sn,aI,ok,p8,qu,qr,q⟩:=h;refine⟨_,(zC (zAF 3 zCe.nd (zBu (pv 0) T.wAi T.wAm ((zAQ T).mono ⋯) hr T.wAl .nil zCT))
  (zC (zAF 4 zCe.nd (zAR ((zBD T).mono ⋯) hr rfl T.wAG T.wAu.kp T.wAF .nil zBU (zQ (pv 3) (pv 1) zE zA zA)))
  (zF (zT (cal (zEL T) hr T.wDi T.wBZ T.wDh (zAe (zR (zAd K) rfl T.wAh wHB (zG (pv 3) zE zA)) (zCl (pv 0) T.wAi T.wCM ((zDW T).mono ⋯) hr T.wCL .nil zBU (zG (pv 2) zE zA)) (pv 4) zE zS zS zA)))))),?_⟩
 obtain⟨dx,qs,hb,ht,hq,hd⟩:=id hB;refine⟨_,rfl,b,dx,_,rfl,hb,rfl,b,tl,ds,rfl,hB,hz,λnl dJ=>?_⟩;have s1:=zD dJ (.lst ((zI ds).map V.str));have en:upd H nl (.lst ((zI ds).map V.str)) nl=some (.lst ((zI ds).map V.str)):=zB;have B1:=hB.same s1;show zJN _ _ _ _ (upd H nl (.lst ((zI ds).map V.str)));generalize upd H nl (.lst ((zI ds).map V.str))=H1 at s1 en B1 ⊢;refine⟨_,rfl,_,rfl,nl,zI ds,h,rfl,SqL.of en,sn,λc=>?_,λc=>qu c H1 s1⟩;refine⟨_,rfl,nl,_,rfl,.inl (SqL.of en),?_⟩;obtain⟨dE,jz,bV,_⟩:=id B1;refine⟨_,rfl,b,dE,_,rfl,bV,rfl,_,rfl,b,tl,ds,d,rfl,B1,hz,ok.inn,λc2=>qr c c2 H1 s1,λc2 wl H2 fU s2 T2=>?_⟩;obtain⟨wo,op,qq⟩:=q c c2;obtain⟨rs,wa⟩:=zLB (K:=K) T2;have aP:=s1.trans s2;exact⟨_,rfl,(zI ds).length,(zI ds).idxOf h,wl,rs,_,by rw[wHf];rfl,wa,wo,op,List.idxOf_lt_length_iff.mpr c,aI,λl q X Y H3 hl s3 F x1 x2 x3=>qq l q X Y H3 (aP.free hl) (aP.trans s3) F ⟨x1,x3⟩ x2⟩
def zGs {T B v low:Int} (hB:0 < B) (hl:0 < low) (e:T*low=v*B):T / B=v / low/\(T-v / low*B)*low=v%low*B:=by
 have h1:=Int.mul_ediv_add_emod v low;have h2:=Int.emod_nonneg v (b:=low) ∅;have h3:=Int.emod_lt_of_pos v hl;have e2:(T-v / low*B)*low=v%low*B:=by
  generalize v / low=q at *;generalize v%low=r at *
  grind
 refine⟨?_,e2⟩;have a0:0<=T-v / low*B:=by
  have:0<=low*(T-v / low*B):=by rw[wH1,e2];exact zCG h2 (wIn hB)
  exact zEw hl this
 have a1:T-v / low*B < B:=by
  have:0 < low*(B-(T-v / low*B)):=by
   have h4:low*(B-(T-v / low*B))=(low-v%low)*B:=by rw[Int.mul_sub,wH1 low (T-_),e2,Int.sub_mul]
   rw[h4];exact wIv ∅ hB
  have:=zCZ hl this;omega
 have e3:T=T-v / low*B+v / low*B:=by omega
 rw[e3,Int.add_mul_ediv_right _ _ ∅,Int.ediv_eq_zero_of_lt a0 a1];omega
def fl (am low:Int) (w:Nat->Int) (i:Nat):Int:=am*w i / low
def rm (am low:Int) (w:Nat->Int) (i:Nat):Int:=am*w i%low
def zRc {am low:Int} {w:Nat->Int} (i:Nat):low*fl am low w i+rm am low w i=am*w i:=Int.mul_ediv_add_emod _ _
def zQk {am low:Int} {w:Nat->Int} {n:Nat} (hw:Sg w n=low):low*(am-Sg (fl am low w) n)=Sg (rm am low w) n:=by have h:Sg (λi=>low*fl am low w i+rm am low w i) n=Sg (λi=>am*w i) n:=zA7 λi _=>zRc i;rw[zH2,zBH,zBH,hw] at h;rw[Int.mul_sub,wH1 low am];omega
def zP3 {am low:Int} {w:Nat->Int} (hl:0 < low) (i:Nat):0<=rm am low w i/\rm am low w i < low:=⟨Int.emod_nonneg _ ∅,Int.emod_lt_of_pos _ hl⟩
def zKj {am low:Int} {w:Nat->Int} {n:Nat} (hl:0 < low) (hn:0 < n) (hw:Sg w n=low):0<=am-Sg (fl am low w) n/\am-Sg (fl am low w) n < n:=by
 have e:=zQk (am:=am) hw;have h1:0<=Sg (rm am low w) n:=zJ5 λi _=>(zP3 hl i).1;have h2:Sg (rm am low w) n < low*n:=by
  have:∀n,0 < n->Sg (rm am low w) n < low*(n:Nat):=by
   intro n
   induction n with
   | zero=>intro z;omega
   | succ n ih=>
    intro _;have r:=zP3 (am:=am) (w:=w) hl n;show Sg (rm am low w) n+rm am low w n < low*((n+1:Nat):Int);rw[Int.natCast_add,Int.mul_add];rcases Nat.eq_zero_or_pos n with z | z
    ·subst z;show 0+_ < _;simp;omega
    have:=ih z;show _ < _+low*1;omega
  exact this n hn
 rw[← e] at h1 h2;refine⟨zEw hl h1,?_⟩;have:0 < low*((n:Int)-(am-Sg (fl am low w) n)):=by rw[Int.mul_sub];omega
 have:=zCZ hl this;omega
def Beh (r:Nat->Int) (i j:Nat):Prop:=r i < r j∨(r i=r j/\j<=i)
def Beh.trans {r:Nat->Int} {i j k:Nat} (h:Beh r i j) (h':Beh r j k):Beh r i k:=by unfold Beh at *;omega
inductive sp_minus (K:W.Frag) (vs:List V) (H:Hp) (Q:VK) (E:XK):Prop
 | mk (p r:Addr) (x y z u:Int):vs=[.ref p,.ref r]->(SqT K H p [.int x,.int y]/\SqT K H r [.int z,.int u]/\(Bt 450000 x/\Bt 450000 y/\Bt 450000 z/\Bt 450000 u)/\y*u≠0/\∀(m:Addr) (a b:Int),H m=none->Low (x*u-z*y) (y*u) a b->Q (.ref m) (upd H m (.tup [.int a,.int b])))->sp_minus K vs H Q E
def zMq (T:Txt P K mg t):FnOk P w K mg base CX0 42 t.wDt t.wDu ["one","two"] (sp_minus K):=by refine T.wFf.ok zLU ⟨⟩ ();obtain⟨p,r,x,y,z,u,rfl,ex,ey,⟨b1,b2,b3,b4⟩,h0,q⟩:=h;refine⟨_,(zF (zT (cal (zDm T) hr T.wBY T.wBg T.wBX (zQ (zV zEI (zV zBs (zBr K (pv 0) zH) (zBr K (pv 1) zH)) (zV zBs (zBr K (pv 1) zH) (zBr K (pv 0) zH))) (zV zBs (zBr K (pv 0) zH) (zBr K (pv 1) zH)) zE zX zX)))),?_⟩;exact⟨_,rfl,p,_,_,_,rfl,rfl,ex,rfl,_,rfl,r,_,_,_,rfl,rfl,ey,rfl,_,_,rfl,rfl,zAO b1 b4 ⋯,_,rfl,r,_,_,_,rfl,rfl,ey,rfl,_,rfl,p,_,_,_,rfl,rfl,ex,rfl,_,_,rfl,rfl,zAO b3 b2 ⋯,_,_,rfl,rfl,_,rfl,p,_,_,_,rfl,rfl,ex,rfl,_,rfl,r,_,_,_,rfl,rfl,ey,rfl,_,_,rfl,rfl,zAO b2 b4 ⋯,x*u-z*y,y*u,rfl,h0,q⟩
inductive sp_less (K:W.Frag) (vs:List V) (H:Hp) (Q:VK) (E:XK):Prop
 | mk (p r:Addr) (x y z u:Int):vs=[.ref p,.ref r]->(SqT K H p [.int x,.int y]/\SqT K H r [.int z,.int u]/\(Bt 1000000 x/\Bt 1000000 y/\Bt 1000000 z/\Bt 1000000 u)/\Q (.bl (decide (x*u < z*y))) H)->sp_less K vs H Q E
def zOw (T:Txt P K mg t):FnOk P w K mg base CX0 40 t.wEg t.wEh ["one","two"] (sp_less K):=by refine T.wFO.ok zNV ⟨⟩ ();obtain⟨p,r,x,y,z,u,rfl,e1,e2,⟨b1,b2,b3,b4⟩,q⟩:=h;refine⟨_,(zF (zT (zBL zFr (zV zBs (zBr K (pv 0) zH) (zBr K (pv 1) zH)) (zV zBs (zBr K (pv 1) zH) (zBr K (pv 0) zH)) (zAg _)))),?_⟩;exact⟨_,rfl,p,_,_,_,rfl,rfl,e1,rfl,_,rfl,r,_,_,_,rfl,rfl,e2,rfl,_,_,rfl,rfl,zAO b1 b4 ⋯,_,rfl,r,_,_,_,rfl,rfl,e2,rfl,_,rfl,p,_,_,_,rfl,rfl,e1,rfl,_,_,rfl,rfl,zAO b3 b2 ⋯,_,_,rfl,rfl,q⟩
def zM7 {R S R' S' r r' low:Int} (hl:0 < low) (hS:0 < S) (jY:0 < S') (e:R*low=r*S) (e':R'*low=r'*S'):R*S' < R'*S↔r < r':=by
 have k:low*(R'*S-R*S')=(r'-r)*(S*S'):=by grind
 have ss:=wIv hS jY;constructor
 ·intro h;have h1:0 < low*(R'*S-R*S'):=wIv hl ∅;rw[k,wH1] at h1;have:=zCZ ss h1;omega
 intro h;have h1:0 < (r'-r)*(S*S'):=wIv ∅ ss;rw[← k] at h1;have:=zCZ hl h1;omega
inductive sp_greatest_rest (K:W.Frag) (vs:List V) (H:Hp) (Q:VK) (E:XK):Prop
 | mk (d p:Addr) (q:Nat->Addr) (n:Nat) (R S:Nat->Int) (r:Nat->Int) (low:Int) (ns:List Int):vs=[.ref d,.ref p]->(FrAt H d q n R S/\0 < low/\(∀i,i < n->0 < S i/\R i*low=r i*S i/\Bt 1000000 (R i)/\Bt 1000000 (S i))/\
 H p=some (.lst (ns.map V.int))/\ns.Pairwise (· < ·)/\(∀x∈ns,0<=x/\x < n)/\ns≠[]/\∀b:Nat,(b:Int)∈ns->(∀i:Nat,(i:Int)∈ns->Beh r i b)->Q (.int (b:Nat)) H)->sp_greatest_rest K vs H Q E
def zEg (T:Txt P K mg t):FnOk P w K mg base CX0 41 t.wAD t.wAE ["rests","places"] (sp_greatest_rest K):=by
 refine T.wBi.ok zAY ⟨⟩ ();obtain⟨d,p,q,n,R,S,r,low,ns,rfl,fa,l0,hrr,ep,rise,bd,ne,k⟩:=h;refine⟨_,(zC (zAF 2 zAY.nd (zAA K (pv 1) zH))
  (zC (zAr PassesOwn.never rfl (zAa K (pv 1)) (zJ (i:=3) zAY.nd rfl (Or.inl rfl)) (zF (zAs (zA1 (cal (zOw T) hr T.wGN T.wFO T.wGM (zQ (zAA K (pv 0) (pv 2)) (zAA K (pv 0) (pv 3)) zE zK zK))) (zF (zAF 2 zAY.nd (pv 3))) zZ)))
  (zF (zT (pv 2))))),?_⟩
 have n0:0 < ns.length:=List.length_pos_iff.mpr ne;refine⟨_,rfl,p,_,_,_,rfl,rfl,SqL.of ep,zDw ∅ ∅,?_⟩;have get:∀(i:Nat) (hi:i < ns.length),∃a:Nat,ns[i]=(a:Int)/\a < n/\ns.getD i 0=(a:Int):=λi hi=>by have:=bd ns[i] (wHF hi);exact⟨ns[i].toNat,by omega,by omega,by rw[wHh,wHg hi];show ns[i]=_;omega⟩
 obtain⟨b0,hb0,bn0,gb0⟩:=get 0 n0;show zIm 2 (V.int (ns.getD (0:Int).toNat 0)) _ _ _;rw[show (0:Int).toNat=0 from rfl,gb0];refine⟨_,rfl,p,rfl,⟨_,SqL.of ep⟩,zAx (K:=K) (a:=p) (xs:=ns.map V.int) (λi σ' H'=>∃(b:Nat) (u:Option V),σ'=[some (.ref d),some (.ref p),some (.int (b:Nat)),u]/\H'=H/\(b:Int)∈ns/\(∀e,e < i->∀a:Nat,ns[e]?=some (a:Int)->Beh r a b)/\(∀e,i<=e->∀a:Nat,ns[e]?=some (a:Int)->b<=a))
  ⟨b0,_,rfl,rfl,by rw[← hb0];exact wHF n0,λe he=>absurd he (wHA _),λe he a ha=>?_⟩ (λi σ' H' _ ⟨_,_,_,e,_⟩=>by rw[e];exact SqL.of ep) ?_ ?_⟩
 ·obtain⟨h1,h2⟩:=wIy ha;rcases Nat.eq_zero_or_pos e with z | z
  ·subst z;omega
  have:=List.pairwise_iff_getElem.mp rise 0 e n0 h1 z;omega
 ·rintro i x σ' H' hx ⟨b,u,rfl,rfl,bm,dF,aft⟩;rw[wHn] at hx;obtain⟨y,ey,rfl⟩:=wIA hx;obtain⟨hi,gy⟩:=wIy ey;obtain⟨a,ga,an,_⟩:=get i hi;have ya:y=(a:Int):=by omega
  subst ya;have bn:b < n:=by have:=bd _ bm;omega
  obtain⟨s1,e1,x1,x2⟩:=hrr b bn;obtain⟨s2,e2,x3,x4⟩:=hrr a an;have li:=zM7 l0 s1 s2 e1 e2;have xd:=SqL.of (K:=K) fa.top;refine⟨_,rfl,_,rfl,d,_,_,_,rfl,rfl,xd,zAk bn,_,rfl,_,rfl,d,_,_,_,rfl,rfl,xd,zAk an,q b,q a,R b,S b,R a,S a,rfl,SqT.of (fa.row b bn),SqT.of (fa.row a an),⟨x1,x2,x3,x4⟩,_,rfl,zCH (λc=>?_) (λc=>?_)⟩
  ·have c1:=li.mp (wHw c);refine⟨_,rfl,a,_,rfl,rfl,by rw[← ga];exact wHF hi,λe he a' cH=>?_,λe he a' cH=>?_⟩
   ·by_cases z:e=i
    ·subst z;rw[ey] at cH;have:=wHo cH;unfold Beh;right;have:a=a':=by omega
     subst this;exact⟨rfl,wHm _⟩
    have:=dF e ∅ a' cH;unfold Beh at *;omega
   obtain⟨h1,h2⟩:=wIy cH;have:=List.pairwise_iff_getElem.mp rise i e hi h1 ∅;omega
  have c1:¬r b < r a:=λz=>c (wHM (li.mpr z));refine⟨b,_,rfl,rfl,bm,λe he a' cH=>?_,λe he a' cH=>aft e ∅ a' cH⟩;by_cases z:e=i
  ·subst z;have:=aft e (wHm _) a' cH;rw[ey] at cH;have:=wHo cH;have:a=a':=by omega
   subst this;unfold Beh;omega
  exact dF e ∅ a' cH
 rintro σ' H' ⟨b,u,rfl,rfl,bm,dF,aft⟩;rw[wHf] at dF;refine⟨_,rfl,k b bm λi hi=>?_⟩;obtain⟨e,he,ee⟩:=List.mem_iff_getElem.mp hi;exact dF e he i (by rw[wHg he,ee])
def zNz {n p:Nat} {f:Nat->Int} (hp:p < n):Sg (λi=>if i=p then f i+1 else f i) n=Sg f n+1:=by
 have:Sg (λi=>if i=p then f i+1 else f i) n=Sg (λi=>f i+(if i=p then 1 else 0)) n:=zA7 λi _=>by
  show (if i=p then f i+1 else f i)=f i+(if i=p then 1 else 0);by_cases e:i=p
  ·rw[wHl e,wHl e]
  rw[wHj e,wHj e];omega
 rw[this,zH2,zC3 hp]
inductive sp_coins (K:W.Frag) (vs:List V) (H:Hp) (Q:VK) (E:XK):Prop
 | mk (am low:Int) (p:Addr) (q:Nat->Addr) (n:Nat) (a b w:Nat->Int):vs=[.int am,.ref p]->(FrAt H p q n a b/\(∀i,i < n->(0 < b i/\a i*low=w i*b i)/\0<=w i/\Bt 400000 (a i)/\Bt 400000 (b i))/\0 < low/\Sg w n=low/\1<=am/\Bt 45 am/\1<=n/\n<=15/\
 ∀(d:Addr) (tk:Nat->Bool) (H':Hp),H d=none->zAh H H'->H' d=some (.lst (tab n λi=>V.int (fl am low w i+if tk i=true then 1 else 0)))->(∀i j,i < n->j < n->¬tk i=true->tk j=true->Beh (rm am low w) i j)->Sg (λi=>fl am low w i+if tk i=true then 1 else 0) n=am->Q (.ref d) H')->sp_coins K vs H Q E
def zMt (T:Txt P K mg t):FnOk P w K mg base CX0 43 t.wCD t.wDz ["amount","parts"] (sp_coins K):=by
 refine T.wFj.ok zCc ⟨⟩ ();obtain⟨am,low,p,q,n,a,b,w',rfl,fa,hw,l0,sw,a1,ba,n1,aI,kk⟩:=h;refine⟨_,(zC (zCk ["part","amount"] [none,some 0] (by kernel_rfl) rfl (zAa K (pv 1)) (λ_ _ _ _ _=>(zJ (i:=0) ndB rfl (Or.inl rfl))) (λ_ _ _ _ _=>zAw) (λ_ _ _ _ _=>(cal (zIF T) hr T.wFh T.wDS T.wFg (zQ (zAS (zQ (pv 1) zH zE zA zM)) (pv 0) zE zAE zA))) (zJ (i:=2) zCc.nd rfl (Or.inl rfl)))
  (zC (zCk ["top","bottom"] [none,none] (by kernel_rfl) rfl (zAa K (pv 2)) (λ_ _ _ _ _=>(zAt K (n:=2) rfl (zP (zJ (i:=0) ndB rfl (Or.inl rfl)) (zP (zJ (i:=1) ndB rfl (Or.inl rfl)) zAp)))) (λ_ _ _ _ _=>zAw) (λ_ _ _ _ _=>(zV (zB5 hr ⋯ T.tree ⟨_,_,rfl,rfl,rfl,rfl,rfl⟩) (pv 0) (pv 1))) (zJ (i:=3) zCc.nd rfl (Or.inl rfl)))
  (zC (zCk ["one","whole"] [none,none] (by kernel_rfl) rfl (zI6 rfl T.wEf (zQ (pv 2) (pv 3) zE zA zA)) (λ_ _ _ _ _=>(zAt K (n:=2) rfl (zP (zJ (i:=0) ndB rfl (Or.inl rfl)) (zP (zJ (i:=1) ndB rfl (Or.inl rfl)) zAp)))) (λ_ _ _ _ _=>zAw) (λ_ _ _ _ _=>(cal (zMq T) hr T.wGw T.wFf T.wGv (zQ (pv 0) (zAS (zQ (pv 1) zH zE zA zM)) zE zA zAE))) (zJ (i:=4) zCc.nd rfl (Or.inl rfl)))
  (zC (zAF 5 zCc.nd (zGN rfl T.wBh rfl T.wAg (zG (zR zEb rfl T.wAh wHB (zG (pv 1) zE)) zE) rfl))
  (zC (zAr PassesOwn.never rfl (zAi rfl T.wAg (zG (zV zEI (pv 0) (zR (zFb K rfl) rfl T.wFL PyProof.Rows.boot_sum (zG (pv 3) zE zA))) zE zX)) (zJ (i:=6) zCc.nd rfl (Or.inl rfl)) (zC (zAF 7 zCc.nd (cal (zEg T) hr T.wDk T.wBi T.wDj (zQ (pv 4) (pv 5) zE zA zA)))
  (zC (zAm (zBz K wHV F.slot_list_remove F.type_list_remove zKI (pv 5) (zG (pv 7) zE zA)))
  (zF (zDD (pv 3) (pv 7) zC8 zH zKY zAX)))))
  (zF (zT (pv 3)))))))),?_⟩
 refine⟨_,rfl,p,rfl,⟨_,SqL.of fa.top⟩,λc hc=>?_⟩;refine zAl (K:=K) (ys:=tab n λi=>V.ref (q i)) (λi σ' H'=>∃(v:Option V) (qf:Nat->Addr) (T B:Nat->Int),σ'=[v,some (.int am)]/\zAh H H'/\H' c=some (.lst (tab i λk=>V.ref (qf k)))/\∀k,k < i->H' (qf k)=some (.tup [.int (T k),.int (B k)])/\0 < B k/\T k*low=am*w' k*B k/\Bt 450000 (T k)/\Bt 450000 (B k))
  ⟨none,λ_=>c,λ_=>0,λ_=>0,rfl,zD hc _,zB,λk hk=>absurd hk (wHA _)⟩ (λj σ2 H2 _ ⟨_,_,_,_,_,s3,_⟩=>SqL.of (s3 _ _ fa.top)) ?_ ?_
 ·rintro i x σ' H' hx ⟨v,qf,T,B,rfl,s3,ec,hk⟩;obtain⟨hi,rfl⟩:=zA5 hx;obtain⟨⟨bp,lw⟩,w0,ba',bb'⟩:=hw i hi;refine⟨_,rfl,zAz,λp1 bY=>?_⟩;have s4:=zD bY (.tup [.int am,.int 1]);refine⟨_,rfl,p1,q i,am,1,a i,b i,rfl,SqT.of zB,SqT.of (s4 _ _ (s3 _ _ (fa.row i hi))),zAO ba ba' ⋯,zAO (j:=45) (show (1:Int).natAbs < 2 ^ 45 by decide) bb' ⋯,by omega,λp2 x y eC l2=>?_⟩;have eP:=s4 _ _ ec;have aX:c≠p2:=zN eP eC;refine⟨_,by rw[zO aX];exact eP,by rw[zW];exact zAL ∅,_,λk=>if k=i then p2 else qf k,λk=>if k=i then x else T k,λk=>if k=i then y else B k,rfl,zY ((s3.trans s4).trans (zD eC _)) hc _,?_,λk bI=>?_⟩
  ·rw[zB];refine congrArg (λl=>some (HO.lst l)) ?_;rw[← zAD]
   congr 1
   ·exact zA0 λk hk=>by show V.ref (qf k)=V.ref (if k=i then p2 else qf k);rw[wHj ∅]
   show [V.ref p2]=[V.ref (if i=i then p2 else qf i)];rw[wHl rfl]
  by_cases e:k=i
  ·subst e;simp only[↓reduceIte];refine⟨by rw[zO (Ne.symm aX)];exact zB,l2.pos,?_,?_,?_⟩
   ·have e1:=l2.eq;have e2:=lw;refine zB2 bp ?_
    grind
   ·exact Bt.mono (j:=45+400000) (wHK l2.tb (ba.mul ba')) ⋯
   exact Bt.mono (j:=45+400000) (wHK l2.bb ((show Bt 45 1 from (show (1:Int).natAbs < 2 ^ 45 by decide)).mul bb')) ⋯
  simp only[wHj e];obtain⟨z1,z2⟩:=hk k ∅;refine⟨?_,z2⟩;rw[zO (zCC z1 ec (by intro z;cases z))];exact zD eC _ _ _ (s4 _ _ z1)
 rintro σ' H1 ⟨v,qf,T,B,rfl,s1,ec,hk⟩;rw[zW] at ec hk;have dv:=λi (hi:i < n)=>zGs (hk i hi).2.1 l0 (hk i hi).2.2.1;refine⟨_,rfl,c,rfl,⟨_,SqL.of ec⟩,λtd dY=>?_⟩;refine zAl (K:=K) (ys:=tab n λi=>V.ref (qf i)) (λi σ' H'=>∃u v,σ'=[u,v]/\H'=upd H1 td (.lst (tab i λj=>V.int (fl am low w' j)))) ⟨none,none,rfl,rfl⟩ (λj σ2 H2 _ ⟨_,_,_,e⟩=>by rw[e];exact SqL.of (zD dY _ _ _ ec)) ?_ ?_
 ·rintro i x σ' H' hx ⟨u,v,rfl,rfl⟩;obtain⟨hi,rfl⟩:=zA5 hx;obtain⟨e1,b0,_⟩:=hk i hi;refine⟨qf i,_,rfl,SqT.of (zD dY _ _ _ e1),rfl,_,_,rfl,_,_,rfl,rfl,?_⟩;refine⟨_,rfl,_,rfl,_,_,rfl,rfl,(by show B i≠0;omega),_,zB,by rw[zW];exact zAL ∅,_,_,rfl,?_⟩;have e5:(T i).fdiv (B i)=fl am low w' i:=by rw[Int.fdiv_eq_ediv_of_nonneg _ ∅,(dv i hi).1];rfl
  show upd (upd H1 td _) td (.lst (_++[V.int ((T i).fdiv (B i))]))=_;rw[zBi,← zAD,e5]
 rintro σ' H2 ⟨u,v,rfl,rfl⟩;rw[zW];have s2:=zD dY (.lst (tab n λj=>V.int (fl am low w' j)));have aP:=s1.trans s2;have ec2:=s2 _ _ ec;refine⟨_,rfl,_,rfl,c,td,_,_,rfl,SqL.of ec2,SqL.of zB,λrt jI=>?_⟩;refine zGu (K:=K) (xs:=tab n λi=>V.ref (qf i)) (ys:=tab n λj=>V.int (fl am low w' j)) (by rw[zW,zW]) (λi σ' H'=>∃(u v:Option V) (qr:Nat->Addr) (R S:Nat->Int),σ'=[u,v]/\zAh (upd H1 td (.lst (tab n λj=>V.int (fl am low w' j)))) H'/\H' rt=some (.lst (tab i λk=>V.ref (qr k)))/\∀k,k < i->H' (qr k)=some (.tup [.int (R k),.int (S k)])/\0 < S k/\R k*low=rm am low w' k*S k/\Bt 1000000 (R k)/\Bt 1000000 (S k))
  ⟨none,none,λ_=>rt,λ_=>0,λ_=>0,rfl,zD jI _,zB,λk hk=>absurd hk (wHA _)⟩ (λj σ2 H2 _ ⟨_,_,_,_,_,_,s3,_⟩=>⟨SqL.of (s3 _ _ ec2),SqL.of (s3 _ _ zB)⟩) ?_ ?_
 ·rintro i x y σ' H' T2 hx hy ⟨u,v,qr,R,S,rfl,s3,er,hq⟩ dP;obtain⟨hi,rfl⟩:=zA5 hx;obtain⟨_,rfl⟩:=zA5 hy;have sT:=zD dP (.tup [.ref (qf i),.int (fl am low w' i)]);have s4:=s3.trans sT;have er4:=sT _ _ er;obtain⟨e1,b0,e2,bT,bB⟩:=hk i hi;refine⟨T2,_,rfl,SqT.of zB,rfl,_,_,rfl,_,_,rfl,rfl,?_⟩;refine⟨_,rfl,_,rfl,zAz,λp1 bY=>?_⟩;have s5:=zD bY (.tup [.int (fl am low w' i),.int 1]);have bf:Bt 450000 (fl am low w' i):=by have e0:fl am low w' i=T i / B i:=(dv i hi).1.symm;rw[e0];exact wHK (Int.natAbs_ediv_le_natAbs _ _) bT
  have o1:Bt 450000 (1:Int):=Bt.mono (j:=1) (show (1:Int).natAbs < 2 ^ 1 by decide) ⋯;refine⟨qf i,p1,T i,B i,fl am low w' i,1,rfl,SqT.of (s5 _ _ (s4 _ _ (s2 _ _ e1))),SqT.of zB,⟨bT.mono ⋯,bB.mono ⋯,bf.mono ⋯,o1.mono ⋯⟩,by omega,λp2 x y eC l2=>?_⟩;have er5:=s5 _ _ er4;have aX:rt≠p2:=zN er5 eC;refine⟨_,by rw[zO aX];exact er5,by rw[zW];exact zAL ∅,_,_,λk=>if k=i then p2 else qr k,λk=>if k=i then x else R k,λk=>if k=i then y else S k,rfl,zY ((s4.trans s5).trans (zD eC _)) jI _,?_,λk bI=>?_⟩
  ·rw[zB];refine congrArg (λl=>some (HO.lst l)) ?_;rw[← zAD]
   congr 1
   ·exact zA0 λk hk=>by show V.ref (qr k)=V.ref (if k=i then p2 else qr k);rw[wHj ∅]
   show [V.ref p2]=[V.ref (if i=i then p2 else qr i)];rw[wHl rfl]
  by_cases e:k=i
  ·subst e;simp only[↓reduceIte];refine⟨by rw[zO (Ne.symm aX)];exact zB,l2.pos,?_,?_,?_⟩
   ·have e3:=l2.eq;have e4:(T k-fl am low w' k*B k)*low=rm am low w' k*B k:=(dv k hi).2;refine zB2 b0 ?_
    grind
   ·exact Bt.mono (j:=450000+450000+1) (wHK l2.tb (Bt.sub (bT.mul o1) (bf.mul bB))) ⋯
   exact Bt.mono (j:=450000+450000) (wHK l2.bb (bB.mul o1)) ⋯
  simp only[wHj e];obtain⟨z1,z2⟩:=hq k ∅;refine⟨?_,z2⟩;rw[zO (zCC z1 er (by intro z;cases z))];exact zD eC _ _ _ (s5 _ _ (sT _ _ z1))
 rintro σ' H3 ⟨u,v,qr,R,S,rfl,s3,er,hq⟩;rw[zW] at er hq;have nW:=s3 _ _ zB;refine⟨_,rfl,p,_,rfl,.inl (SqL.of (s3 _ _ (aP _ _ fa.top))),n,by rw[zW],by omega,λdR hG=>?_⟩;have s4:=zD hG (.lst (tab n λi=>V.int (i:Nat)));have iS:H td=none:=s1.free dY;have H3rt:upd H1 td (.lst (tab n λj=>V.int (fl am low w' j))) rt=none:=jI;have ntr:td≠rt:=zN zB jI;have ntw:td≠dR:=zN nW hG;have nrw:rt≠dR:=zN er hG;have et4:=s4 _ _ nW;have nqr:∀k,k < n->qr k≠td/\qr k≠dR:=λk aY=>⟨zCC (hq k aY).1 nW (by intro z;cases z),zN (hq k aY).1 hG⟩;have lQ:=(aP.trans s3).trans s4;have Hwt:H dR=none:=(aP.trans s3).free hG;obtain⟨r0,r1⟩:=zKj (am:=am) (w:=w') l0 ∅ sw;refine⟨_,rfl,_,rfl,td,tab n (fl am low w'),rfl,SqL.of (by rw[zEs];exact et4),_,_,rfl,rfl,am-Sg (fl am low w') n,by rw[zHA],by omega,by omega,zA9 (n:=(am-Sg (fl am low w') n).toNat) (λi σ' H'=>∃(u v:Option V) (ns:List Int),σ'=[some (.int am),some (.ref p),some (.ref c),some (.ref td),some (.ref rt),some (.ref dR),u,v]/\zAh H H'/\FrAt H' rt qr n R S/\H' dR=some (.lst (ns.map V.int))/\ns.Pairwise (· < ·)/\(∀x∈ns,0<=x/\x < n)/\ns.length+i=n/\
   H' td=some (.lst (tab n λj=>V.int (fl am low w' j+if decide (¬(j:Int)∈ns)=true then 1 else 0)))/\(∀a b,a < n->b < n->(a:Int)∈ns->¬(b:Int)∈ns->Beh (rm am low w') a b)/\Sg (λj=>fl am low w' j+if decide (¬(j:Int)∈ns)=true then 1 else 0) n=Sg (fl am low w') n+i)
  ⟨_,_,tab n λi=>(i:Int),rfl,lQ,⟨s4 _ _ er,λk aY=>s4 _ _ (hq k aY).1⟩,by rw[zB,zEs],?_,?_,by rw[zW];rfl,?_,?_,?_⟩ ?_ ?_⟩
 ·rw[List.pairwise_iff_getElem];intro a b ha hb jX;rw[zW] at ha hb;have g:∀c (hc:c < (tab n λi=>(i:Int)).length),(tab n λi=>(i:Int))[c]=(c:Int):=λc hc=>by have:=zCK (f:=λi=>(i:Int)) (show c < n by rw[zW] at hc;exact hc);rw[wHg hc] at this;exact wHo this
  rw[g,g];omega
 ·intro x hx;obtain⟨i,hi,rfl⟩:=zGm.mp hx;omega
 ·rw[et4];refine congrArg (λl=>some (HO.lst l)) (zA0 λj hj=>?_);have:(j:Int)∈tab n λi=>(i:Int):=zGm.mpr ⟨j,hj,rfl⟩;simp[this]
 ·intro a b ha hb _ nb;exact absurd (zGm.mpr ⟨b,hb,rfl⟩) nb
 ·refine Eq.trans (zA7 λj hj=>?_) (Int.add_zero _).symm;have:(j:Int)∈tab n λi=>(i:Int):=zGm.mpr ⟨j,hj,rfl⟩;simp[this]
 ·rintro i σ' H' hi ⟨u,v,ns,rfl,sm,fr,ew,rise,bd,len,et,dF,sum⟩;have ne:ns≠[]:=by intro z;rw[z] at len;simp at len;omega
  refine⟨_,rfl,_,rfl,rt,dR,qr,n,R,S,rm am low w',low,ns,rfl,fr,l0,λk aY=>(hq k aY).2,ew,rise,bd,ne,λb bm bb=>?_⟩;have nd:ns.Nodup:=rise.imp λ{x y} h=>by omega
  have bn:b < n:=by have:=bd _ bm;omega
  refine⟨_,rfl,.inl ⟨rfl,_,SqL.of ew⟩,_,rfl,dR,ns,(b:Int),rfl,rfl,ew,bm,?_⟩;have et2:upd H' dR (.lst ((ns.erase (b:Int)).map V.int)) td=some (.lst (tab n λj=>V.int (fl am low w' j+if decide (¬(j:Int)∈ns)=true then 1 else 0))):=by rw[zO ntw];exact et
  refine⟨_,rfl,_,rfl,td,_,_,_,rfl,rfl,SqL.of et2,zAk bn,_,_,rfl,rfl,td,_,_,_,rfl,rfl,et2,zBp bn,?_⟩;have me:∀j:Nat,(j:Int)∈ns.erase (b:Int)↔j≠b/\(j:Int)∈ns:=λj=>by
   rw[List.Nodup.mem_erase_iff nd];constructor
   ·rintro⟨h1,h2⟩;exact⟨λz=>h1 (by rw[z]),h2⟩
   rintro⟨h1,h2⟩;exact⟨λz=>h1 ∅,h2⟩
  have upf:∀j:Nat,(fl am low w' j+if decide (¬(j:Int)∈ns.erase (b:Int))=true then 1 else 0)=if j=b then (fl am low w' j+if decide (¬(j:Int)∈ns)=true then 1 else 0)+1 else (fl am low w' j+if decide (¬(j:Int)∈ns)=true then 1 else 0):=λj=>by
   by_cases e:j=b
   ·subst e;have:¬(j:Int)∈ns.erase (j:Int):=λz=>((me j).mp z).1 rfl;simp[this,bm]
   have:(j:Int)∈ns.erase (b:Int)↔(j:Int)∈ns:=by rw[me j];exact⟨λz=>z.2,λz=>⟨e,z⟩⟩
   simp[this,e]
  refine⟨_,_,ns.erase (b:Int),rfl,zY (zY sm Hwt _) iS _,⟨?_,λk aY=>?_⟩,?_,rise.sublist (List.erase_sublist ..),λx hx=>bd x (List.mem_of_mem_erase hx),?_,?_,?_,?_⟩
  ·rw[zO (Ne.symm ntr),zO nrw];exact fr.top
  ·rw[zO (nqr k aY).1,zO (nqr k aY).2];exact fr.row k aY
  ·rw[zO (Ne.symm ntw),zB]
  ·have:=List.length_erase_of_mem bm;have:0 < ns.length:=List.length_pos_of_mem bm;omega
  ·rw[zB,zCq];refine congrArg (λl=>some (HO.lst l)) (zA0 λj _=>?_);rw[upf j];by_cases e:j=b
   ·subst e;rw[wHl rfl,wHl rfl]
   rw[wHj e,wHj e]
  ·intro x y hx hy mx my;obtain⟨x1,x2⟩:=(me x).mp mx;by_cases e:y=b
   ·subst e;exact bb x x2
   exact dF x y hx hy x2 λz=>my ((me y).mpr ⟨e,z⟩)
  rw[zA7 (λj _=>upf j),zNz bn,sum];show _+(i:Int)+1=_+((i+1:Nat):Int);omega
 rintro σ' H' ⟨u,v,ns,rfl,sm,fr,ew,rise,bd,len,et,dF,sum⟩;refine⟨_,rfl,kk td (λj=>decide (¬(j:Int)∈ns)) H' iS sm et (λi j hi hj ti tj=>dF i j hi hj ?_ (wHw tj)) ?_⟩
 ·exact wHW λz=>ti (wHM z)
 rw[sum];omega
def zPa (n:Nat) (am:Int) (U W c:Nat->Int):Prop:=∃(low:Int) (w:Nat->Int) (tk:Nat->Bool),0 < low/\(∀i,i < n->U i*low=w i*W i)/\(∀i,i < n->c i=fl am low w i+if tk i=true then 1 else 0)/\(∀i j,i < n->j < n->¬tk i=true->tk j=true->Beh (rm am low w) i j)/\Sg c n=am
def zMJ {am low aK:Int} {w w' U W:Nat->Int} {i:Nat} (l0:0 < low) (l1:0 < aK) (W0:0 < W i) (e:U i*low=w i*W i) (e':U i*aK=w' i*W i):fl am low w i=fl am aK w' i/\rm am low w i*aK=rm am aK w' i*low:=by
 have d1:=zGs (T:=am*U i) (B:=W i) (v:=am*w i) (low:=low) W0 l0 (by grind);have d2:=zGs (T:=am*U i) (B:=W i) (v:=am*w' i) (low:=aK) W0 l1 (by grind);have f1:fl am low w i=am*w i / low:=rfl;have f2:fl am aK w' i=am*w' i / aK:=rfl;have r1:rm am low w i=am*w i%low:=rfl;have r2:rm am aK w' i=am*w' i%aK:=rfl;have ef:fl am low w i=fl am aK w' i:=by rw[f1,f2,← d1.1,← d2.1]
 refine⟨ef,?_⟩;have a1:=d1.2;have a2:=d2.2;rw[← f1,← r1] at a1;rw[← f2,← r2,← ef] at a2;generalize rm am low w i=r at *;generalize rm am aK w' i=r' at *;generalize fl am low w i=f at *;refine zB2 (c:=W i) W0 ?_
 grind
def zL2 {r r':Nat->Int} {low aK:Int} {i j:Nat} (l0:0 < low) (l1:0 < aK) (ei:r i*aK=r' i*low) (ej:r j*aK=r' j*low) (h:Beh r i j):Beh r' i j:=by
 rcases h with h | ⟨h,h2⟩
 ·left
  have h1:0 < aK*(r j-r i):=wIv l1 ∅;have h2:0 < low*(r' j-r' i):=by
   have:low*(r' j-r' i)=aK*(r j-r i):=by grind
   rw[this];exact h1
  have:=zCZ l0 h2;omega
 right
 refine⟨zB2 (c:=low) l0 ?_,h2⟩
 grind
theorem zG3 {a b:Nat->Int}:∀n,(∀k,k < n->a k<=b k)->Sg a n<=Sg b n/\∀i,i < n->a i < b i->Sg a n < Sg b n
 | 0,_=>⟨wIi _,λi hi=>absurd hi (wHA _)⟩
 | n+1,h=>by
  obtain⟨h1,h2⟩:=zG3 n λk hk=>h k ∅;have h3:=h n ∅;refine⟨by show Sg a n+a n<=Sg b n+b n;omega,λi hi hl=>?_⟩;show Sg a n+a n < Sg b n+b n;by_cases e:i=n
  ·subst e;omega
  have:=h2 i ∅ hl;omega
def zOO {n:Nat} {am:Int} {U W c c':Nat->Int} (W0:∀i,i < n->0 < W i) (h:zPa n am U W c) (h':zPa n am U W c'):∀i,i < n->c i=c' i:=by
 obtain⟨low,w,tk,l0,e,ec,bh,s⟩:=h;obtain⟨aK,w',bJ,l1,e',gF,bh',s'⟩:=h';have sc:=λi (hi:i < n)=>zMJ (am:=am) l0 l1 (W0 i hi) (e i hi) (e' i hi);have key:∀i j,i < n->j < n->tk i=true->¬bJ i=true->¬tk j=true->bJ j=true->False:=λi j hi hj a1 a2 a3 a4=>by
  have b1:=zL2 l0 l1 (sc j hj).2 (sc i hi).2 (bh j i hj hi a3 a1);have b2:=bh' i j hi hj a2 a4;unfold Beh at b1 b2;have:i=j:=by omega
  subst this;exact a3 a1
 intro i hi;by_cases c1:tk i=true
 ·by_cases c2:bJ i=true
  ·rw[ec i hi,gF i hi,(sc i hi).1,wHl c1,wHl c2]
  exfalso
  have:=(zG3 n (a:=c') (b:=c) λk hk=>?_).2 i hi ?_
  ·omega
  ·rw[ec k hk,gF k hk,(sc k hk).1];by_cases d1:bJ k=true
   ·by_cases d2:tk k=true
    ·rw[wHl d1,wHl d2];omega
    exact (key i k hi hk c1 c2 d2 d1).elim
   rw[wHj d1];split<;>omega
  rw[ec i hi,gF i hi,(sc i hi).1,wHl c1,wHj c2];omega
 by_cases c2:bJ i=true
 ·exfalso
  have:=(zG3 n (a:=c) (b:=c') λk hk=>?_).2 i hi ?_
  ·omega
  ·rw[ec k hk,gF k hk,(sc k hk).1];by_cases d1:tk k=true
   ·by_cases d2:bJ k=true
    ·rw[wHl d1,wHl d2];omega
    exact (key k i hk hi d1 d2 c1 c2).elim
   rw[wHj d1];split<;>omega
  rw[ec i hi,gF i hi,(sc i hi).1,wHj c1,wHl c2];omega
 rw[ec i hi,gF i hi,(sc i hi).1,wHj c1,wHj c2]
def zL4 (n:Nat) (U W:Nat->Int):Prop:=∀(low:Int) (w:Nat->Int),(∀i,i < n->w i*W i=U i*low)->Sg w n=low
def zLk {n:Nat} {U W:Nat->Int} (fo:FrOk n U W):∃(low:Int) (w:Nat->Int),0 < low/\∀i,i < n->U i*low=w i*W i/\0<=w i:=by
 obtain⟨P,p0,hP⟩:=zG2 n fo.pos;have hR:∀i,∃R,i < n->W i*R=P:=λi=>by
  by_cases c:i < n
  ·obtain⟨R,e⟩:=hP i c;exact⟨R,λ_=>e.symm⟩
  exact⟨0,λz=>absurd z c⟩
 obtain⟨R,hR⟩:=Classical.axiomOfChoice hR;refine⟨P,λi=>U i*R i,p0,λi hi=>⟨?_,?_⟩⟩
 ·show U i*P=U i*R i*W i;rw[← hR i hi];grind
 have r0:0 < R i:=zCZ (fo.pos i hi) (by rw[hR i hi];exact p0);exact zCG (fo.nn i hi) (wIn r0)
def zQs {am:Int} (h0:1<=am) (h1:am<=10 ^ 12):Bt 45 am:=by
 have e:(2:Nat) ^ 45=35184372088832:=by nofun
 unfold Bt;omega
def zPu {n:Nat} {ws:Wys} {s0:Nat} {U W:Nat->Int} (wo:WyOk n ws) (sn:s0 < n) (sh:zQ4 n ws s0 U W):zL4 n U W:=by obtain⟨X,Y,fo,fg,key,fO⟩:=sh;exact λlow w tp=>zF4 wo sn fo.pos fg.pos (λx l h=>(key x l).mp h) fO tp
inductive sp_Book_coins (K:W.Frag) (t:Adr) (vs:List V) (H:Hp) (Q:VK) (E:XK):Prop
 | mk (b tl:Addr) (ds:List Deed) (h:Str) (d am:Int):vs=[.ref b,.str h,.int d,.int am]->(zAC H t.wAc b tl ds/\ds.length<=900/\zG4 h/\(zI ds).length<=15/\PsOk (zI ds) (zU ds)/\(zU ds).length<=800/\
 (h∉zI ds->∀H',zAh H H'->E (.ref t.wAf) none H')/\
 (h∈zI ds->(0<=d/\d<=5000->WyOk (zI ds).length (zBq (zI ds) (zU ds) d)/\zN0 (zI ds).length (zBq (zI ds) (zU ds) d))/\(¬((0<=d/\d<=5000)/\1<=am/\am<=10 ^ 12)->∀H',zAh H H'->E (.ref t.wAe) none H'))/\
 (h∈zI ds->0<=d/\d<=5000->1<=am/\am<=10 ^ 12->
  ∀(l:Addr) (U W c:Nat->Int) (H':Hp),H l=none->zAh H H'->H' l=some (.lst (tab (zI ds).length λi=>V.int (c i)))->zQ4 (zI ds).length (zBq (zI ds) (zU ds) d) ((zI ds).idxOf h) U W->zPa (zI ds).length am U W c->Q (.ref l) H'))->sp_Book_coins K t vs H Q E
def zGk (T:Txt P K mg t):FnOk P w K mg base (CXx P w) 46 t.wBe t.wBf ["self","house","day","amount"] (sp_Book_coins K t):=by
 refine T.wEN.okX zDd ⟨⟩ ();obtain⟨b,tl,ds,h,d,am,rfl,hB,hz,sn,aI,ok,p8,qu,qr,q⟩:=h;refine⟨_,(zC (zAF 4 zDd.nd (zCl (pv 0) T.wAi T.wB9 ((zCF T).mono ⋯) hr T.wB8 .nil zBU (zQ (pv 1) (pv 2) zE zA zA)))
  (zC (zAm (zAR ((zEK T).mono ⋯) hr rfl T.wDR T.wBE.kp T.wDQ .nil zBU (zG (pv 3) zE zA)))
  (zF (zT (zAR ((zMt T).mono ⋯) hr rfl T.wEd T.wFj.kp T.wGz .nil zCT (zQ (pv 3) (pv 4) zE zA zA)))))),?_⟩
 obtain⟨dx,qs,hb,ht,hq,hd⟩:=id hB;refine⟨_,rfl,b,dx,_,rfl,hb,rfl,_,rfl,_,rfl,b,tl,ds,h,d,rfl,hB,hz,sn,aI,ok,p8,qu,λhm nd=>(qr hm).2 (λz=>nd z.1),λhm jV=>⟨((qr hm).1 jV).1,((qr hm).1 jV).2,λl q' U W H1 hl s1 fa sh=>?_⟩⟩;have wo:=((qr hm).1 jV).1;have dW:=List.idxOf_lt_length_iff.mpr hm;refine⟨_,rfl,am,rfl,λha=>?_,λc=>(qr hm).2 (λz=>c z.2) H1 s1⟩;have fo:FrOk (zI ds).length U W:=let ⟨_,_,_,fg,_,_⟩:=sh;fg;obtain⟨low,w',l0,hw⟩:=zLk fo;have so:=zPu wo dW sh;have ba:Bt 45 am:=zQs ha.1 ha.2;refine⟨_,rfl,_,rfl,am,low,l,q',(zI ds).length,U,W,w',rfl,fa,λi hi=>⟨⟨fo.pos i hi,(hw i hi).1⟩,(hw i hi).2,fo.bx i hi,fo.by_ i hi⟩,l0,so low w' (λi hi=>(hw i hi).1.symm),ha.1,ba,by omega,aI,λdl tk H2 ff s2 e2 dF sum=>?_⟩;exact q hm jV ha dl U W _ H2 (s1.free ff) (s1.trans s2) e2 sh ⟨low,w',tk,l0,λi hi=>(hw i hi).1,λi hi=>rfl,dF,sum⟩
inductive sp_call (K:W.Frag) (t:Adr) (vs:List V) (H:Hp) (Q:VK) (E:XK):Prop
 | mk (b tl rw:Addr) (ds:List Deed) (x:V) (g u:Str) (p f l:Int):vs=[.ref b,.ref rw]->(zAC H t.wAc b tl ds/\H rw=some (.lst [x,.str g,.str u,.int p,.int f,.int l])/\sp_Book_pact K t [.ref b,.str g,.str u,.int p,.int f,.int l] H Q E)->sp_call K t vs H Q E
def zOy (T:Txt P K mg t):FnOk P w K mg base (CXx P w) 46 t.wEo t.wEp ["_law_book","_law_row_here"] (sp_call K t):=by refine T.wFV.okX zNX ⟨⟩ ();obtain⟨b,tl,rw,ds,x,g,u,p,f,l,rfl,hB,er,sp⟩:=h;refine⟨_,(zF (zT (zCl (pv 0) T.wAi T.wFa ((zGW T).mono ⋯) hr T.wE9 .nil zBU (zQ (zAA K (pv 1) zH) (zAA K (pv 1) zH) (zAe (zAA K (pv 1) zH) (zAA K (pv 1) zH) (zAA K (pv 1) zH) zE zK zK zK) zK zK)))),?_⟩;obtain⟨dx,qs,hb,ht,hq,hd⟩:=id hB;have Sr:=SqL.of (K:=K) er;refine⟨_,rfl,b,dx,_,rfl,hb,rfl,_,rfl,rw,_,1,_,rfl,rfl,Sr,rfl,_,rfl,rw,_,2,_,rfl,rfl,Sr,rfl,_,rfl,rw,_,3,_,rfl,rfl,Sr,rfl,_,rfl,rw,_,4,_,rfl,rfl,Sr,rfl,_,rfl,rw,_,5,_,rfl,rfl,Sr,rfl,?_⟩;exact sp
structure ExW (K:W.Frag) (t:Adr) (C:Addr) (w:Nat):Prop where
 xk:ExcX K C
 fc:W.exmOne K (.ref C) (.ref t.wAv)=some true
 fv:W.kitOne K (.ref C) (.type "ValueError")=some true
 f0:W.kitOne K (.ref C) (.ref t.wAo)=some (decide (w=0))
 f1:W.kitOne K (.ref C) (.ref t.wAk)=some (decide (w=1))
 f2:W.kitOne K (.ref C) (.ref t.wAf)=some (decide (w=2))
 f3:W.kitOne K (.ref C) (.ref t.wAn)=some (decide (w=3))
 f4:W.kitOne K (.ref C) (.ref t.wAj)=some (decide (w=4))
 f5:W.kitOne K (.ref C) (.ref t.wAe)=some (decide (w=5))
 f6:W.kitOne K (.ref C) (.ref t.wAd)=some (decide (w=6))
 f7:W.kitOne K (.ref C) (.ref t.wAa)=some (decide (w=7))
 f8:W.kitOne K (.ref C) (.ref t.wAw)=some (decide (w=8))
 f9:W.kitOne K (.ref C) (.ref t.wAp)=some (decide (w=9))
 f10:W.kitOne K (.ref C) (.ref t.wAP)=some (decide (w=10))
noncomputable def wds:List Str:=[Str.ofString "bad name",Str.ofString "known house",Str.ofString "unknown house",Str.ofString "to itself",Str.ofString "days turned",Str.ofString "out of range",Str.ofString "too much",Str.ofString "shut in",Str.ofString "full",Str.ofString "nothing done",Str.ofString "unclear"]
noncomputable def zBw (w:Nat):Str:=wds.getD w Str.empty
def zGp (w:Nat):List V:=[.bl (decide (w=0)),.bl (decide (w=1)),.bl (decide (w=2)),.bl (decide (w=3)),.bl (decide (w=4)),.bl (decide (w=5)),.bl (decide (w=6)),.bl (decide (w=7)),.bl (decide (w=8)),.bl (decide (w=9)),.bl (decide (w=10))]
theorem zOE {w i:Nat} (h:i < 11):atI (zGp w) (0+(i:Int))=some (.bl (decide (w=i))):=by
 refine zAB ∅ ?_;rw[show (0+(i:Int)).toNat=i by omega];rcases i with _ | _ | _ | _ | _ | _ | _ | _ | _ | _ | _ | i
 all_goals first | rfl | omega
def zPd {i:Nat} (h:i < 11):atI (wds.map V.str) (0+(i:Int))=some (.str (zBw i)):=by
 refine zAB ∅ ?_;rw[show (0+(i:Int)).toNat=i by omega,wHn];unfold zBw;rw[wHh,wHg (show i < wds.length from h)]
 rfl
def zN9 {i:Nat} (h:i < 11):(zBw i).length<=1000:=by
 have all:∀i:Fin 11,(zBw i).length<=1000:=by nofun
 exact all ⟨i,h⟩
def zNJ (K:W.Frag) (t:Adr):Addr->Sp:=λe vs H Q _=>∃(C:Addr) (w:Nat) (dd:Option Addr),vs=[.ref e]/\H e=some (zFL e (.ref C) dd)/\zDz H dd/\ExW K t C w/\w < 11/\∀H',zAh H H'->Q (.str (zBw w)) H'
def zK7 (T:Txt P K mg t):FnOkH P w K mg base 40 t.wEm t.wEn ["_law_e"] (zNJ K t):=by
 refine T.wES.okH zBY (λe vs H Q E h=>?_) (λcdv he A outer s H vs Q E hr h=>?_)
 ·obtain⟨C,w,dd,rfl,_⟩:=h
  rfl
 obtain⟨C,w,dd,rfl,hx,hD,W,hw,q⟩:=h;refine⟨_,(zC (zBe (i:=1) zBY.nd rfl (Or.inr rfl) (zAo (zAe (zR zAZ rfl T.wAb wHt (zQ (pv 0) (zA2 (v:=.ref t.wAo) rfl T.wD3 rfl) zE zA zA)) (zR zAZ rfl T.wAb wHt (zQ (pv 0) (zA2 (v:=.ref t.wAk) rfl T.wCw rfl) zE zA zA)) (zR zAZ rfl T.wAb wHt (zQ (pv 0) (zA2 (v:=.ref t.wAf) rfl T.wBH rfl) zE zA zA)) zE zS zS zS)))
  (zC (zBe (i:=1) zBY.nd rfl (Or.inr rfl) (zV zDk (pv 1) (zAo (zAe (zR zAZ rfl T.wAb wHt (zQ (pv 0) (zA2 (v:=.ref t.wAn) rfl T.wDp rfl) zE zA zA)) (zR zAZ rfl T.wAb wHt (zQ (pv 0) (zA2 (v:=.ref t.wAj) rfl T.wCx rfl) zE zA zA)) (zR zAZ rfl T.wAb wHt (zQ (pv 0) (zA2 (v:=.ref t.wAe) rfl T.wCy rfl) zE zA zA)) zE zS zS zS))))
  (zC (zBe (i:=1) zBY.nd rfl (Or.inr rfl) (zV zDk (pv 1) (zAo (zAe (zR zAZ rfl T.wAb wHt (zQ (pv 0) (zA2 (v:=.ref t.wAd) rfl T.wD4 rfl) zE zA zA)) (zR zAZ rfl T.wAb wHt (zQ (pv 0) (zA2 (v:=.ref t.wAa) rfl T.wC6 rfl) zE zA zA)) (zR zAZ rfl T.wAb wHt (zQ (pv 0) (zA2 (v:=.ref t.wAw) rfl T.wEV rfl) zE zA zA)) zE zS zS zS))))
  (zC (zBe (i:=1) zBY.nd rfl (Or.inr rfl) (zV zDk (pv 1) (zAo (zQ (zR zAZ rfl T.wAb wHt (zQ (pv 0) (zA2 (v:=.ref t.wAp) rfl T.wEb rfl) zE zA zA)) (zR zAZ rfl T.wAb wHt (zQ (pv 0) (zA2 (v:=.ref t.wAP) rfl T.wF4 rfl) zE zA zA)) zE zS zS))))
  (zC (zBe (i:=2) zBY.nd rfl (Or.inr rfl) (zAo (by with_reducible exact (zG zAK (zEH zE) zM))))
  (zC (zBe (i:=2) zBY.nd rfl (Or.inr rfl) (zV zDk (pv 2) (zAo (by with_reducible exact (zEH zE)))))
  (zC (zMd ["_law_k","_law_words","_law_flags"] [none,some 2,some 1] (by kernel_rfl) hr.hd (zKx (e:=he) rfl T.wAg (zG zH zE zM)) (λ_ _ _ _ _=>(zJ (i:=0) ndB rfl (Or.inl rfl))) (λ_ _ _ _ _=>(zC0 (zA1 (zAA K (pv 2) (pv 0))))) (λ_ _ _ _ _=>(zAA K (pv 1) (pv 0))) (zJ (i:=3) zBY.nd rfl (Or.inl rfl)))
  (zC (zAF 4 zBY.nd (zIB (zBL zCB (zR (zAd K) rfl T.wAh wHB (zG (pv 3) zE zA)) zH (zAg _)) (zI7 (zR zAZ rfl T.wAb wHt (zQ (pv 0) (zBC (v:=.ty "ValueError") rfl T.wE1 zGz rfl) zE zA zA)))))
  (zF (zT (zAA K (zAo (zG zAK (zG (zPH F.plainAttrs_str F.slot_str_join F.type_str_join (zM2 K) zAK (zG (pv 3) zE zA)) zE zS) zM)) (zDi zLy rfl T.wGr PyProof.Rows.boot_int (zG (pv 4) zE zA))))))))))))),?_⟩
 have nn:∀c:Addr,vcl (.ref c)≠Value.none:=λc z=>nomatch z
 refine⟨_,rfl,he,C,dd,_,_,rfl,hx,hD,W.xk,nn _,W.f0,_,rfl,he,C,dd,_,_,rfl,hx,hD,W.xk,nn _,W.f1,_,rfl,he,C,dd,_,_,rfl,hx,hD,W.xk,nn _,W.f2,szl,λl1 h1=>?_⟩;have s1:=zD h1 (.lst [V.bl (decide (w=0)),V.bl (decide (w=1)),V.bl (decide (w=2))]);have e1:upd H l1 (.lst [V.bl (decide (w=0)),V.bl (decide (w=1)),V.bl (decide (w=2))]) l1=_:=zB;have x1:=s1 _ _ hx;generalize upd H l1 (.lst [V.bl (decide (w=0)),V.bl (decide (w=1)),V.bl (decide (w=2))])=H1 at s1 e1 x1 ⊢;refine⟨_,rfl,_,rfl,he,C,dd,_,_,rfl,x1,hD.same s1,W.xk,nn _,W.f3,_,rfl,he,C,dd,_,_,rfl,x1,hD.same s1,W.xk,nn _,W.f4,_,rfl,he,C,dd,_,_,rfl,x1,hD.same s1,W.xk,nn _,W.f5,szl,λl2 h2=>?_⟩;have s2:=zD h2 (.lst [V.bl (decide (w=3)),V.bl (decide (w=4)),V.bl (decide (w=5))]);refine⟨l1,l2,_,_,rfl,rfl,s2 _ _ e1,zB,szl,λl3 h3=>?_⟩;have s3:=s1.trans (s2.trans (zD h3 (.lst [V.bl (decide (w=0)),V.bl (decide (w=1)),V.bl (decide (w=2)),V.bl (decide (w=3)),V.bl (decide (w=4)),V.bl (decide (w=5))])));have e3:upd (upd H1 l2 (.lst [V.bl (decide (w=3)),V.bl (decide (w=4)),V.bl (decide (w=5))])) l3 (.lst [V.bl (decide (w=0)),V.bl (decide (w=1)),V.bl (decide (w=2)),V.bl (decide (w=3)),V.bl (decide (w=4)),V.bl (decide (w=5))]) l3=_:=zB;have x3:=s3 _ _ hx;show zJN _ _ _ _ (upd (upd H1 l2 (.lst [V.bl (decide (w=3)),V.bl (decide (w=4)),V.bl (decide (w=5))])) l3 (.lst [V.bl (decide (w=0)),V.bl (decide (w=1)),V.bl (decide (w=2)),V.bl (decide (w=3)),V.bl (decide (w=4)),V.bl (decide (w=5))]));generalize upd (upd H1 l2 (.lst [V.bl (decide (w=3)),V.bl (decide (w=4)),V.bl (decide (w=5))])) l3 (.lst [V.bl (decide (w=0)),V.bl (decide (w=1)),V.bl (decide (w=2)),V.bl (decide (w=3)),V.bl (decide (w=4)),V.bl (decide (w=5))])=H3 at s3 e3 x3 ⊢;refine⟨_,rfl,_,rfl,he,C,dd,_,_,rfl,x3,hD.same s3,W.xk,nn _,W.f6,_,rfl,he,C,dd,_,_,rfl,x3,hD.same s3,W.xk,nn _,W.f7,_,rfl,he,C,dd,_,_,rfl,x3,hD.same s3,W.xk,nn _,W.f8,szl,λl4 h4=>?_⟩;have s4:=zD h4 (.lst [V.bl (decide (w=6)),V.bl (decide (w=7)),V.bl (decide (w=8))]);refine⟨l3,l4,_,_,rfl,rfl,s4 _ _ e3,zB,szl,λl5 h5=>?_⟩;obtain⟨H5,hH5,s5,e5⟩:∃H5,H5=upd (upd H3 l4 (.lst [V.bl (decide (w=6)),V.bl (decide (w=7)),V.bl (decide (w=8))])) l5 (.lst ([V.bl (decide (w=0)),V.bl (decide (w=1)),V.bl (decide (w=2)),V.bl (decide (w=3)),V.bl (decide (w=4)),V.bl (decide (w=5))]++[V.bl (decide (w=6)),V.bl (decide (w=7)),V.bl (decide (w=8))]))/\zAh H H5/\H5 l5=some (.lst ([V.bl (decide (w=0)),V.bl (decide (w=1)),V.bl (decide (w=2)),V.bl (decide (w=3)),V.bl (decide (w=4)),V.bl (decide (w=5))]++[V.bl (decide (w=6)),V.bl (decide (w=7)),V.bl (decide (w=8))])):=⟨_,rfl,s3.trans (s4.trans (zD h5 _)),zB⟩;have x5:=s5 _ _ hx;show zJN _ _ _ _ (upd (upd H3 l4 _) l5 _);rw[← hH5];clear hH5;refine⟨_,rfl,_,rfl,he,C,dd,_,_,rfl,x5,hD.same s5,W.xk,nn _,W.f9,_,rfl,he,C,dd,_,_,rfl,x5,hD.same s5,W.xk,nn _,W.f10,zAz,λl6 h6=>?_⟩;have s6:=zD h6 (.lst [V.bl (decide (w=9)),V.bl (decide (w=10))]);refine⟨l5,l6,_,_,rfl,rfl,s6 _ _ e5,zB,szl,λfl h7=>?_⟩;obtain⟨H7,hH7,s7,e7⟩:∃H7,H7=upd (upd H5 l6 (.lst [V.bl (decide (w=9)),V.bl (decide (w=10))])) fl (.lst (zGp w))/\zAh H H7/\H7 fl=some (.lst (zGp w)):=⟨_,rfl,s5.trans (s6.trans (zD h7 _)),zB⟩;show zJN _ _ _ _ (upd (upd H5 l6 _) fl (.lst (zGp w)));rw[← hH7];clear hH7;refine⟨szl,λl8 h8=>?_⟩;refine⟨_,rfl,szl,λl9 h9=>?_⟩;have s8:=zD h8 (.lst [V.str "bad name",V.str "known house",V.str "unknown house",V.str "to itself",V.str "days turned",V.str "out of range"]);have s9:=zD h9 (.lst [V.str "too much",V.str "shut in",V.str "full",V.str "nothing done",V.str "unclear"]);refine⟨l8,l9,_,_,rfl,rfl,s9 _ _ zB,zB,szl,λwl h10=>?_⟩;have sA:=s8.trans (s9.trans (zD h10 (.lst (wds.map V.str))));have eW:upd (upd (upd H7 l8 (.lst [V.str "bad name",V.str "known house",V.str "unknown house",V.str "to itself",V.str "days turned",V.str "out of range"])) l9 (.lst [V.str "too much",V.str "shut in",V.str "full",V.str "nothing done",V.str "unclear"])) wl (.lst (wds.map V.str)) wl=_:=zB;have eF:=sA _ _ e7;have sB:=s7.trans sA;show zJN _ _ _ _ (upd (upd (upd H7 l8 _) l9 _) wl (.lst (wds.map V.str)));generalize upd (upd (upd H7 l8 (.lst [V.str "bad name",V.str "known house",V.str "unknown house",V.str "to itself",V.str "days turned",V.str "out of range"])) l9 (.lst [V.str "too much",V.str "shut in",V.str "full",V.str "nothing done",V.str "unclear"])) wl (.lst (wds.map V.str))=HB at eW eF sB ⊢;have xB:=sB _ _ hx;refine⟨11,rfl,by decide,by decide,λfo hfo=>?_⟩;have sC:∀o,zAh HB (upd HB fo o):=λo=>zD hfo o;refine zIo (λi σ' H'=>∃(v:Option V),σ'=[v,some (.ref wl),some (.ref fl)]/\H'=upd HB fo (.lst ((if w < i then [zBw w] else []).map V.str))) ⟨none,rfl,rfl⟩ ?_ ?_ ?_
 ·rintro σ' H' ⟨v,rfl,rfl⟩;exact⟨_,_,sC _ _ _ xB⟩
 ·rintro i σ' H' hi ⟨v,rfl,rfl⟩;have aD:i < 11:=hi;refine⟨_,rfl,_,rfl,fl,_,_,_,rfl,rfl,SqL.of (sC _ _ _ eF),zOE aD,_,rfl,?_⟩;refine zCH (λc=>?_) (λc=>?_)
  ·have c':w=i:=wHw c;refine⟨_,rfl,_,rfl,wl,_,_,_,rfl,rfl,SqL.of (sC _ _ _ eW),zPd aD,_,zB,?_,_,rfl,?_⟩
   ·rw[wHf];exact zAj (by split<;>simp)
   rw[zBi,wHj (show ¬w < i by omega),wHl (show w < i+1 by omega),c']
   rfl
  have c':¬w=i:=wHT (wIB c);refine⟨_,rfl,?_⟩;by_cases d:w < i
  ·rw[wHl d,wHl (show w < i+1 by omega)]
  rw[wHj d,wHj (show ¬w < i+1 by omega)]
 rintro σ' H' ⟨v,rfl,rfl⟩;rw[wHl (show w < (11:Int).toNat from hw)];have eo:upd HB fo (.lst ([zBw w].map V.str)) fo=some (.lst ([zBw w].map V.str)):=zB;have xC:=sC (.lst ([zBw w].map V.str)) _ _ xB;have sD:=sB.trans (sC (.lst ([zBw w].map V.str)));generalize upd HB fo (.lst ([zBw w].map V.str))=HD at eo xC sD ⊢;refine⟨_,rfl,fo,_,rfl,.inl (SqL.of eo),rfl,_,rfl,zG5 ?_⟩;refine⟨_,rfl,he,C,dd,_,_,rfl,xC,hD.same sD,W.xk,(λz=>nomatch z),W.fv,?_⟩;refine⟨rfl,_,rfl,_,fo,[zBw w],rfl,rfl,SqL.of eo,?_,zAz,λl10 mX=>?_⟩
 ·have:=zN9 hw;show (zBw w).length+0+1*_<=_;have:(Str.ofString "").length=0:=rfl;omega
 have sE:=zD mX (.lst [V.str "odd",V.str (zBw w)]);exact⟨_,rfl,.inr ⟨_,rfl,l10,_,1,_,rfl,rfl,SqL.of zB,rfl,q _ (sD.trans sE)⟩⟩
def zMW (K:W.Frag) (t:Adr) (spc:Sp):Sp:=λvs H Q _=>vs.length=2/\∀(H0:Hp) (Q':VK) (E':XK),zAh H H0->
 (∀v H',(∀l,H' l=none->Q (.ref l) (upd H' l (.lst [.str "answer",v])))->Q' v H')->
 (∀cls dd H',(∃(C:Addr) (k:Nat),cls=.ref C/\ExW K t C k/\W.exmOne K (.ref C) (.ref t.wAa)=some false/\k < 11/\zDz H' dd/\∀l H2,zAh H' H2->H' l=none->H2 l=some (.lst [.str "refused",.str (zBw k)])->Q (.ref l) H2)->E' cls dd H')->
 (∀dx p d H',H' dx=some (.xd [("names",.ref p),("day",.int d)])->(∀l H2,zAh H' H2->H' l=none->H2 l=some (.lst [.str "refused",.str "shut in",.int d,.ref p])->Q (.ref l) H2)->E' (.ref t.wAa) (some dx) H')->spc vs H0 Q' E'
def zPf {vs:List V} (h:vs.length=2):∃x y,vs=[x,y]:=by
 match vs,h with
 | [x,y],_=>exact⟨x,y,rfl⟩
def zPT (T:Txt P K mg t):FnOk P w K mg base CX0 47 t.wFs t.wFt ["_law_book","_law_row_here"] (zMW K t (sp_call K t)):=by
 refine T.wGp.ok zF8 (λvs H Q E h=>?_) ()
 ·exact h.1
 obtain⟨hl,hc⟩:=h;obtain⟨x,y,rfl⟩:=zPf hl;refine⟨_,(zC (zAF 2 zF8.nd (zAo (zG zAK (zG zI8 zE zM) zM)))
  (zC (zOj (i:=3) zF8.nd rfl rfl rfl T.wC6 rfl T.wCQ (zMc (zOi (i:=2) zF8.nd rfl (Or.inl rfl) (zOl (zIC (zPC zAK) (zIC (zMf ((zOy T).mono ⋯) hr rfl T.wGR T.wFV.kp T.wGQ .nil (zQ (pv 0) (pv 1) zE zA zA)) zOn zS) zM)))) (λhe=>(zF (zAF 2 zF8.nd (zAo (zG zAK (zAe (zIA ((zK7 T).mono ⋯) (RoomH.of hr) rfl T.wFU T.wES.kp T.wFT (zG (pv 3) zE zA)) (zK0 (pv 3) rfl) (zK0 (pv 3) rfl) zE zS zCE zCE) zM))))) (λhe=>(zF (zAF 2 zF8.nd (zAo (zG zAK (zG (zIA ((zK7 T).mono ⋯) (RoomH.of hr) rfl T.wFU T.wES.kp T.wFT (zG (pv 3) zE zA)) zE zS) zM))))))
  (zF (zT (pv 2))))),?_⟩
 refine⟨zAz,λl0 h0=>?_⟩;refine⟨_,rfl,_,rfl,?_⟩;dsimp only [zLH];refine hc _ _ _ (zD h0 _) (λv H' hq=>?_) (λcls dd H' hx=>?_) λdx p d H' hd hq=>?_
 ·exact⟨zAz,λp hp=>⟨_,rfl,hq p hp⟩⟩
 ·obtain⟨C,k,rfl,W,ns,hk,hD,q⟩:=hx;refine .inr ⟨ns,W.fc,λe he=>?_⟩;have s1:=zD he (zFL e (.ref C) dd);refine⟨_,rfl,C,k,dd,rfl,zB,hD.same s1,W,hk,λH2 s2=>?_⟩;refine⟨zAz,λp hp=>⟨_,rfl,q p _ ((s1.trans s2).trans (zD hp _)) ((s1.trans s2).free hp) zB⟩⟩
 refine .inl ⟨T.wDq,λe he=>?_⟩;have s1:=zD he (zFL e (.ref t.wAa) (some dx));have W:ExW K t t.wAa 7:=⟨T.wC9,T.wCA,T.wCf,T.wDa,T.wCc,T.wBK,T.wCH,T.wCd,T.wCe,T.wDb,T.wDr,T.wEc,T.wB4,T.wDc⟩;have e1:upd H' e (zFL e (.ref t.wAa) (some dx)) e=some (zFL e (.ref t.wAa) (some dx)):=zB;refine⟨_,rfl,t.wAa,7,some dx,rfl,e1,λdx' z=>⟨_,by cases z;exact s1 _ _ hd⟩,W,by decide,λH2 s2=>?_⟩;have s3:=s1.trans s2;have e2:=s2 _ _ e1;have d2:=s3 _ _ hd;refine⟨_,rfl,e,t.wAa,dx,_,.int d,rfl,e2,d2,T.wC9,T.wAJ.hd,T.wAJ.no,rfl,?_⟩;refine⟨_,rfl,e,t.wAa,dx,_,.ref p,rfl,e2,d2,T.wC9,T.wAJ.hd,T.wBI.no,rfl,?_⟩;refine⟨szl,λl hl=>⟨_,rfl,hq l _ (s3.trans (zD hl _)) (s3.free hl) zB⟩⟩
def nws:List Str:=[Str.ofString "pact",Str.ofString "loss",Str.ofString "house",Str.ofString "back",Str.ofString "none",Str.ofString "deeds",Str.ofString "done",Str.ofString "shut",Str.ofString "change",Str.ofString "coins",Str.ofString "paper",Str.ofString "shares",Str.ofString "borne",Str.ofString "rounds",Str.ofString "refused"]
def nmL (d:Int) (k:Nat):List Nat:=
 if d%8=2 then (nws.getD k Str.empty).cps.toList
 else if d%8 < 2 then List.replicate (1+k%5) 113++[97+(17+k / 5)]
 else (List.replicate (d / 208%8).toNat (97+(d / 13312%26).toNat)).take (min (d / 1664%8) (d / 208%8)).toNat++[97+(((k:Int)*7+d / 8)%26).toNat]++(List.replicate (d / 208%8).toNat (97+(d / 13312%26).toNat)).drop (min (d / 1664%8) (d / 208%8)).toNat
def zQT:∀k:Fin 15,zJ9 (nws.getD k Str.empty):=by nofun
def zQU (d:Int) (h:0<=d) (k:Nat) (hk:k < 15):zJ9 (tx (nmL d k)):=by
 unfold nmL;by_cases c:d%8=2
 ·rw[wHl c,zIH];exact zQT ⟨k,hk⟩
 rw[wHj c];by_cases e:d%8 < 2
 ·rw[wHl e];refine⟨λx hx=>?_,?_⟩
  ·rw[zEr] at hx;rcases wIC hx with z | z
   ·rw[List.eq_of_mem_replicate z];omega
   rw[wIz z];omega
  rw[zCD,wHp,wIp,wH7];omega
 rw[wHj e];have b1:=zAW (x:=d / 208) (m:=8) (n:=8) ⋯ ⋯;have b2:=zAW (x:=d / 13312) (m:=26) (n:=26) ⋯ ⋯;have b3:=zAW (x:=(k:Int)*7+d / 8) (m:=26) (n:=26) ⋯ ⋯;refine⟨λx hx=>?_,?_⟩
 ·rw[zEr] at hx;rcases wIC hx with z | z
  ·rcases wIC z with z | z
   ·rw[List.eq_of_mem_replicate (List.mem_of_mem_take z)];omega
   rw[wIz z];omega
  rw[List.eq_of_mem_replicate (List.mem_of_mem_drop z)];omega
 rw[zCD,wHp,wHp,wH7,wHD,wIj,wIp];omega
def zPU:∀i j:Fin 15,nws.getD i Str.empty=nws.getD j Str.empty->i=j:=by nofun
def zPV (d:Int) {i j:Nat} (hi:i < 15) (hj:j < 15) (h:nmL d i=nmL d j):i=j:=by
 unfold nmL at h;by_cases c:d%8=2
 ·rw[wHl c,wHl c] at h;have:=zPU ⟨i,hi⟩ ⟨j,hj⟩ (by rw[← zIH (nws.getD i Str.empty),h,zIH]);exact Fin.mk.inj this
 rw[wHj c,wHj c] at h;by_cases e:d%8 < 2
 ·rw[wHl e,wHl e] at h;have l:=congrArg List.length h;rw[wHp,wHp,wIp,wIp,wH7,wH7] at l;have g:=congrArg List.getLast? h;rw[List.getLast?_append,List.getLast?_append] at g;simp at g;omega
 rw[wHj e,wHj e] at h;rw[wHU,wHU] at h;have h2:=List.append_cancel_left h;have h3:=(List.cons.inj h2).1;have b1:=zAW (x:=(i:Int)*7+d / 8) (m:=26) (n:=26) ⋯ ⋯;have b2:=zAW (x:=(j:Int)*7+d / 8) (m:=26) (n:=26) ⋯ ⋯;omega
def zKP {n:Int} (h0:0<=n) (h:n < 26):atI ((Str.ofString "abcdefghijklmnopqrstuvwxyz").cps.toList) n=some (97+n.toNat):=by
 have e:(Str.ofString "abcdefghijklmnopqrstuvwxyz").cps.toList=(List.range 26).map (97 + ·):=by nofun
 rw[e];exact zMS h0 (by rw[wHn,List.getElem?_range ∅];rfl)
def zKk (c r:Nat):(List.replicate r (⟨#[c]⟩:Str).cps.toList).flatten=List.replicate r c:=by
 rw[show (⟨#[c]⟩:Str).cps.toList=[c] from rfl]
 induction r with
 | zero=>rfl
 | succ r ih=>rw[wIc,wIt,ih,wIc];rfl
inductive sp_names (K:W.Frag) (vs:List V) (H:Hp) (Q:VK) (E:XK):Prop
 | mk (d:Int) (n:Nat):vs=[.int d,.int (n:Nat)]->(0<=d/\n<=15/\
 ∀l H' (ns:List Str),H l=none->zAh H H'->H' l=some (.lst (ns.map V.str))->ns.length=n->(∀x∈ns,zJ9 x)->ns.Nodup->Q (.ref l) H')->sp_names K vs H Q E
def zJr:∃(L1 L2:Expr) (c0:Nat) (p0 q0 r0 p1 q1 p2 q2 p3 q3:Pos),(∀X:Cx,PE X L1 (zPo (zA6 (tC (.str "pact")) (zA6 (tC (.str "loss")) (zA6 (tC (.str "house")) (zA6 (tC (.str "back")) (zA6 (tC (.str "none")) (zA6 (tC (.str "deeds")) (zA6 (tC (.str "done")) (zA6 (tC (.str "shut")) (zA6 (tC (.str "change")) (zA6 (tC (.str "coins")) zLH))))))))))))/\(∀X:Cx,PE X L2 (zPo (zA6 (tC (.str "paper")) (zA6 (tC (.str "shares")) (zA6 (tC (.str "borne")) (zA6 (tC (.str "rounds")) (zA6 (tC (.str "refused")) zLH)))))))/\(∀tg ln env,swapsWith L1 tg ln env=pure false)/\
  zBa zE8=.Assign [.Name "_law_letters" p0] (.Constant (.str "abcdefghijklmnopqrstuvwxyz") c0 q0) r0::.Assign [.Name "_law_words" p1] L1 q1::.Assign [.Name "_law_words" p2] (.BinOp (.Name "_law_words" p3) .Add L2 q3) q2::(zBa zE8).drop 3:=by
 refine⟨_,_,_,_,_,_,_,_,_,_,_,_,?_,?_,?_,rfl⟩
 ·intro X
  with_reducible exact zOm
 ·intro X
  with_reducible exact zPG
 intro tg ln env
 rfl
def zMp (T:Txt P K mg t):FnOk P w K mg base CX0 40 t.wDC t.wDD ["_law_draw","_law_count"] (sp_names K):=by
 refine T.wFl.ok zAU ⟨⟩ ();obtain⟨d,n,rfl,d0,aI,q⟩:=h;obtain⟨L1,L2,c0,p0',q0,r0,p1,q1,p2,q2,p3,q3,h1,h2,w1,eb⟩:=zJr;rw[eb];refine⟨_,(zC (zAF 2 zAU.nd zAK)
  (zC (zBe (i:=3) zAU.nd rfl (Or.inl rfl) (h1 _) (w1 _ _ _))
  (zC (zAF 3 zAU.nd (zV zDk (pv 3) (h2 _)))
  (zC (zAF 4 zAU.nd (zAo zE))
  (zC (zAr PassesOwn.never rfl (zAi rfl T.wAg (zG (pv 1) zE zA)) (zJ (i:=5) zAU.nd rfl (Or.inl rfl)) (zC (zAF 6 zAU.nd (zJj zKR (pv 2) (zV zAu (zV zBn (zV zDT (pv 5) zH) (zV zBM (pv 0) zH)) zH) (λ_ _=>rfl)))
  (zC (zAF 7 zAU.nd (zV zAu (zV zBM (pv 0) zH) zH))
  (zC (zAF 8 zAU.nd (zR (zHq rfl) rfl T.wGt PyProof.Rows.boot_min (zQ (zV zAu (zV zBM (pv 0) zH) zH) (pv 7) zE zX zA)))
  (zC (zAF 9 zAU.nd (zV zFC (zJj zKR (pv 2) (zV zAu (zV zBM (pv 0) zH) zH) (λ_ _=>rfl)) (pv 7)))
  (zC (zAF 10 zAU.nd (zV zDH (zV zDH (zDh zMX (pv 9) zED (zEC (pv 8))) (pv 6)) (zDh zMX (pv 9) (zEC (pv 8)) zED)))
  (zC (zNd (zAs (zAb zFr (zV zAu (pv 0) zH) zH (zAg _)) (zF (zAF 10 zAU.nd (zV zDH (zV zFC zAK (zV zBn zH (zV zAu (pv 5) zH))) (zJj zKR (pv 2) (zV zBn zH (zV zBM (pv 5) zH)) (λ_ _=>rfl))))) zZ))
  (zC (zNd (zAs (zAb zCB (zV zAu (pv 0) zH) zH (zAg _)) (zF (zAF 10 zAU.nd (zAA K (pv 3) (pv 5)))) zZ))
  (zF (zAm (zBz K wHV wH2 wH6 zA3 (pv 4) (zG (pv 10) zE zA))))))))))))
  (zF (zT (pv 4)))))))),?_⟩
 refine⟨szl,λl1 h1=>?_⟩;refine⟨_,rfl,szl,λl2 h2=>?_⟩;have s1:=zD h1 (.lst [V.str "pact",V.str "loss",V.str "house",V.str "back",V.str "none",V.str "deeds",V.str "done",V.str "shut",V.str "change",V.str "coins"]);have s2:=zD h2 (.lst [V.str "paper",V.str "shares",V.str "borne",V.str "rounds",V.str "refused"]);refine⟨l1,l2,_,_,rfl,rfl,s2 _ _ zB,zB,szl,λwl h3=>?_⟩;obtain⟨H3,hH3,s3,e3⟩:∃H3,H3=upd (upd (upd H l1 (.lst [V.str "pact",V.str "loss",V.str "house",V.str "back",V.str "none",V.str "deeds",V.str "done",V.str "shut",V.str "change",V.str "coins"])) l2 (.lst [V.str "paper",V.str "shares",V.str "borne",V.str "rounds",V.str "refused"])) wl (.lst (nws.map V.str))/\zAh H H3/\H3 wl=some (.lst (nws.map V.str)):=⟨_,rfl,s1.trans (s2.trans (zD h3 _)),zB⟩;show zJN _ _ _ _ (upd (upd (upd H l1 _) l2 _) wl (.lst (nws.map V.str)));rw[← hH3];clear hH3 s1 s2 h3;refine⟨szl,λml hm=>?_⟩;have s4:=zD hm (.lst []);have hm0:H ml=none:=s3.free hm;have wml:wl≠ml:=zN e3 hm;refine⟨_,rfl,(n:Nat),rfl,by omega,by omega,zA9 (n:=((n:Nat):Int).toNat) (λi σ' H'=>∃(x1 x2 x3 x4 x5 x6:Option V),σ'=[some (.int d),some (.int (n:Nat)),some (.str "abcdefghijklmnopqrstuvwxyz"),some (.ref wl),some (.ref ml),x1,x2,x3,x4,x5,x6]/\zAh H H'/\H' wl=some (.lst (nws.map V.str))/\H' ml=some (.lst (((List.range i).map λk=>tx (nmL d k)).map V.str)))
  ⟨none,none,none,none,none,none,rfl,s3.trans s4,s4 _ _ e3,zB⟩ ?_ ?_⟩
 ·rintro i σ' H' hi ⟨x1,x2,x3,x4,x5,x6,rfl,s',ew,em⟩;have aD:i < 15:=by omega
  have b1:=zAW (x:=d / 208) (m:=8) (n:=8) ⋯ ⋯;have b0:=zAW (x:=d / 1664) (m:=8) (n:=8) ⋯ ⋯;have b2:=zAW (x:=d / 13312) (m:=26) (n:=26) ⋯ ⋯;have b3:=zAW (x:=(0+(i:Int))*7+d / 8) (m:=26) (n:=26) ⋯ ⋯;refine⟨_,rfl,_,rfl,_,_,rfl,rfl,.inr ⟨by decide,by decide⟩,_,rfl,_,_,rfl,rfl,⟨by decide,by decide⟩,_,_,rfl,rfl,_,_,rfl,rfl,(by show (0:Int) < 26;decide),_,_,_,rfl,rfl,by nofun,zKP b3.1 ∅,?_⟩;refine⟨_,rfl,_,_,rfl,rfl,⟨by decide,by decide⟩,_,_,rfl,rfl,(by show (0:Int) < 8;decide),?_⟩;refine⟨_,rfl,_,_,rfl,rfl,⟨by decide,by decide⟩,_,_,rfl,rfl,(by show (0:Int) < 8;decide),_,rfl,_,_,rfl,?_⟩;have emin:(if d / 208%8 < d / 1664%8 then d / 208%8 else d / 1664%8)=min (d / 1664%8) (d / 208%8):=by
   by_cases z:d / 208%8 < d / 1664%8
   ·rw[wHl z];omega
   rw[wHj z];omega
  refine⟨_,rfl,_,rfl,_,_,rfl,rfl,⟨by decide,by decide⟩,_,_,rfl,rfl,(by show (0:Int) < 26;decide),_,_,_,rfl,rfl,by nofun,zKP b2.1 ∅,_,rfl,_,_,rfl,rfl,?_,?_,(show 1<=1000 by decide),?_⟩
  ·show 0<=d / 208%8;omega
  ·show d / 208%8<=1000;omega
  have er:=zKk (97+(d / 13312%26).toNat) (d / 208%8).toNat;show zIm 9 (V.str (tx (List.replicate (d / 208%8).toNat (⟨#[97+(d / 13312%26).toNat]⟩:Str).cps.toList).flatten)) _ _ _;rw[er];obtain⟨st,bF⟩:∃st,st=List.replicate (d / 208%8).toNat (97+(d / 13312%26).toNat):=⟨_,rfl⟩;rw[← bF];have ls:st.length<=8:=by rw[bF,wIp];omega
  have sl:(tx st).length<=sizeLine:=by rw[zCD];exact small ∅
  have c0:0<=(if d / 208%8 < d / 1664%8 then d / 208%8 else d / 1664%8):=by rw[emin];omega
  refine⟨_,rfl,_,rfl,_,rfl,tx st,rfl,sl,.inl ⟨rfl,_,rfl,c0,?_⟩⟩;rw[zEr];refine⟨_,rfl,_,_,rfl,rfl,?_,?_⟩
  ·show (tx _).length+1<=_;rw[zCD,wHD];exact small ∅
  refine⟨_,rfl,_,rfl,_,rfl,tx st,rfl,sl,.inr ⟨_,rfl,rfl,c0,?_⟩⟩;rw[zEr];have e1:∀l:List Nat,∀c:Nat,tx l++(⟨#[c]⟩:Str)=tx (l++[c]):=λl c=>zJH _ [c];rw[e1];refine⟨_,_,rfl,rfl,?_,?_⟩
  ·rw[zCD,zCD,wHp,wHD,wIj];exact small (by show _+1+_<=_;omega)
  rw[zJH];show zRv _ _ _ _;rw[emin];refine⟨λσ' H2=>∃(x1 x2 x3 x4 x5:Option V) (nm:List Nat),σ'=[some (.int d),some (.int (n:Nat)),some (.str "abcdefghijklmnopqrstuvwxyz"),some (.ref wl),some (.ref ml),some (.int (0+(i:Int))),x1,x2,x3,x4,some (.str (tx nm))]/\H2=H'/\(d%8≠2->nm=nmL d i),?_,?_⟩
  ·refine⟨_,rfl,_,_,rfl,rfl,(by show (0:Int) < 8;decide),_,_,rfl,rfl,_,rfl,?_⟩;refine zCH (λc=>?_) (λc=>?_)
   ·have c':d%8 < 2:=wHw c;refine⟨_,rfl,_,_,rfl,rfl,(by show (0:Int) < 5;decide),_,_,rfl,rfl,_,_,rfl,rfl,?_,?_,(by nofun),?_⟩
    ·show 0<=1+(0+(i:Int))%5;omega
    ·show 1+(0+(i:Int))%5<=1000;omega
    refine⟨_,rfl,_,rfl,_,_,rfl,rfl,⟨by decide,by decide⟩,_,_,rfl,rfl,_,_,_,rfl,rfl,by nofun,zKP (by show 0<=17+(0+(i:Int)) / 5;omega) (by show 17+(0+(i:Int)) / 5 < 26;omega),?_⟩;have eq1:(List.replicate (1+(0+(i:Int))%5).toNat (Str.ofString "q").cps.toList).flatten=List.replicate (1+i%5) 113:=by rw[show (1+(0+(i:Int))%5).toNat=1+i%5 by omega];exact zKk 113 _
    refine⟨_,_,rfl,rfl,?_,?_⟩
    ·show (tx (List.replicate (1+(0+(i:Int))%5).toNat (Str.ofString "q").cps.toList).flatten).length+1<=_;rw[eq1,zCD,wIp];exact small ∅
    refine⟨some (.str (⟨#[97+(((0+(i:Int))*7+d / 8)%26).toNat]⟩:Str)),some (.int (d / 208%8)),some (.int (min (d / 1664%8) (d / 208%8))),some (.str (tx st)),none,List.replicate (1+i%5) 113++[97+(17+i / 5)],?_,rfl,λz=>?_⟩
    ·show [_,_,_,_,_,_,_,_,_,_,some (V.str (tx (List.replicate (1+(0+(i:Int))%5).toNat (Str.ofString "q").cps.toList).flatten++(⟨#[97+(17+(0+(i:Int)) / 5).toNat]⟩:Str)))]=_;rw[eq1,e1,show (17+(0+(i:Int)) / 5).toNat=17+i / 5 by omega]
    unfold nmL;rw[wHj z,wHl c']
   have c':¬d%8 < 2:=wHT (wIB c);refine⟨_,_,_,_,none,_,rfl,rfl,λz=>?_⟩;unfold nmL;rw[wHj z,wHj c',bF,Int.zero_add]
  rintro σ' H2 ⟨y1,y2,y3,y4,y5,nm,rfl,rfl,en⟩;refine⟨λσ' H3=>∃(x1 x2 x3 x4 x5:Option V),σ'=[some (.int d),some (.int (n:Nat)),some (.str "abcdefghijklmnopqrstuvwxyz"),some (.ref wl),some (.ref ml),some (.int (0+(i:Int))),x1,x2,x3,x4,some (.str (tx (nmL d i)))]/\H3=H2,?_,?_⟩
  ·refine⟨_,rfl,_,_,rfl,rfl,(by show (0:Int) < 8;decide),rfl,_,rfl,?_⟩;refine zCH (λc=>?_) (λc=>?_)
   ·have c':d%8=2:=V.int.inj (wHw c);have bG:atI (nws.map V.str) (0+(i:Int))=some (.str (tx (nmL d i))):=by
     refine zAB ∅ ?_;rw[show (0+(i:Int)).toNat=i by omega,wHn,wHg (show i < nws.length from aD)];unfold nmL;rw[wHl c',zIH,wHh,wHg (show i < nws.length from aD)]
     rfl
    exact⟨_,rfl,_,rfl,wl,_,_,_,rfl,rfl,SqL.of ew,bG,_,_,_,_,none,rfl,rfl⟩
   have c':¬d%8=2:=λz=>c (wHM (congrArg V.int z));rw[← en c'];exact⟨_,_,_,_,none,rfl,rfl⟩
  rintro σ' H3' ⟨z1,z2,z3,z4,z5,rfl,rfl⟩;refine⟨_,rfl,.inl ⟨rfl,_,SqL.of em⟩,_,rfl,ml,_,_,rfl,rfl,em,by rw[wHf,wHf,wIl];exact zAj ∅,?_⟩;refine⟨_,_,_,_,_,_,rfl,zY s' hm0 _,by rw[zO wml];exact ew,?_⟩;rw[zB,List.range_succ,wHr,wHr];rfl
 rintro σ' H' ⟨x1,x2,x3,x4,x5,x6,rfl,s',ew,em⟩;rw[show ((n:Nat):Int).toNat=n by omega] at em;refine⟨_,rfl,q ml H' _ hm0 s' em (by rw[wHf,wIl]) (λx hx=>?_) ?_⟩
 ·obtain⟨k,hk,rfl⟩:=List.mem_map.mp hx;exact zQU d d0 k (by have:=List.mem_range.mp hk;omega)
 refine List.pairwise_map.mpr (List.Pairwise.imp_of_mem (λ{a b} ha hb ne e=>ne ?_) (List.nodup_range (n:=n)));exact zPV d (by have:=List.mem_range.mp ha;omega) (by have:=List.mem_range.mp hb;omega) (zPh e)
inductive sp_refused (K:W.Frag) (vs:List V) (H:Hp) (Q:VK) (E:XK):Prop
 | mk (l:Addr) (w:Str) (r:List V):vs=[.ref l,.str w]->(SqL K H l (.str "refused"::.str w::r)/\Q (.bl true) H)->sp_refused K vs H Q E
def zJo (T:Txt P K mg t):FnOk P w K mg base CX0 40 t.wCo t.wCp ["_law_told","_law_word_here"] (sp_refused K):=by refine T.wD1.ok zJf ⟨⟩ ();obtain⟨l,w,r,rfl,hS,q⟩:=h;refine⟨_,(zF (zT (zIB (zBL zCB (zAA K (pv 0) zH) zAK (zAg _)) (zI7 (zBL zCB (zAA K (pv 0) zH) (pv 1) (zAg _)))))),?_⟩;refine⟨_,rfl,l,_,0,_,rfl,rfl,hS,zAB ⋯ rfl,rfl,_,rfl,zKU rfl ?_⟩;refine⟨_,rfl,l,_,1,_,rfl,rfl,hS,zAB ⋯ rfl,_,rfl,rfl,?_⟩;rw[wHM rfl];exact q
def zLJ (K:W.Frag):Sp:=λvs H Q _=>(∃(i:Int),vs=[.int i]/\Q (.bl true) H)∨∃(z:Str),vs=[.str z]/\Q (.bl false) H
def zDl (T:Txt P K mg t):FnOk P w K mg base CX0 40 t.wDE t.wDF ["_law_found"] (zLJ K):=by
 refine T.wA3.ok zLS (λvs H Q E h=>?_) ()
 ·rcases h with ⟨i,rfl,_⟩ | ⟨i,rfl,_⟩<;>rfl
 refine⟨_,(zF (zT (zIB (zR (zAy K) rfl T.wAb wHt (zQ (pv 0) (zBC (v:=.ty "int") rfl T.wGr PyProof.Rows.boot_int rfl) zE zA zA)) (zI7 (zPF (zR (zAy K) rfl T.wAb wHt (zQ (pv 0) (zBC (v:=.ty "bool") rfl T.wG2 PyProof.Rows.boot_bool rfl) zE zA zA))))))),?_⟩;rcases h with ⟨i,rfl,q⟩ | ⟨z,rfl,q⟩
 ·refine⟨_,rfl,_,_,_,_,rfl,.int _,rfl,_,rfl,zG5 ?_⟩;exact⟨_,rfl,_,_,_,_,rfl,.int _,rfl,_,rfl,q⟩
 exact⟨_,rfl,_,_,_,_,rfl,.str _,rfl,_,rfl,zB8 q⟩
inductive sp_tuples (K:W.Frag) (vs:List V) (H:Hp) (Q:VK) (E:XK):Prop
 | mk (p r:Addr) (yss:List (List V)):vs=[.ref p,.ref r]->(zAf H p yss/\zAf H r yss/\yss.length<=900/\(∀ys∈yss,ys.length<=900/\∀y∈ys,(∃i,y=.int i)∨∃z,y=.str z)/\Q (.bl true) H)->sp_tuples K vs H Q E
def zK8 (T:Txt P K mg t):FnOk P w K mg base CX0 41 t.wCZ t.wC0 ["_law_found","_law_due"] (sp_tuples K):=by
 refine T.wET.ok zEx ⟨⟩ ();obtain⟨p,r,yss,rfl,⟨ps,hp,lp,ip⟩,⟨rs,mE,lr,ir⟩,hl,hy,q⟩:=h;refine⟨_,(zC (zAs (PW.pt (zDB (zAG (zA1 (zR (zAy K) rfl T.wAb wHt (zQ (pv 0) (zBC (v:=.ty "list") rfl T.wBh PyProof.Rows.boot_list rfl) zE zA zA)))) (zCp (zAb zDF (zR (zAd K) rfl T.wAh wHB (zG (pv 0) zE zA)) (zR (zAd K) rfl T.wAh wHB (zG (pv 1) zE zA)) (zAg _))))) (zF (zT zAT)) zZ)
  (zC (zAr PassesOwn.never rfl (zAi rfl T.wAg (zG (zR (zAd K) rfl T.wAh wHB (zG (pv 1) zE zA)) zE zS)) (zJ (i:=2) zEx.nd rfl (Or.inl rfl)) (zC (zAs (PW.pt (zDB (zAG (zA1 (zR (zAy K) rfl T.wAb wHt (zQ (zAA K (pv 0) (pv 2)) (zBC (v:=.ty "tuple") rfl T.wFr PyProof.Rows.boot_tuple rfl) zE zK zA)))) (zCp (zAb zDF (zR (zAd K) rfl T.wAh wHB (zG (zAA K (pv 0) (pv 2)) zE zK)) (zR (zAd K) rfl T.wAh wHB (zG (zAA K (pv 1) (pv 2)) zE zK)) (zAg _))))) (zF (zT zAT)) zZ)
  (zF (zAr PassesOwn.never rfl (zAi rfl T.wAg (zG (zR (zAd K) rfl T.wAh wHB (zG (zAA K (pv 1) (pv 2)) zE zK)) zE zS)) (zJ (i:=3) zEx.nd rfl (Or.inl rfl)) (zC (zAs (PW.pt (zEA (zAG (zA1 (cal (zDl T) hr T.wBG T.wA3 T.wBF (zG (zBr K (zAA K (pv 0) (pv 2)) (pv 3)) zE zK)))) (zDC (zAG (zA1 (zR (zAy K) rfl T.wAb wHt (zQ (zBr K (zAA K (pv 0) (pv 2)) (pv 3)) (zBC (v:=.ty "str") rfl T.wGu PyProof.Rows.boot_str rfl) zE zK zA))))))) (zF (zT zAT)) zZ)
  (zF (zAs (zAb zDF (zBr K (zAA K (pv 0) (pv 2)) (pv 3)) (zBr K (zAA K (pv 1) (pv 2)) (pv 3)) (zAg _)) (zF (zT zAT)) zZ)))))))
  (zF (zT zAT)))),?_⟩
 have Sp:=SqL.of (K:=K) hp;have Sr:=SqL.of (K:=K) mE;have lpr:(ps.map V.ref).length=(rs.map V.ref).length:=by rw[wHf,wHf,lp,lr]
 have lr2:(rs.map V.ref).length=yss.length:=by rw[wHf,lr]
 refine⟨_,rfl,_,_,_,_,rfl,.lst hp,rfl,_,rfl,zB8 ?_⟩;refine⟨_,rfl,p,_,rfl,.inl Sp,_,rfl,r,_,rfl,.inl Sr,rfl,_,rfl,zEi (by rw[lpr]) ?_⟩;refine⟨_,rfl,r,_,rfl,.inl Sr,(((rs.map V.ref).length:Nat):Int),rfl,by omega,by omega,zA9 (n:=((((rs.map V.ref).length:Nat):Int)).toNat) (λi σ' H'=>∃v w,σ'=[some (.ref p),some (.ref r),v,w]/\H'=H) ⟨none,none,rfl,rfl⟩ ?_ ?_⟩
 ·rintro i σ' H' hi ⟨v,w,rfl,rfl⟩;have aU:i < yss.length:=by omega
  have hg:yss[i]?=some yss[i]:=wHg aU;obtain⟨a,ha⟩:∃a,ps[i]?=some a:=⟨_,wHg ∅⟩;obtain⟨b,hb⟩:∃b,rs[i]?=some b:=⟨_,wHg ∅⟩;obtain⟨ly,hy⟩:=hy yss[i] (wHF aU);have ea:=ip i a _ ha hg;have eb:=ir i b _ hb hg;generalize yss[i]=ys at ea eb ly hy;have bK:atI (ps.map V.ref) (0+(i:Int))=some (.ref a):=zAB ∅ (by rw[show (0+(i:Int)).toNat=i by omega,wHn,ha];rfl);have eK:atI (rs.map V.ref) (0+(i:Int))=some (.ref b):=zAB ∅ (by rw[show (0+(i:Int)).toNat=i by omega,wHn,hb];rfl);have xa:=SqT.of (K:=K) ea;have xb:=SqT.of (K:=K) eb;refine⟨_,rfl,_,rfl,p,_,_,_,rfl,rfl,Sp,bK,_,_,_,_,rfl,.tup ea,rfl,_,rfl,zB8 ?_⟩;refine⟨_,rfl,_,rfl,p,_,_,_,rfl,rfl,Sp,bK,a,_,rfl,.inr xa,_,rfl,_,rfl,r,_,_,_,rfl,rfl,Sr,eK,b,_,rfl,.inr xb,rfl,_,rfl,zEi rfl ?_⟩;refine⟨_,rfl,_,rfl,r,_,_,_,rfl,rfl,Sr,eK,b,_,rfl,.inr xb,_,rfl,by omega,by omega,zA9 (n:=(((ys.length:Nat):Int)).toNat) (λj σ' H2=>∃w,σ'=[some (.ref p),some (.ref r),some (.int (0+(i:Int))),w]/\H2=H') ⟨w,rfl,rfl⟩ ?_ ?_⟩
  ·rintro j σ' H2 hj ⟨w,rfl,rfl⟩;have iC:j < ys.length:=by omega
   have ni:ys[j]?=some ys[j]:=wHg iC;have bA:atI ys (0+(j:Int))=some ys[j]:=zAB ∅ (by rw[show (0+(j:Int)).toNat=j by omega,ni]);rcases hy ys[j] (wHF iC) with ⟨x,ey⟩ | ⟨z,ey⟩
   ·rw[ey] at bA;refine⟨_,rfl,_,rfl,p,_,_,_,rfl,rfl,Sp,bK,_,rfl,a,_,_,_,rfl,rfl,xa,bA,.inl ⟨_,rfl,_,rfl,zB8 ?_⟩⟩;refine zB8 ?_;refine⟨_,rfl,_,rfl,p,_,_,_,rfl,rfl,Sp,bK,_,rfl,a,_,_,_,rfl,rfl,xa,bA,_,rfl,_,rfl,r,_,_,_,rfl,rfl,Sr,eK,_,rfl,b,_,_,_,rfl,rfl,xb,bA,rfl,_,rfl,zEi rfl ?_⟩;exact⟨_,rfl,rfl⟩
   rw[ey] at bA;refine⟨_,rfl,_,rfl,p,_,_,_,rfl,rfl,Sp,bK,_,rfl,a,_,_,_,rfl,rfl,xa,bA,.inr ⟨_,rfl,_,rfl,zG5 ?_⟩⟩;refine⟨_,rfl,_,rfl,p,_,_,_,rfl,rfl,Sp,bK,_,rfl,a,_,_,_,rfl,rfl,xa,bA,_,_,_,_,rfl,.str _,rfl,_,rfl,zB8 ?_⟩;refine⟨_,rfl,_,rfl,p,_,_,_,rfl,rfl,Sp,bK,_,rfl,a,_,_,_,rfl,rfl,xa,bA,_,rfl,_,rfl,r,_,_,_,rfl,rfl,Sr,eK,_,rfl,b,_,_,_,rfl,rfl,xb,bA,rfl,_,rfl,zEi rfl ?_⟩;exact⟨_,rfl,rfl⟩
  rintro σ' H2 ⟨w,rfl,rfl⟩;exact⟨_,_,rfl,rfl⟩
 rintro σ' H' ⟨v,w,rfl,rfl⟩;exact q
abbrev W5:=Int × Int × Int × Int × Int
def W5.vs (p:W5):List V:=[.int p.1,.int p.2.1,.int p.2.2.1,.int p.2.2.2.1,.int p.2.2.2.2]
def pOf (ns:List Str) (p:W5):Pct:=(ns.getD p.1.toNat Str.empty,ns.getD p.2.1.toNat Str.empty,p.2.2.1,p.2.2.2.1,p.2.2.2.2)
structure OkN (n:Nat) (p:W5):Prop where
 g:0<=p.1/\p.1 < n
 u:0<=p.2.1/\p.2.1 < n
 ne:p.1≠p.2.1
 pt:1<=p.2.2.1/\p.2.2.1<=1000
 sp:0<=p.2.2.2.1/\p.2.2.2.1<=p.2.2.2.2/\p.2.2.2.2<=5000
def on5 (d:Int) (p:W5):Bool:=decide (p.2.2.2.1<=d) && decide (d<=p.2.2.2.2)
def zCm {d:Int} {p:W5}:on5 d p=true↔p.2.2.2.1<=d/\d<=p.2.2.2.2:=by unfold on5;rw[wHN,decide_eq_true_eq,decide_eq_true_eq]
def w3 (p:W5):Nat × Nat × Int:=(p.1.toNat,p.2.1.toNat,p.2.2.1)
def wyL (ws:List W5) (d:Int):Wys:=(ws.filter (on5 d)).map w3
def zFI {ns:List Str} (nd:ns.Nodup) {k:Nat} (h:k < ns.length):ns.idxOf (ns.getD k Str.empty)=k:=by
 have e:ns.getD k Str.empty=ns[k]:=by rw[wHh,wHg h];rfl
 rw[e];have hm:ns[k]∈ns:=wHF h;have h1:=List.getElem_idxOf (List.idxOf_lt_length_iff.mpr hm);exact (List.getElem_inj (h₀:=List.idxOf_lt_length_iff.mpr hm) (h₁:=h) nd).mp h1
def zB3 {ns:List Str} (nd:ns.Nodup) {ws:List W5} (ok:∀p∈ws,OkN ns.length p) (d:Int):zBq ns (ws.map (pOf ns)) d=wyL ws d:=by unfold zBq wyL;rw[List.filter_map,List.map_map];have e:zBh d∘pOf ns=on5 d:=rfl;rw[e];refine List.map_congr_left λp hp=>?_;have o:=ok p (List.mem_filter.mp hp).1;show (ns.idxOf (ns.getD p.1.toNat Str.empty),ns.idxOf (ns.getD p.2.1.toNat Str.empty),p.2.2.1)=(p.1.toNat,p.2.1.toNat,p.2.2.1);rw[zFI nd (by have:=o.g;omega),zFI nd (by have:=o.u;omega)]
def zDS (L:Wys) (j:Nat):Int:=(L.map λw=>if w.1=j then w.2.2 else 0).sum
def zB0 (w:Nat × Nat × Int) (L:Wys) (j:Nat):zDS (w::L) j=(if w.1=j then w.2.2 else 0)+zDS L j:=by unfold zDS;rw[wIg,List.sum_cons]
theorem zID (L M:Wys) (j:Nat):zDS (L++M) j=zDS L j+zDS M j:=by unfold zDS;rw[wHr,List.sum_append]
theorem zFB (L:Wys) (j:Nat):∀n,n<=L.length->zAV L n j=zDS (L.take n) j
 | 0,_=>rfl
 | n+1,h=>by
  have hn:L[n]?=some L[n]:=wHg ∅;have e:L.getD n (0,0,0)=L[n]:=by rw[wHh,hn];rfl
  rw[wHY,hn,zID,← zFB L j n ∅];show zAV L n j+(if wg L n=j then wp L n else 0)=zAV L n j+zDS [L[n]] j;unfold wg wp;rw[e];unfold zDS;simp
def zBf (L:Wys) (j:Nat):zAV L L.length j=zDS L j:=by rw[zFB L j _ (wHm _),wHL]
theorem zBV (L:Wys) (j:Nat):keeps L j=1000-zDS L j:=by unfold keeps;rw[zBf]
inductive RL (L:Wys):Nat->Prop
 | base {j:Nat}:zDS L j < 1000->RL L j
 | step {w:Nat × Nat × Int}:w∈L->RL L w.2.1->RL L w.1
def zJD {L:Wys} {k:Nat} (h:k < L.length):L.getD k (0,0,0)∈L:=by rw[wHh,wHg h];exact wHF h
def zOf {L:Wys} {j:Nat} (h:Rch L.length (wt L) (wg L) (λj=>decide (0 < keeps L j)) j):RL L j:=by
 induction h with
 | base z=>refine .base ?_;have:=wHw z;rw[zBV] at this;omega
 | step hk _ ih=>exact .step (zJD hk) ih
def zOe {L:Wys} {j:Nat} (h:RL L j):Rch L.length (wt L) (wg L) (λj=>decide (0 < keeps L j)) j:=by
 induction h with
 | base z=>refine .base (wHM ?_);rw[zBV];omega
 | @step w hw _ ih=>
  obtain⟨k,hk,e⟩:=List.getElem_of_mem hw;have e2:L.getD k (0,0,0)=w:=by rw[wHh,wHg hk,e];rfl
  have s:=Rch.step (m:=L.length) (a:=wt L) (b:=wg L) (mk:=λj=>decide (0 < keeps L j)) (k:=k) hk (by unfold wt at *;rw[e2];exact ih);unfold wg at s;rw[e2] at s;exact s
def zOq {L:Wys} (p:∀w∈L,1<=w.2.2) (j:Nat):0<=zDS L j:=by
 induction L with
 | nil=>exact wIi _
 | cons a L ih=>
  rw[zB0];have:=ih λw hw=>p w (by simp[hw]);have:=p a (by simp)
  split<;>omega
def zHX {L' L:Wys} (s:L'.Sublist L) (p:∀w∈L,1<=w.2.2) (j:Nat):zDS L' j<=zDS L j:=by
 induction s with
 | slnil=>exact wIi _
 | cons a _ ih=>
  rw[zB0];have:=ih λw hw=>p w (by simp[hw]);have:=p a (by simp)
  split<;>omega
 | cons_cons a _ ih=>
  rw[zB0,zB0];have:=ih λw hw=>p w (by simp[hw]);omega
def zHW {L' L:Wys} (s:L'.Sublist L) (p:∀w∈L,1<=w.2.2) {w:Nat × Nat × Int} (hw:w∈L) (hn:w∉L'):zDS L' w.1+w.2.2<=zDS L w.1:=by
 induction s with
 | slnil=>cases hw
 | @cons M' M a s ih=>
  rw[zB0];have pM:∀w∈M,1<=w.2.2:=λw hw=>p w (by simp[hw]);by_cases e:w=a
  ·subst e;rw[wHl rfl];have:=zHX s pM w.1;omega
  have:=ih pM (by rcases wID hw with z | z;exact absurd z e;exact z) hn;have:=p a (by simp)
  split<;>omega
 | @cons_cons M' M a s ih=>
  rw[zB0,zB0];have e:w≠a:=λe=>hn (by rw[e];simp);have:=ih (λw hw=>p w (by simp[hw])) (by rcases wID hw with z | z;exact absurd z e;exact z) (λz=>hn (by simp[z]));omega
def zNb {L' L:Wys} (s:L'.Sublist L) (p:∀w∈L,1<=w.2.2) (o:∀j,zDS L j<=1000) {j:Nat} (h:RL L j):RL L' j:=by
 induction h with
 | @base i z=>exact .base (Int.lt_of_le_of_lt (zHX s p i) z)
 | @step w hw _ ih=>
  by_cases c:w∈L'
  ·exact .step c ih
  refine .base ?_;have:=zHW s p hw c;have:=o w.1;have:=p w hw;omega
structure GoodB (n:Nat) (ws:List W5):Prop where
 ok:∀p∈ws,OkN n p
 out:∀d j,zDS (wyL ws d) j<=1000
 opn:∀d j,j < n->RL (wyL ws d) j
def GoodB.nil (n:Nat):GoodB n []:=⟨λp hp=>(by cases hp),λd j=>(by show (0:Int)<=1000;decide),λd j _=>.base (by show (0:Int) < 1000;decide)⟩
def zF0 (ws:List W5) (w:W5) (d:Int):Prop:=d=w.2.2.2.1∨∃p∈ws,p.2.2.2.1=d/\w.2.2.2.1 < d/\d<=w.2.2.2.2
theorem zNv (w:W5) {d:Int} (h0:w.2.2.2.1<=d) (h1:d<=w.2.2.2.2):∀ws:List W5,∃s,zF0 ws w s/\w.2.2.2.1<=s/\s<=d/\∀p∈ws,p.2.2.2.1<=d->p.2.2.2.1<=s
 | []=>⟨w.2.2.2.1,.inl rfl,wIi _,h0,λp hp=>by cases hp⟩
 | q::ws=>by
  obtain⟨s,i,a,b,c⟩:=zNv w h0 h1 ws;by_cases e:q.2.2.2.1<=d/\s < q.2.2.2.1
  ·refine⟨q.2.2.2.1,.inr ⟨q,by simp,rfl,by omega,by omega⟩,by omega,e.1,λp hp hd=>?_⟩;rcases wID hp with z | z
   ·rw[z];exact wIi _
   have:=c p z hd;omega
  refine⟨s,?_,a,b,λp hp hd=>?_⟩
  ·rcases i with z | ⟨p,hp,r⟩
   ·exact .inl z
   exact .inr ⟨p,by simp[hp],r⟩
  rcases wID hp with z | z
  ·rw[z] at hd ⊢;exact Int.not_lt.mp λy=>e ⟨hd,y⟩
  exact c p z hd
def zN5 {ws:List W5} {d s:Int} (h:∀p∈ws,on5 d p=true->on5 s p=true):(wyL ws d).Sublist (wyL ws s):=by
 have e:ws.filter (on5 d)=(ws.filter (on5 s)).filter (on5 d):=by
  rw[List.filter_filter];refine List.filter_congr λp hp=>?_;cases c:on5 d p with
  | false=>rfl
  | true=>rw[h p hp c];rfl
 unfold wyL;rw[e];exact List.Sublist.map _ List.filter_sublist
def zH7 {ws:List W5} {d:Int} {w:Nat × Nat × Int} (h:w∈wyL ws d):∃p∈ws,on5 d p=true/\w=w3 p:=by obtain⟨p,hp,e⟩:=List.mem_map.mp h;exact⟨p,(List.mem_filter.mp hp).1,(List.mem_filter.mp hp).2,e.symm⟩
def zIw {n:Nat} {ws:List W5} (ok:∀p∈ws,OkN n p) (d:Int):∀w∈wyL ws d,1<=w.2.2:=λw hw=>by obtain⟨p,hp,_,rfl⟩:=zH7 hw;exact (ok p hp).pt.1
def zC4 (ws:List W5) (w:W5) (d:Int):wyL (ws++[w]) d=if on5 d w=true then wyL ws d++[w3 w] else wyL ws d:=by
 unfold wyL;rw[List.filter_append];by_cases c:on5 d w=true
 ·rw[wHl c,List.filter_cons_of_pos c,List.filter_nil,wHr];rfl
 rw[wHj c,List.filter_cons_of_neg c,List.filter_nil,wHR]
theorem zBN {n:Nat} {ws:List W5} {w:W5} (ok:∀p∈ws,OkN n p) (o:OkN n w):∀p∈ws++[w],OkN n p:=λp hp=>by
 rcases wIC hp with z | z
 ·exact ok p z
 rw[wIz z];exact o
def zHY {n:Nat} {ws:List W5} {w:W5} (g:GoodB n ws) (d:Int) {j:Nat} (h:w.1.toNat≠j):zDS (wyL (ws++[w]) d) j<=1000:=by
 rw[zC4]
 split
 ·rw[zID,zB0,wHj (show ¬(w3 w).1=j from h)];have:=g.out d j;show _+(0+0)<=_;omega
 exact g.out d j
def zIu (n:Nat) (ws:List W5):Prop:=∀i,i<=ws.length->GoodB n (ws.take i)
def zIu.nil (n:Nat):zIu n []:=λi _=>by rw[List.take_nil];exact GoodB.nil n
def zIu.all {n:Nat} {ws:List W5} (g:zIu n ws):GoodB n ws:=by have:=g ws.length (wHm _);rwa [wHL] at this
def zIu.snoc {n:Nat} {ws:List W5} {w:W5} (g:zIu n ws) (b:GoodB n (ws++[w])):zIu n (ws++[w]):=λi hi=>by
 by_cases c:i<=ws.length
 ·rw[List.take_append_of_le_length c];exact g i c
 rw[wHp] at hi;have:i=(ws++[w]).length:=by rw[wHp];show i=_+1;have:[w].length=1:=rfl;omega
 rw[this,wHL];exact b
def zDU {ns:List Str} (nd:ns.Nodup) {ws:List W5} (ok:∀p∈ws,OkN ns.length p):PsOk ns (ws.map (pOf ns)):=by
 have mem:∀k:Int,0<=k->k < ns.length->ns.getD k.toNat Str.empty∈ns:=λk h0 h1=>by rw[wHh,wHg (show k.toNat < ns.length by omega)];exact wHF _
 refine⟨λp hp=>?_,λp hp=>?_,λp hp=>?_,λp hp=>?_⟩<;>obtain⟨w,hw,rfl⟩:=List.mem_map.mp hp<;>have o:=ok w hw
 ·exact⟨mem _ o.g.1 o.g.2,mem _ o.u.1 o.u.2⟩
 ·intro e;have e1:=zFI nd (k:=w.1.toNat) (by have:=o.g;omega);have e2:=zFI nd (k:=w.2.1.toNat) (by have:=o.u;omega);have e3:ns.idxOf (ns.getD w.1.toNat Str.empty)=ns.idxOf (ns.getD w.2.1.toNat Str.empty):=congrArg (λz=>ns.idxOf z) e;rw[e1,e2] at e3;have:=o.g;have:=o.u;have:=o.ne;omega
 ·exact o.pt
 exact o.sp
def zBo (ns:List Str) (ws:List W5) (w:W5):ws.map (pOf ns)++[pOf ns w]=(ws++[w]).map (pOf ns):=by rw[wHr];rfl
def GoodB.wy {ns:List Str} (nd:ns.Nodup) {ws:List W5} (g:GoodB ns.length ws) (d:Int):WyOk ns.length (zBq ns (ws.map (pOf ns)) d)/\zN0 ns.length (zBq ns (ws.map (pOf ns)) d):=by
 refine⟨(zDU nd g.ok).wy λx=>?_,λj hj=>?_⟩
 ·rw[zB3 nd g.ok,zBf];exact g.out d x
 rw[zB3 nd g.ok];exact zOe (g.opn d j hj)
def GoodB.new {ns:List Str} (nd:ns.Nodup) {ws:List W5} {w:W5} (g:GoodB ns.length (ws++[w])):NewOk ns (ws.map (pOf ns)) (pOf ns w)/\¬zJ8 ns (ws.map (pOf ns)) (pOf ns w):=by
 refine⟨⟨by rw[zBo];exact zDU nd g.ok,λd x _=>?_⟩,?_⟩
 ·rw[zBo,zB3 nd g.ok,zBf];exact g.out d x
 rintro⟨d,_,_,h⟩;rw[zBo,zB3 nd g.ok,zBf] at h;have:=g.out d (ns.idxOf (pOf ns w).1);omega
def tN {ns:List Str} (nd:ns.Nodup) {w:W5} (o:OkN ns.length w):zJ7 ns (pOf ns w).1 (pOf ns w).2.1 w.2.2.1 w.2.2.2.1 w.2.2.2.2=none:=by
 have h:=zDU nd (ws:=[w]) λp hp=>by rw[wIz hp];exact o
 have m:pOf ns w∈[w].map (pOf ns):=by simp
 have o3:=o.sp;unfold zJ7;rw[wHl (h.inn _ m).1,wHl (h.inn _ m).2,wHj (h.ne _ m),wHj ∅,wHl o.pt,wHl ∅,wHl ∅]
def wv (w:Nat × Nat × Int):List V:=[.int (w.1:Nat),.int (w.2.1:Nat),.int w.2.2]
theorem zFM {K:W.Frag} {H:Hp} {l:Addr} {L:Wys} (h:zAf H l (L.map wv)):∃rs,WyAt K H l rs L:=by
 obtain⟨q,h1,h2,h3⟩:=h;rw[wHf] at h2;refine⟨q.map V.ref,SqL.of h1,by rw[wHf,h2],λk hk=>?_⟩;have e1:q[k]?=some (q[k]' ∅):=wHg _;have e2:L[k]?=some L[k]:=wHg hk;refine⟨_,by rw[wHn,e1];rfl,?_⟩;have e3:L.getD k (0,0,0)=L[k]:=by rw[wHh,e2];rfl
 have:=h3 k _ _ e1 (by rw[wHn,e2];rfl);unfold wg wt wp;rw[e3];exact this
def zQ9 {p:W5} (h:0<=p.1/\0<=p.2.1):wv (w3 p)=[.int p.1,.int p.2.1,.int p.2.2.1]:=by show [V.int (p.1.toNat:Int),V.int (p.2.1.toNat:Int),V.int p.2.2.1]=_;rw[Int.toNat_of_nonneg h.1,Int.toNat_of_nonneg h.2]
theorem zLC {ws:List W5} {i:Nat} {p:W5} (h:ws[i]?=some p) (d:Int):wyL (ws.take (i+1)) d=if on5 d p=true then wyL (ws.take i) d++[w3 p] else wyL (ws.take i) d:=by rw[wHY,h];exact zC4 _ _ _
def zN6 (ws:List W5) (d:Int):(wyL ws d).length<=ws.length:=by unfold wyL;rw[wHf];exact wIq _ _
inductive sp_on (K:W.Frag) (vs:List V) (H:Hp) (Q:VK) (E:XK):Prop
 | mk (pl:Addr) (ws:List W5) (d:Int):vs=[.ref pl,.int d]->(zAf H pl (ws.map W5.vs)/\ws.length<=900/\(∀p∈ws,0<=p.1/\0<=p.2.1)/\
 ∀l H',H l=none->zAh H H'->zAf H' l ((wyL ws d).map wv)->Q (.ref l) H')->sp_on K vs H Q E
def zMo (T:Txt P K mg t):FnOk P w K mg base CX0 40 t.wGc t.wGd ["_law_pacts","_law_day"] (sp_on K):=by
 refine T.wEQ.ok zHI ⟨⟩ ();obtain⟨pl,ws,d,rfl,⟨qs,hp,lq,hq⟩,hz,ok,q⟩:=h;refine⟨_,(zC (zAF 2 zHI.nd (zAo zE))
  (zC (zAr PassesOwn.never rfl (zAa K (pv 0)) (zAt K (n:=5) rfl (zP (zJ (i:=3) zHI.nd rfl (Or.inl rfl)) (zP (zJ (i:=4) zHI.nd rfl (Or.inl rfl)) (zP (zJ (i:=5) zHI.nd rfl (Or.inl rfl)) (zP (zJ (i:=6) zHI.nd rfl (Or.inl rfl)) (zP (zJ (i:=7) zHI.nd rfl (Or.inl rfl)) zAp)))))) (zF (zAs (PW.pt (zEA (zAb zDG (pv 6) (pv 1) (zAg _)) (zDC (zAb zDG (pv 1) (pv 7) (zAg _))))) (zF (zAm (zBz K wHV wH2 wH6 zA3 (pv 2) (zG (zAS (zAe (pv 3) (pv 4) (pv 5) zE zA zA zA)) zE zAE)))) zZ)))
  (zF (zT (pv 2))))),?_⟩
 rw[wHf] at lq;refine⟨szl,λl hl=>?_⟩;refine⟨_,rfl,pl,rfl,⟨_,SqL.of (zD hl _ _ _ hp)⟩,zAx (xs:=qs.map V.ref) (λi σ' H'=>∃(v3 v4 v5 v6 v7:Option V),σ'=[some (.ref pl),some (.int d),some (.ref l),v3,v4,v5,v6,v7]/\zAh H H'/\zAf H' l ((wyL (ws.take i) d).map wv)) ⟨none,none,none,none,none,rfl,zD hl _,zAf.nil zB⟩ (λi σ' H' _ ⟨_,_,_,_,_,_,s',_⟩=>SqL.of (s' _ _ hp)) ?_ ?_⟩
 ·rintro i x σ' H' hi ⟨v3,v4,v5,v6,v7,rfl,s',el⟩;rw[wHn] at hi;obtain⟨a,ha,rfl⟩:=wIA hi;have aD:i < ws.length:=by rw[← lq];exact (wIy ha).1
  have bP:ws[i]?=some ws[i]:=wHg aD;have ea:=s' _ _ (hq i a _ ha (by rw[wHn,bP];rfl));have o:=ok ws[i] (wHF aD);refine⟨a,_,rfl,SqT.of ea,rfl,_,_,rfl,_,_,rfl,_,_,rfl,_,_,rfl,_,_,rfl,rfl,?_⟩;rw[zLC bP];refine⟨_,rfl,_,rfl,_,_,rfl,rfl,_,rfl,?_⟩;by_cases c1:(ws[i]).2.2.2.1<=d
  ·refine zKU c1 ⟨_,rfl,_,rfl,_,_,rfl,rfl,_,rfl,?_⟩;by_cases c2:d<=(ws[i]).2.2.2.2
   ·refine zKU c2 ?_;obtain⟨q2,g1,g2,g3⟩:=el;refine⟨_,rfl,.inl ⟨rfl,_,SqL.of g1⟩,_,rfl,_,rfl,_,rfl,szl,λp cT=>?_⟩;have s2:=zD cT (.tup [.int (ws[i]).1,.int (ws[i]).2.1,.int (ws[i]).2.2.1]);have g1':=s2 _ _ g1;have lw:=zN6 (ws.take i) d;rw[wHD] at lw;refine⟨l,_,_,rfl,rfl,g1',by rw[wHf,g2,wHf];exact zAj ∅,_,_,_,_,_,rfl,zY (s'.trans s2) hl _,?_⟩;rw[wHl (zCm.mpr ⟨c1,c2⟩),wHr,wIg,zQ9 o];exact zAf.snoc g1' g2 (λi a ys e1 e2=>s2 _ _ (g3 i a ys e1 e2)) zB
   rw[wHj λz=>c2 (zCm.mp z).2];exact zJw c2 ⟨_,_,_,_,_,rfl,s',el⟩
  rw[wHj λz=>c1 (zCm.mp z).1];exact zJw c1 (zB8 ⟨_,_,_,_,_,rfl,s',el⟩)
 rintro σ' H' ⟨v3,v4,v5,v6,v7,rfl,s',el⟩;rw[wHf,lq,wHL] at el;exact⟨_,rfl,q l H' hl s' el⟩
inductive sp_left (K:W.Frag) (vs:List V) (H:Hp) (Q:VK) (E:XK):Prop
 | mk (n:Nat) (r:Addr) (rs:List V) (ws:Wys):vs=[.int (n:Nat),.ref r]->(WyAt K H r rs ws/\(∀k,k < ws.length->wg ws k < n)/\n<=900/\
 ∀(d:Addr) (H':Hp),H d=none->zAh H H'->H' d=some (.lst (tab n λh=>V.int (keeps ws h)))->Q (.ref d) H')->sp_left K vs H Q E
def zGg (T:Txt P K mg t):FnOk P w K mg base CX0 40 t.wEk t.wEl ["_law_count","_law_ways"] (sp_left K):=by
 refine T.wCv.ok zEz ⟨⟩ ();obtain⟨n,r,rs,ws,rfl,wa,wo,n9,q⟩:=h;refine⟨_,(zC (zAF 2 zEz.nd (zV zIE (zAo (zG zH zE zM)) (pv 0)))
  (zC (zAr PassesOwn.never rfl (zAa K (pv 1)) (zAt K (n:=3) rfl (zP (zJ (i:=3) zEz.nd rfl (Or.inl rfl)) (zP (zJ (i:=4) zEz.nd rfl (Or.inl rfl)) (zP (zJ (i:=5) zEz.nd rfl (Or.inl rfl)) zAp)))) (zF (zDD (pv 2) (pv 3) zC8 (pv 5) zKX zAX)))
  (zF (zT (pv 2))))),?_⟩
 refine⟨szl,λl1 h1=>⟨_,rfl,l1,_,_,rfl,rfl,zB,by omega,by omega,?_,λd hd=>?_⟩⟩
 ·show 1*_<=sizeLine;exact small ∅
 have s0:=(zD h1 (.lst [V.int 1000])).trans (zD hd (.lst (List.replicate (n:Int).toNat [V.int 1000]).flatten));have cZ:H d=none:=(zD h1 _).free hd;refine⟨_,rfl,r,rfl,⟨_,s0.seq wa.sq⟩,zAx (K:=K) (a:=r) (xs:=rs) (λi σ' H'=>∃u v w,σ'=[some (.int (n:Nat)),some (.ref r),some (.ref d),u,v,w]/\zAh H H'/\H' d=some (.lst (tab n λh=>V.int (1000-zAV ws i h))))
  ⟨_,_,_,rfl,s0,by rw[zB,zP4,wHS,zFO];exact congrArg (λl=>some (HO.lst l)) (zA0 λi _=>by show _=V.int (1000-0);rfl)⟩ (λi σ' H' _ ⟨_,_,_,_,sm,_⟩=>sm.seq wa.sq) ?_ ?_⟩
 ·rintro i x σ' H' hx ⟨u,v,w,rfl,sm,ed⟩;have hi:i < ws.length:=by rw[← wa.len];exact (wIy hx).1
  obtain⟨q',e1,e2⟩:=wa.at_ i hi;have ex:x=.ref q':=by rw[e1] at hx;exact (wHo hx).symm
  subst ex;refine⟨q',_,rfl,SqT.of (sm _ _ e2),rfl,_,_,rfl,_,_,rfl,_,_,rfl,rfl,?_⟩;refine⟨_,rfl,_,rfl,d,_,_,_,rfl,rfl,SqL.of ed,zAk (wo i hi),_,rfl,_,_,rfl,rfl,d,_,_,_,rfl,rfl,ed,zBp (wo i hi),?_⟩;exact⟨_,_,_,rfl,zY sm cZ _,by rw[zB,zHd]⟩
 rintro σ' H' ⟨u,v,w,rfl,sm,ed⟩;rw[wa.len] at ed;exact⟨_,rfl,q d H' cZ sm ed⟩
structure Mk (n:Nat) (ws:Wys) (f:Nat->Bool):Prop where
 base:∀j,0 < keeps ws j->f j=true
 snd:∀j,f j=true->Rch ws.length (wt ws) (wg ws) (λj=>decide (0 < keeps ws j)) j
def Mk.iff {n:Nat} {ws:Wys} {f:Nat->Bool} (h:Mk n ws f) (c:Clo ws.length (wt ws) (wg ws) f) (j:Nat):f j=true↔Rch ws.length (wt ws) (wg ws) (λj=>decide (0 < keeps ws j)) j:=by
 refine⟨h.snd j,λr=>?_⟩
 induction r with
 | base z=>exact h.base _ (wHw z)
 | step hk _ ih=>exact c _ hk ih
inductive sp_closed (K:W.Frag) (vs:List V) (H:Hp) (Q:VK) (E:XK):Prop
 | mk (n:Nat) (r:Addr) (rs:List V) (ws:Wys):vs=[.int (n:Nat),.ref r]->(WyAt K H r rs ws/\WyOk n ws/\n<=900/\
 ∀(d:Addr) (f:Nat->Bool) (H':Hp),H d=none->zAh H H'->H' d=some (.lst ((plc (λj=>!f j) n).map V.int))->(∀j,f j=true↔Rch ws.length (wt ws) (wg ws) (λj=>decide (0 < keeps ws j)) j)->Q (.ref d) H')->sp_closed K vs H Q E
def zKD (T:Txt P K mg t):FnOk P w K mg base CX0 41 t.wCX t.wCY ["_law_count","_law_ways"] (sp_closed K):=by
 refine T.wER.ok zBy ⟨⟩ ();obtain⟨n,r,rs,ws,rfl,wa,wo,n9,q⟩:=h;refine⟨_,(zC (zBe (i:=2) zBy.nd rfl (Or.inr rfl) (zA8 ["_law_part"] [none] (by kernel_rfl) rfl (zAa K (cal (zGg T) hr T.wDm T.wCv T.wDl (zQ (pv 0) (pv 1) zE zA zA))) (λ_ _ _ _ _=>(zJ (i:=0) ndB rfl (Or.inl rfl))) (λ_ _ _ _ _=>zAw) (λ_ _ _ _ _=>(zBL zOs (pv 0) zH (zAg _)))))
  (zC (zAF 3 zBy.nd zAT)
  (zC (zGd PassesOwn.never (zA1 (pv 3)) (zC (zAF 3 zBy.nd zAT)
  (zF (zAr PassesOwn.never rfl (zAa K (pv 1)) (zAt K (n:=3) rfl (zP (zJ (i:=4) zBy.nd rfl (Or.inl rfl)) (zP (zJ (i:=5) zBy.nd rfl (Or.inl rfl)) (zP (zJ (i:=6) zBy.nd rfl (Or.inl rfl)) zAp)))) (zF (zAs (PW.pt (zEA (zA1 (zAA K (pv 2) (pv 5))) (zDC (zAG (zA1 (zAA K (pv 2) (pv 4))))))) (zC (zDR zAT (zFA (pv 2) (pv 4) zAX))
  (zF (zAF 3 zBy.nd zAT))) zZ))))))
  (zF (zT (zA8 ["_law_k","_law_safe"] [none,some 2] (by kernel_rfl) rfl (zAi rfl T.wAg (zG (pv 0) zE zA)) (λ_ _ _ _ _=>(zJ (i:=0) ndB rfl (Or.inl rfl))) (λ_ _ _ _ _=>(zC0 (zAG (zA1 (zAA K (pv 1) (pv 0)))))) (λ_ _ _ _ _=>(pv 0)))))))),?_⟩
 refine⟨_,rfl,_,rfl,n,r,rs,ws,rfl,wa,wo.g,n9,λkp H0 jR sk ek=>⟨kp,rfl,⟨_,SqL.of ek⟩,λd hd=>?_⟩⟩;refine zAl (K:=K) (ys:=tab n λh=>V.int (keeps ws h)) (λi σ' H'=>∃v,σ'=[v]/\H'=upd H0 d (.lst (tab i λj=>V.bl (decide (0 < keeps ws j))))) ⟨none,rfl,rfl⟩ (λj σ2 H2 _ ⟨_,_,e⟩=>by rw[e];exact SqL.of (zD hd _ _ _ ek)) ?_ ?_
 ·rintro i x σ' H' hx ⟨v,rfl,rfl⟩;obtain⟨hi,rfl⟩:=zA5 hx;refine⟨_,rfl,_,_,rfl,rfl,_,zB,by rw[zW];exact zAL ∅,_,rfl,?_⟩;rw[zBi,← zAD]
 rintro σ' H1 ⟨v,rfl,rfl⟩;rw[zW];have s0:=sk.trans (zD hd (.lst (tab n λj=>V.bl (decide (0 < keeps ws j)))));have cZ:H d=none:=sk.free hd;refine⟨λm σ' H'=>∃(b:Bool) (f:Nat->Bool) (u v w:Option V),σ'=[some (.int (n:Nat)),some (.ref r),some (.ref d),some (.bl b),u,v,w]/\zAh H H'/\H' d=some (.lst (tab n λj=>V.bl (f j)))/\Mk n ws f/\(b=false->Clo ws.length (wt ws) (wg ws) f)/\m=2*(n-cnt f n)+(if b=true then 1 else 0),
  ⟨_,true,λj=>decide (0 < keeps ws j),_,_,_,rfl,s0,zB,⟨λj h=>wHM h,λj h=>.base h⟩,(λz=>by cases z),rfl⟩,?_⟩
 rintro m σ' H1 ⟨b,f,u,v,w,rfl,s1,ed,mk,cl,rfl⟩;cases b with
 | true=>
  refine⟨_,rfl,_,rfl,zG5 ?_⟩;have hc:=zIQ f n;refine⟨λσ' H'=>∃(b:Bool) (g:Nat->Bool) (u v w:Option V),σ'=[some (.int (n:Nat)),some (.ref r),some (.ref d),some (.bl b),u,v,w]/\zAh H H'/\H' d=some (.lst (tab n λj=>V.bl (g j)))/\Mk n ws g/\(b=true->cnt f n+1<=cnt g n)/\(b=false->g=f/\Clo ws.length (wt ws) (wg ws) f),?_,?_⟩
  ·rintro σ' H' ⟨b,g,u,v,w,rfl,sm,ed,mk,h1,h2⟩;have hc2:=zIQ g n;refine⟨_,?_,b,g,u,v,w,rfl,sm,ed,mk,λz=>by obtain⟨e,c⟩:=h2 z;rw[e];exact c,rfl⟩;cases b with
   | true=>have:=h1 rfl;simp only[if_true];omega
   | false=>obtain⟨e,_⟩:=h2 rfl;rw[e];simp
  refine⟨_,rfl,r,rfl,⟨_,s1.seq wa.sq⟩,zAx (K:=K) (a:=r) (xs:=rs) (λi σ' H'=>∃(b:Bool) (g:Nat->Bool) (u v w:Option V),σ'=[some (.int (n:Nat)),some (.ref r),some (.ref d),some (.bl b),u,v,w]/\zAh H H'/\H' d=some (.lst (tab n λj=>V.bl (g j)))/\Mk n ws g/\(∀j,f j=true->g j=true)/\(b=true->cnt f n+1<=cnt g n)/\(b=false->g=f/\∀k,k < i->f (wt ws k)=true->f (wg ws k)=true))
   ⟨false,f,_,_,_,rfl,s1,ed,mk,λ_ z=>z,(λz=>by cases z),λ_=>⟨rfl,λk hk=>absurd hk (wHA _)⟩⟩ (λj σ' H' _ ⟨_,_,_,_,_,_,sm,_⟩=>sm.seq wa.sq) ?_ ?_⟩
  ·rintro i x σ' H' hx ⟨b,g,u,v,w,rfl,sm,ed,mk,le,h1,h2⟩;have hj:i < ws.length:=by rw[← wa.len];exact (wIy hx).1
   obtain⟨q',e1,e2⟩:=wa.at_ i hj;have ex:x=.ref q':=by rw[e1] at hx;exact (wHo hx).symm
   subst ex;have ht:=wo.t i hj;have hg:=wo.g i hj;have stay:¬(g (wt ws i)=true/\¬g (wg ws i)=true)->(b=false->g=f/\∀k,k < i+1->f (wt ws k)=true->f (wg ws k)=true):=λno z=>by
    obtain⟨e,c⟩:=h2 z;refine⟨e,λk hk hf=>?_⟩;by_cases e3:k=i
    ·subst e3;rw[e] at no;exact wHW λy=>no ⟨hf,y⟩
    exact c k ∅ hf
   refine⟨q',_,rfl,SqT.of (sm _ _ e2),rfl,_,_,rfl,_,_,rfl,_,_,rfl,rfl,?_⟩;refine⟨_,rfl,_,rfl,d,_,_,_,rfl,rfl,SqL.of ed,zAk ht,_,rfl,zCH (λc=>?_) (λc=>?_)⟩
   ·refine⟨_,rfl,_,rfl,d,_,_,_,rfl,rfl,SqL.of ed,zAk hg,_,rfl,zCH (λc2=>?_) (λc2=>?_)⟩
    ·have c3:¬g (wg ws i)=true:=λz=>by have c4:(!g (wg ws i))=true:=c2;rw[z] at c4;cases c4
     have up:∀j,g j=true->(if j=wg ws i then true else g j)=true:=λj z=>by split;rfl;exact z
     refine⟨_,rfl,_,rfl,d,_,_,_,rfl,rfl,ed,zBp hg,true,λj=>if j=wg ws i then true else g j,_,_,_,rfl,zY sm cZ _,?_,⟨λj z=>up j (mk.base j z),λj z=>?_⟩,λj z=>up j (le j z),λ_=>?_,(λz=>by cases z)⟩
     ·rw[zB,zCq];refine congrArg (λl=>some (HO.lst l)) (zA0 λj _=>?_);by_cases e:j=wg ws i
      ·simp[e]
      simp[e]
     ·by_cases e:j=wg ws i
      ·rw[e];exact .step hj (mk.snd _ c)
      simp only[wHj e] at z;exact mk.snd j z
     have:=zGw le n;have:=zGv (f:=g) (g:=λj=>if j=wg ws i then true else g j) up c3 (by simp) hg;omega
    have c3:g (wg ws i)=true:=wHW λz=>c2 (by show (!g (wg ws i))=true;rw[wIB z];rfl);exact⟨b,g,_,_,_,rfl,sm,ed,mk,le,h1,stay λz=>z.2 c3⟩
   exact zB8 ⟨b,g,_,_,_,rfl,sm,ed,mk,le,h1,stay λz=>c z.1⟩
  rintro σ' H' ⟨b,g,u,v,w,rfl,sm,ed,mk,le,h1,h2⟩;exact⟨b,g,u,v,w,rfl,sm,ed,mk,h1,λz=>by obtain⟨e,c⟩:=h2 z;rw[wa.len] at c;exact⟨e,c⟩⟩
 | false=>
  refine⟨_,rfl,_,rfl,zB8 ?_⟩;have hf:=mk.iff (cl rfl);refine⟨_,rfl,(n:Nat),rfl,by omega,by omega,λg hg=>?_⟩;refine zBt (n:=((n:Nat):Int).toNat) (λi σ' H'=>∃v,σ'=[v,some (.ref d)]/\H'=upd H1 g (.lst ((plc (λj=>!f j) i).map V.int))) ⟨none,rfl,rfl⟩ ?_ ?_
  ·rintro i σ' H' hi ⟨v,rfl,rfl⟩;have pl:=zDE (λj=>!f j) i;refine⟨_,rfl,_,rfl,d,_,_,_,rfl,rfl,SqL.of (zD hg _ _ _ ed),zH0 ∅ ∅,_,rfl,zCH (λc1=>?_) (λc1=>?_)⟩
   ·rw[show (0+(i:Int)).toNat=i by omega] at c1;refine⟨_,rfl,_,zB,by rw[wHf];exact zAL ∅,_,rfl,?_⟩;rw[zBi,show plc (λj=>!f j) (i+1)=plc (λj=>!f j) i++[(i:Int)] by show (if _ then _ else _)=_;rw[wHl c1],show (0+(i:Int))=i by omega,zBX]
   rw[show (0+(i:Int)).toNat=i by omega] at c1;exact⟨_,rfl,by rw[show plc (λj=>!f j) (i+1)=plc (λj=>!f j) i by show (if _ then _ else _)=_;rw[wHj c1]]⟩
  rintro σ' H' ⟨v,rfl,rfl⟩;rw[wHS];exact q g f _ (s1.free hg) (s1.trans (zD hg _)) zB hf
open Classical in
noncomputable def shB (L:Wys):Nat->Bool:=λj=>decide (¬RL L j)
open Classical in
theorem zD4 {L:Wys} {j:Nat}:shB L j=true↔¬RL L j:=by unfold shB;exact decide_eq_true_iff
theorem zHV {f g:Nat->Bool}:∀{n:Nat},(∀j,j < n->f j=g j)->plc f n=plc g n
 | 0,_=>rfl
 | n+1,h=>by show (if _ then _ else _)=(if _ then _ else _);rw[h n ∅,zHV λj hj=>h j ∅]
theorem zNe {f:Nat->Bool} {n:Nat} {x:Int} (h:x∈plc f n):0<=x/\x < n/\f x.toNat=true:=by obtain⟨j,hj,hb,e⟩:=zCn.mp h;subst e;exact⟨by omega,by omega,by rw[wHS];exact hb⟩
def OvD (ws:List W5) (w:W5):Prop:=∃d,w.2.2.2.1<=d/\d<=w.2.2.2.2/\1000 < zDS (wyL (ws++[w]) d) w.1.toNat
noncomputable def zGE (n:Nat) (ws:List W5) (w:W5) (d:Int):List Int:=plc (shB (wyL (ws++[w]) d)) n
def ShD (n:Nat) (ws:List W5) (w:W5) (d:Int):Prop:=w.2.2.2.1<=d/\d<=w.2.2.2.2/\zGE n ws w d≠[]/\∀e,w.2.2.2.1<=e->e < d->zGE n ws w e=[]
theorem zI3 {ns:List Str} (nd:ns.Nodup) {ws:List W5} {w:W5} (ok:∀p∈ws++[w],OkN ns.length p) (d:Int):zBx ns (ws.map (pOf ns)++[pOf ns w]) d=zGE ns.length ws w d:=by unfold zBx zGE;refine zHV λj _=>?_;rw[Bool.eq_iff_iff,zGD,zD4,zBo,zB3 nd ok];exact not_congr ⟨zOf,zOe⟩
def zNP {n:Nat} {ws:List W5} {w:W5} (g:GoodB n ws) {d:Int} (h:¬(w.2.2.2.1<=d/\d<=w.2.2.2.2)):zGE n ws w d=[]:=by unfold zGE;rw[zC4,wHj λz=>h (zCm.mp z)];refine List.eq_nil_iff_forall_not_mem.mpr λz hz=>?_;obtain⟨j,hj,hb,_⟩:=zCn.mp hz;exact (zD4.mp hb) (g.opn d j hj)
def zQe {ns:List Str} (nd:ns.Nodup) {w:W5} (o:OkN ns.length w):ns.idxOf (pOf ns w).1=w.1.toNat:=zFI nd (by have:=o.g;omega)
def zMy {ns:List Str} (nd:ns.Nodup) {ws:List W5} {w:W5} (g:GoodB ns.length ws) (o:OkN ns.length w):NewOk ns (ws.map (pOf ns)) (pOf ns w):=by refine⟨by rw[zBo];exact zDU nd (zBN g.ok o),λd x hx=>?_⟩;rw[zBo,zB3 nd (zBN g.ok o),zBf];exact zHY g d λz=>hx (by rw[zQe nd o,z])
def zPJ {ns:List Str} (nd:ns.Nodup) {ws:List W5} {w:W5} (g:GoodB ns.length ws) (o:OkN ns.length w):zJ8 ns (ws.map (pOf ns)) (pOf ns w)↔OvD ws w:=by
 have sp:=o.sp;unfold zJ8 OvD;rw[zQe nd o,zBo];constructor
 ·rintro⟨d,h0,h1,h⟩;rw[zB3 nd (zBN g.ok o),zBf] at h;by_cases c:w.2.2.2.1<=d/\d<=w.2.2.2.2
  ·exact⟨d,c.1,c.2,h⟩
  rw[zC4,wHj λz=>c (zCm.mp z)] at h;have:=g.out d w.1.toNat;omega
 rintro⟨d,h0,h1,h⟩;refine⟨d,by omega,by omega,?_⟩;rw[zB3 nd (zBN g.ok o),zBf];exact h
def zOF {ns:List Str} (nd:ns.Nodup) {ws:List W5} {w:W5} (g:GoodB ns.length ws) (o:OkN ns.length w) {d:Int} (f:zFl ns (ws.map (pOf ns)++[pOf ns w]) d):ShD ns.length ws w d:=by obtain⟨h0,h1,h2,h3⟩:=f;have sp:=o.sp;rw[zI3 nd (zBN g.ok o)] at h2;have c:w.2.2.2.1<=d/\d<=w.2.2.2.2:=wHW λz=>h2 (zNP g z);refine⟨c.1,c.2,h2,λe e0 e1=>?_⟩;rw[← zI3 nd (zBN g.ok o)];exact h3 e ∅ e1
def zMx {ns:List Str} (nd:ns.Nodup) {ws:List W5} {w:W5} (g:GoodB ns.length ws) (o:OkN ns.length w) (f:zH4 ns (ws.map (pOf ns)++[pOf ns w])) (d:Int) (h0:w.2.2.2.1<=d) (h1:d<=w.2.2.2.2):zGE ns.length ws w d=[]:=by have sp:=o.sp;rw[← zI3 nd (zBN g.ok o)];exact f d ∅ ∅
def zNO {n:Nat} {ws:List W5} {w:W5} {d e:Int} (h:ShD n ws w d) (k:ShD n ws w e):d=e:=by
 obtain⟨a0,a1,a2,a3⟩:=h;obtain⟨b0,b1,b2,b3⟩:=k;rcases Int.lt_trichotomy d e with z | z | z
 ·exact absurd (b3 d a0 z) a2
 ·exact z
 exact absurd (a3 e b0 z) b2
def zQg {n:Nat} {ws:List W5} {w:W5} (g:GoodB n ws) (o:OkN n w) (aZ:¬OvD ws w) (bN:∀d,w.2.2.2.1<=d->d<=w.2.2.2.2->zGE n ws w d=[]):GoodB n (ws++[w]):=by
 refine⟨zBN g.ok o,λd j=>?_,λd j hj=>?_⟩
 ·by_cases c:w.1.toNat=j
  ·rw[← c];by_cases e:w.2.2.2.1<=d/\d<=w.2.2.2.2
   ·exact Int.not_lt.mp λz=>aZ ⟨d,e.1,e.2,z⟩
   rw[zC4,wHj λz=>e (zCm.mp z)];exact g.out d _
  exact zHY g d c
 by_cases e:w.2.2.2.1<=d/\d<=w.2.2.2.2
 ·refine wHW λz=>?_;have:((j:Nat):Int)∈zGE n ws w d:=zCn.mpr ⟨j,hj,zD4.mpr z,rfl⟩;rw[bN d e.1 e.2] at this;cases this
 rw[zC4,wHj λz=>e (zCm.mp z)];exact g.opn d j hj
def zDX (ns:List Str):zI (ns.map Deed.house)=ns:=by
 induction ns with
 | nil=>rfl
 | cons n r ih=>show n::zI (r.map Deed.house)=_;rw[ih]
theorem zGP (ns:List Str):zU (ns.map Deed.house)=[]:=by
 induction ns with
 | nil=>rfl
 | cons n r ih=>exact ih
def zMF {ns:List Str} (nd:ns.Nodup) {i:Nat} {n:Str} (h:ns[i]?=some n):n∉ns.take i:=by intro z;obtain⟨j,hj,e⟩:=List.getElem_of_mem z;rw[wHD] at hj;rw[List.getElem_take] at e;obtain⟨hi,e2⟩:=wIy h;have:j=i:=(List.getElem_inj (h₀:=by omega) (h₁:=hi) nd).mp (e.trans e2.symm);omega
def zJG {ns:List Str} (nd:ns.Nodup) (ok:∀n∈ns,zJ9 n) (l:ns.length<=15) {i:Nat} {n:Str} (h:ns[i]?=some n):zNk ((ns.take i).map Deed.house) n=none:=by have hi:=(wIy h).1;unfold zNk;rw[zDX,wHl (ok n (wHO h)),wHj (zMF nd h),wHj (by rw[wHD];omega)]
theorem sIx_nat (n d k:Nat):HT.sIx n d (some ((k:Nat):Int))=min k n:=by unfold HT.sIx;simp;intro h;omega
def pD (p:Pct):Deed:=.pact p.1 p.2.1 p.2.2.1 p.2.2.2.1 p.2.2.2.2
def zMj (ps:List Pct):zU (ps.map pD)=ps:=by
 induction ps with
 | nil=>rfl
 | cons n r ih=>show n::zU (r.map pD)=_;rw[ih]
theorem zM0 (ps:List Pct):zI (ps.map pD)=[]:=by
 induction ps with
 | nil=>rfl
 | cons n r ih=>exact ih
def bkP (ns:List Str) (ps:List Pct):List Deed:=ns.map Deed.house++ps.map pD
def zHv (ns:List Str) (ps:List Pct):zI (bkP ns ps)=ns:=by unfold bkP;rw[zEO,zDX,zM0,wHR]
theorem zFc (ns:List Str) (ps:List Pct):zU (bkP ns ps)=ps:=by unfold bkP;rw[zEG,zGP,zMj,List.nil_append]
theorem zMR (ns:List Str) (ps:List Pct) (p:Pct):bkP ns (ps++[p])=bkP ns ps++[pD p]:=by unfold bkP;rw[wHr,wHU];rfl
def zIs (ns:List Str) (ps:List Pct):(bkP ns ps).length=ns.length+ps.length:=by unfold bkP;rw[wHp,wHf,wHf]
theorem zAh.keep {H H1 H2:Hp} {tl:Addr} (s:zAh H H1) (n:H tl=none) (k:zDy tl H1 H2):zAh H H2:=λb u e=>k b u (λz=>by rw[z,n] at e;cases e) (s b u e)
def zPs {ns:List Str} {k:Int} (h0:0<=k) (h1:k < ns.length):atI (ns.map V.str) k=some (.str (ns.getD k.toNat Str.empty)):=by
 have hk:k.toNat < ns.length:=by omega
 exact zAB h0 (by rw[wHn,wHg hk,wHh,wHg hk];rfl)
inductive sp_gcd (K:W.Frag) (vs:List V) (H:Hp) (Q:VK) (E:XK):Prop
 | mk (a b:Int):vs=[.int a,.int b]->(Q (.int (Nat.gcd a.natAbs b.natAbs:Nat)) H)->sp_gcd K vs H Q E
def zKC (T:Txt P K mg t):FnOk P w K mg base CX0 40 t.wFu t.wFv ["_law_one","_law_two"] (sp_gcd K):=by
 refine T.wEe.ok zF7 ⟨⟩ ();obtain⟨a,b,rfl,q⟩:=h;refine⟨_,(zC (zAF 2 zF7.nd (zR zDu rfl T.wDs PyProof.Rows.boot_abs (zG (pv 0) zE zA)))
  (zC (zAF 3 zF7.nd (zR zDu rfl T.wDs PyProof.Rows.boot_abs (zG (pv 1) zE zA)))
  (zC (zGd PassesOwn.never (zAb zDF (pv 3) zH (zAg _)) (zC (zAF 4 zF7.nd (zV zAu (pv 2) (pv 3)))
  (zC (zAF 2 zF7.nd (pv 3))
  (zF (zAF 3 zF7.nd (pv 4))))))
  (zF (zT (pv 2)))))),?_⟩
 refine⟨_,rfl,_,rfl,_,rfl,_,rfl,?_⟩;refine⟨λm σ H1=>∃(n k:Nat) (r:Option V),m=k/\H1=H/\σ=[some (.int a),some (.int b),some (.int (n:Int)),some (.int (k:Int)),r]/\Nat.gcd n k=Nat.gcd a.natAbs b.natAbs,⟨b.natAbs,a.natAbs,b.natAbs,none,rfl,rfl,?_,rfl⟩,?_⟩
 ·rw[zFf,zFf];rfl
 rintro m σ H1 ⟨n,k,r,rfl,rfl,rfl,e⟩;refine⟨_,rfl,rfl,_,rfl,?_⟩;refine zCH (λc=>?_) (λc=>?_)
 ·have k0:m≠0:=λz=>by subst z;revert c;decide
  refine⟨λσ' H'=>H'=H1/\σ'=[some (.int a),some (.int b),some (.int (m:Int)),some (.int ((n%m:Nat):Int)),some (.int ((n%m:Nat):Int))],?_,?_⟩
  ·rintro σ' H' ⟨rfl,rfl⟩;exact⟨n%m,Nat.mod_lt _ (Nat.pos_of_ne_zero k0),m,n%m,_,rfl,rfl,rfl,by rw[← e,Nat.gcd_comm n m,Nat.gcd_rec m n,Nat.gcd_comm (n%m) m]⟩
  refine⟨_,rfl,_,rfl,_,_,rfl,rfl,(by show (0:Int) < _;omega),_,rfl,_,rfl,rfl,?_⟩;rw[Int.natCast_emod];rfl
 have k0:m=0:=by
  by_cases z:m=0
  ·exact z
  exact absurd (by simp[z]) c
 subst k0;rw[Nat.gcd_zero_right] at e;rw[← e] at q;exact⟨_,rfl,q⟩
inductive sp_fraction (K:W.Frag) (vs:List V) (H:Hp) (Q:VK) (E:XK):Prop
 | mk (p:Addr) (x y:Int):vs=[.ref p]->(H p=some (.tup [.int x,.int y])/\0 < y/\Nat.gcd x.natAbs y.natAbs=1/\Q (.bl true) H)->sp_fraction K vs H Q E
def zIb (T:Txt P K mg t):FnOk P w K mg base CX0 41 t.wBT t.wBU ["_law_found"] (sp_fraction K):=by
 refine T.wDn.ok zHJ ⟨⟩ ();obtain⟨p,x,y,rfl,e,hy,g,q⟩:=h;refine⟨_,(zC (zAs (PW.pt (zDB (zAG (zA1 (zR (zAy K) rfl T.wAb wHt (zQ (pv 0) (zBC (v:=.ty "tuple") rfl T.wFr PyProof.Rows.boot_tuple rfl) zE zA zA)))) (zCp (zAb zDF (zR (zAd K) rfl T.wAh wHB (zG (pv 0) zE zA)) zH (zAg _))))) (zF (zT zAT)) zZ)
  (zC (zAs (PW.pt (zDB (zAG (zA1 (cal (zDl T) hr T.wBG T.wA3 T.wBF (zG (zBr K (pv 0) zH) zE zK)))) (zDB (zAG (zA1 (cal (zDl T) hr T.wBG T.wA3 T.wBF (zG (zBr K (pv 0) zH) zE zK)))) (zCp (zAb zFr (zBr K (pv 0) zH) zH (zAg _)))))) (zF (zT zAT)) zZ)
  (zF (zT (zBL zCB (cal (zKC T) hr T.wFF T.wEe T.wFE (zQ (zBr K (pv 0) zH) (zBr K (pv 0) zH) zE zK zK)) zH (zAg _)))))),?_⟩
 have ex:=SqT.of (K:=K) e;refine⟨_,rfl,_,_,_,_,rfl,.tup e,rfl,_,rfl,zB8 ?_⟩;refine⟨_,rfl,p,_,rfl,.inr ex,rfl,_,rfl,zEi rfl ?_⟩;refine⟨_,rfl,p,_,_,_,rfl,rfl,ex,rfl,.inl ⟨_,rfl,_,rfl,zB8 ?_⟩⟩;refine⟨_,rfl,p,_,_,_,rfl,rfl,ex,rfl,.inl ⟨_,rfl,_,rfl,zB8 ?_⟩⟩;refine⟨_,rfl,p,_,_,_,rfl,rfl,ex,rfl,_,_,rfl,rfl,_,rfl,zJw ∅ ?_⟩;refine⟨_,rfl,p,_,_,_,rfl,rfl,ex,rfl,_,rfl,p,_,_,_,rfl,rfl,ex,rfl,x,y,rfl,rfl,?_⟩;rw[g];exact q
inductive sp_fractions (K:W.Frag) (vs:List V) (H:Hp) (Q:VK) (E:XK):Prop
 | mk (d:Addr) (q:Nat->Addr) (n:Nat) (X Y:Nat->Int):vs=[.ref d,.int (n:Nat)]->(FrAt H d q n X Y/\FrOk n X Y/\n<=900/\Q (.bl true) H)->sp_fractions K vs H Q E
def zDV (T:Txt P K mg t):FnOk P w K mg base CX0 42 t.wBv t.wBw ["_law_found","_law_count"] (sp_fractions K):=by
 refine T.wBB.ok zDP ⟨⟩ ();obtain⟨d,q,n,X,Y,rfl,fa,fo,n9,k⟩:=h;refine⟨_,(zC (zAs (PW.pt (zDB (zAG (zA1 (zR (zAy K) rfl T.wAb wHt (zQ (pv 0) (zBC (v:=.ty "list") rfl T.wBh PyProof.Rows.boot_list rfl) zE zA zA)))) (zCp (zAb zDF (zR (zAd K) rfl T.wAh wHB (zG (pv 0) zE zA)) (pv 1) (zAg _))))) (zF (zT zAT)) zZ)
  (zC (zAr PassesOwn.never rfl (zAa K (pv 0)) (zJ (i:=2) zDP.nd rfl (Or.inl rfl)) (zF (zAs (zAG (zA1 (cal (zIb T) hr T.wFH T.wDn T.wFG (zG (pv 2) zE zA)))) (zF (zT zAT)) zZ)))
  (zF (zT zAT)))),?_⟩
 refine⟨_,rfl,_,_,_,_,rfl,.lst fa.top,rfl,_,rfl,zB8 ?_⟩;refine⟨_,rfl,d,_,rfl,.inl (SqL.of fa.top),_,rfl,rfl,_,rfl,zEi (vi (by rw[zW])) ?_⟩;refine⟨_,rfl,d,rfl,⟨_,SqL.of fa.top⟩,zAx (K:=K) (a:=d) (xs:=tab n λi=>V.ref (q i)) (λi σ' H'=>∃u,σ'=[some (.ref d),some (.int (n:Nat)),u]/\H'=H) ⟨_,rfl,rfl⟩ (λi σ' H' _ ⟨_,_,e⟩=>by rw[e];exact SqL.of fa.top) ?_ ?_⟩
 ·rintro i x σ' H' hx ⟨u,rfl,rfl⟩;obtain⟨hi,rfl⟩:=zA5 hx;refine⟨_,rfl,q i,X i,Y i,rfl,fa.row i hi,fo.pos i hi,fo.one i hi,_,rfl,zB8 ⟨_,rfl,rfl⟩⟩
 rintro σ' H' ⟨u,rfl,rfl⟩;exact k
def zJv {low y:Int} (hl:0 < low) (hy:0 < y):∃w,0 < w/\low.fdiv (Nat.gcd low.natAbs y.natAbs:Nat)=w/\w.natAbs<=low.natAbs/\low ∣ w*y/\(Nat.gcd low.natAbs y.natAbs:Nat)≠0:=by
 have g0:0 < Nat.gcd low.natAbs y.natAbs:=Nat.gcd_pos_of_pos_left _ ∅;have g1:Nat.gcd low.natAbs y.natAbs≠0:=by omega
 have d1:((Nat.gcd low.natAbs y.natAbs:Nat):Int) ∣ low:=Int.ofNat_dvd_left.mpr (Nat.gcd_dvd_left _ _);have d2:((Nat.gcd low.natAbs y.natAbs:Nat):Int) ∣ y:=Int.ofNat_dvd_left.mpr (Nat.gcd_dvd_right _ _);have e1:=zDr ∅ d1;obtain⟨z,hz⟩:=d2;have gp:(0:Int) < (Nat.gcd low.natAbs y.natAbs:Nat):=by omega
 generalize ((Nat.gcd low.natAbs y.natAbs:Nat):Int)=g at *;generalize low.fdiv g=w at *;have wp:0 < w:=zCZ gp ∅;refine⟨w,wp,rfl,?_,⟨z,?_⟩,g1⟩
 ·rw[← e1,wIs];exact Nat.le_mul_of_pos_left _ ∅
 rw[hz,← e1]
 grind
inductive sp_joint (K:W.Frag) (vs:List V) (H:Hp) (Q:VK) (E:XK):Prop
 | mk (d:Addr) (q:Nat->Addr) (n:Nat) (X Y:Nat->Int):vs=[.ref d]->(FrAt H d q n X Y/\FrOk n X Y/\n<=15/\
 ∀(l t:Addr) (low:Int) (aA:Nat->Int) (H':Hp),H l=none->H t=none->zAh H H'->H' l=some (.lst [.int low,.ref t])->H' t=some (.lst (tab n λi=>V.int (aA i)))->0 < low->(∀i,i < n->aA i*Y i=X i*low)->Bt 7000000 low->(∀i,i < n->Bt 7000000 (aA i))->Q (.ref l) H')->sp_joint K vs H Q E
def zIG (T:Txt P K mg t):FnOk P w K mg base CX0 41 t.wDI t.wDJ ["_law_fractions_here"] (sp_joint K):=by
 refine T.wDT.ok zDa ⟨⟩ ();obtain⟨d,q,n,X,Y,rfl,fa,fo,aI,k⟩:=h;refine⟨_,(zC (zBe (i:=1) zDa.nd rfl (Or.inr rfl) zH)
  (zC (zAr PassesOwn.never rfl (zAa K (pv 0)) (zAt K (n:=2) rfl (zP (zJ (i:=2) zDa.nd rfl (Or.inl rfl)) (zP (zJ (i:=3) zDa.nd rfl (Or.inl rfl)) zAp))) (zF (zBe (i:=1) zDa.nd rfl (Or.inr rfl) (zV zBs (zV (zB5 hr ⋯ T.tree ⟨_,_,rfl,rfl,rfl,rfl,rfl⟩) (pv 1) (cal (zKC T) hr T.wFF T.wEe T.wFE (zQ (pv 1) (pv 3) zE zA zA))) (pv 3)))))
  (zF (zT (zAo (zQ (pv 1) (zA8 ["_law_top","_law_bottom","_law_low"] [none,none,some 1] (by kernel_rfl) rfl (zAa K (pv 0)) (λ_ _ _ _ _=>(zAt K (n:=2) rfl (zP (zJ (i:=0) ndB rfl (Or.inl rfl)) (zP (zJ (i:=1) ndB rfl (Or.inl rfl)) zAp)))) (λ_ _ _ _ _=>zAw) (λ_ _ _ _ _=>(zV zBs (pv 0) (zV (zB5 hr ⋯ T.tree ⟨_,_,rfl,rfl,rfl,rfl,rfl⟩) (pv 2) (pv 1))))) zE zA zAq)))))),?_⟩
 refine⟨_,rfl,d,rfl,⟨_,SqL.of fa.top⟩,zAx (K:=K) (a:=d) (xs:=tab n λi=>V.ref (q i)) (λi σ' H'=>∃(low:Int) (u v:Option V),σ'=[some (.ref d),some (.int low),u,v]/\H'=H/\0 < low/\(∀k,k < i->Y k ∣ low)/\Bt (400000*i+1) low)
  ⟨1,_,_,rfl,rfl,by decide,λk hk=>absurd hk (wHA _),by show 1 < 2 ^ 1;decide⟩ (λi σ' H' _ ⟨_,_,_,_,e,_⟩=>by rw[e];exact SqL.of fa.top) ?_ ?_⟩
 ·rintro i x σ' H' hx ⟨low,u,v,rfl,rfl,l0,dv,bl⟩;obtain⟨hi,rfl⟩:=zA5 hx;have yp:=fo.pos i hi;obtain⟨w',w0,ew,wl,lw,g0⟩:=zJv l0 yp;refine⟨q i,_,rfl,SqT.of (fa.row i hi),rfl,_,_,rfl,_,_,rfl,rfl,?_⟩;have bw:Bt (400000*i+1) w':=wHK wl bl;refine⟨_,rfl,_,rfl,_,rfl,low,Y i,rfl,_,_,rfl,rfl,(by show ((Nat.gcd low.natAbs (Y i).natAbs:Nat):Int)≠0;omega),_,rfl,_,_,rfl,rfl,?_,?_⟩
  ·show IntMulOk (low.fdiv (Nat.gcd low.natAbs (Y i).natAbs:Nat)) (Y i);rw[ew];exact zAO bw (fo.by_ i hi) ∅
  refine⟨low.fdiv (Nat.gcd low.natAbs (Y i).natAbs:Nat)*Y i,_,_,rfl,rfl,?_,λk hk=>?_,?_⟩
  ·rw[ew];exact wIv w0 yp
  ·rw[ew];by_cases e:k=i
   ·subst e;exact Int.dvd_mul_left _ _
   exact Int.dvd_trans (dv k ∅) lw
  rw[ew];exact (bw.mul (fo.by_ i hi)).mono ∅
 rintro σ' H1 ⟨low,u,v,rfl,rfl,l0,dv,bl⟩;rw[zW] at dv bl;refine⟨_,rfl,_,rfl,d,rfl,⟨_,SqL.of fa.top⟩,λc hc=>?_⟩;refine zAl (K:=K) (ys:=tab n λi=>V.ref (q i)) (λi σ' H'=>∃u v,σ'=[u,v,some (.int low)]/\H'=upd H1 c (.lst (tab i λj=>V.int (X j*low.fdiv (Y j))))) ⟨none,none,rfl,rfl⟩ (λj σ2 H2 _ ⟨_,_,_,e⟩=>by rw[e];exact SqL.of (zD hc _ _ _ fa.top)) ?_ ?_
 ·rintro i x σ' H' hx ⟨u,v,rfl,rfl⟩;obtain⟨hi,rfl⟩:=zA5 hx;have yp:=fo.pos i hi;have ey:=zDr yp (dv i hi);have bq:Bt (400000*n+1) (low.fdiv (Y i)):=Bt.div yp (by rw[ey];exact bl);refine⟨q i,_,rfl,SqT.of (zD hc _ _ _ (fa.row i hi)),rfl,_,_,rfl,_,_,rfl,rfl,?_⟩;refine⟨_,rfl,_,rfl,_,rfl,_,_,rfl,rfl,(by show Y i≠0;omega),_,_,rfl,rfl,zAO (fo.bx i hi) bq ∅,_,zB,by rw[zW];exact zAL ∅,_,_,rfl,?_⟩;rw[zBi,← zAD]
 rintro σ' H2 ⟨u,v,rfl,rfl⟩;rw[zW];refine⟨zAz,λl hl=>?_⟩;have s1:=zD hc (.lst (tab n λj=>V.int (X j*low.fdiv (Y j))));refine k l c low _ _ (s1.free hl) hc (s1.trans (zD hl _)) zB (zD hl _ _ _ zB) l0 (λi hi=>?_) (bl.mono ∅) λi hi=>?_
 ·have ey:=zDr (fo.pos i hi) (dv i hi);show X i*low.fdiv (Y i)*Y i=X i*low;rw[Int.mul_assoc,wH1 (low.fdiv _),ey]
 have ey:=zDr (fo.pos i hi) (dv i hi);have bq:Bt (400000*n+1) (low.fdiv (Y i)):=Bt.div (fo.pos i hi) (by rw[ey];exact bl);exact ((fo.bx i hi).mul bq).mono ∅
inductive sp_papered (K:W.Frag) (vs:List V) (H:Hp) (Q:VK) (E:XK):Prop
 | mk (d r:Addr) (q:Nat->Addr) (n s0:Nat) (X Y:Nat->Int) (rs:List V) (ws:Wys):vs=[.ref d,.int (n:Nat),.ref r,.int (s0:Nat)]->(FrAt H d q n X Y/\FrOk n X Y/\WyAt K H r rs ws/\WyOk n ws/\s0 < n/\n<=15/\
 (∀(x:Nat->Int) (l:Int),(∀i,i < n->x i*Y i=X i*l)->Sol n (M0 n ws s0) x l)/\∀H',zAh H H'->Q (.bl true) H')->sp_papered K vs H Q E
def zJp (T:Txt P K mg t):FnOk P w K mg base CX0 43 t.wCq t.wCr ["_law_found","_law_count","_law_ways","_law_start"] (sp_papered K):=by
 refine T.wD2.ok zBc ⟨⟩ ();obtain⟨d,r,q,n,s0,X,Y,rs,ws,rfl,fa,fo,wa,wo,sn,aI,key,k⟩:=h;refine⟨_,(zC (zAs (zAG (zA1 (cal (zDV T) hr T.wCO T.wBB T.wCN (zQ (pv 0) (pv 1) zE zA zA)))) (zF (zT zAT)) zZ)
  (zC (zDR (cal (zIG T) hr T.wFo T.wDT T.wFn (zG (pv 0) zE zA)) (zNf rfl (zP (zJ (i:=4) zBc.nd rfl (Or.inl rfl)) (zP (zJ (i:=5) zBc.nd rfl (Or.inl rfl)) zAp))))
  (zC (zAF 6 zBc.nd (zV zIE (zAo (zG zH zE zM)) (pv 1)))
  (zC (zDR (zV zDT zH (pv 4)) (zFA (pv 6) (pv 3) zAX))
  (zC (zAr PassesOwn.never rfl (zAa K (pv 2)) (zAt K (n:=3) rfl (zP (zJ (i:=7) zBc.nd rfl (Or.inl rfl)) (zP (zJ (i:=8) zBc.nd rfl (Or.inl rfl)) (zP (zJ (i:=9) zBc.nd rfl (Or.inl rfl)) zAp)))) (zF (zDD (pv 6) (pv 8) zC8 (zV zDT (pv 9) (zAA K (pv 5) (pv 7))) zKY zAX)))
  (zC (zAr PassesOwn.never rfl (zAi rfl T.wAg (zG (pv 1) zE zA)) (zJ (i:=10) zBc.nd rfl (Or.inl rfl)) (zF (zAs (PW.pt (zDB (zAb zFr (zAA K (pv 5) (pv 10)) zH (zAg _)) (zCp (zAb zDF (zAA K (pv 6) (pv 10)) (zV zDT zH (zAA K (pv 5) (pv 10))) (zAg _))))) (zF (zT zAT)) zZ)))
  (zF (zT zAT)))))))),?_⟩
 refine⟨_,rfl,_,rfl,d,q,n,X,Y,rfl,fa,fo,by omega,_,rfl,zB8 ?_⟩;refine⟨_,rfl,d,q,n,X,Y,rfl,fa,fo,aI,λl t low aA H1 hl ht s1 el et l0 tp _ _=>?_⟩;refine⟨l,_,rfl,SqL.of el,rfl,_,_,rfl,_,_,rfl,rfl,?_⟩;have so:=(zN1 wo).mp (key aA low tp);refine⟨szl,λl1 h1=>⟨_,rfl,l1,_,_,rfl,rfl,zB,by omega,by omega,?_,λcm hcm=>?_⟩⟩
 ·show 1*_<=sizeLine;exact small ∅
 have s2:=(zD h1 (.lst [V.int 0])).trans (zD hcm (.lst (List.replicate (n:Int).toNat [V.int 0]).flatten));have iJ:H1 cm=none:=(zD h1 _).free hcm;have e0:upd (upd H1 l1 (.lst [V.int 0])) cm (.lst (List.replicate (n:Int).toNat [V.int 0]).flatten) cm=some (.lst (tab n λ_=>V.int 0)):=by rw[zB,zP4,wHS,zFO]
 refine⟨_,rfl,_,_,rfl,rfl,.inl ⟨by decide,by decide⟩,_,rfl,_,rfl,cm,_,_,_,rfl,rfl,e0,zBp sn,?_⟩;have s3:=zY s2 iJ (.lst ((tab n λ_=>V.int 0).set s0 (.int (1000*low))));have fi:=wa.mono s1;refine⟨_,rfl,r,rfl,⟨_,(fi.mono s3).sq⟩,zAx (K:=K) (a:=r) (xs:=rs) (λj σ' H'=>∃u v w x,σ'=[some (.ref d),some (.int (n:Nat)),some (.ref r),some (.int (s0:Nat)),some (.int low),some (.ref t),some (.ref cm),u,v,w,x]/\zAh H1 H'/\H' cm=some (.lst (tab n λi=>V.int ((if i=s0 then 1000 else 0)*low+Sg (λk=>if wt ws k=i then wp ws k*aA (wg ws k) else 0) j))))
  ⟨_,_,_,_,rfl,s3,?_⟩ (λj σ' H' _ ⟨_,_,_,_,_,sm,_⟩=>(fi.mono sm).sq) ?_ ?_⟩
 ·rw[zB,zCq];refine congrArg (λl=>some (HO.lst l)) (zA0 λi _=>?_);show _=V.int ((if i=s0 then 1000 else 0)*low+0);by_cases e:i=s0
  ·rw[wHl e,wHl e,Int.add_zero]
  rw[wHj e,wHj e,Int.zero_mul];rfl
 ·rintro j x σ' H' hx ⟨u,v,w,y,rfl,sm,ec⟩;have hj:j < ws.length:=by rw[← wa.len];exact (wIy hx).1
  obtain⟨q',e1,e2⟩:=fi.at_ j hj;have ex:x=.ref q':=by rw[e1] at hx;exact (wHo hx).symm
  subst ex;have pj:=wo.p j hj;refine⟨q',_,rfl,SqT.of (sm _ _ e2),rfl,_,_,rfl,_,_,rfl,_,_,rfl,rfl,?_⟩;refine⟨_,rfl,_,rfl,cm,_,_,_,rfl,rfl,SqL.of ec,zAk (wo.t j hj),_,rfl,_,rfl,_,rfl,t,_,_,_,rfl,rfl,SqL.of (sm _ _ et),zAk (wo.g j hj),_,_,rfl,rfl,.inl ⟨by omega,by omega⟩,_,_,rfl,rfl,cm,_,_,_,rfl,rfl,ec,zBp (wo.t j hj),?_⟩;refine⟨_,_,_,_,rfl,zY sm iJ _,?_⟩;rw[zB,zCq];refine congrArg (λl=>some (HO.lst l)) (zA0 λi _=>?_);show _=V.int ((if i=s0 then 1000 else 0)*low+(Sg _ j+(if wt ws j=i then wp ws j*aA (wg ws j) else 0)));by_cases e:i=wt ws j
  ·subst e;rw[wHl rfl];have h1:(if wt ws j=wt ws j then wp ws j*aA (wg ws j) else 0)=wp ws j*aA (wg ws j):=wHl rfl;rw[h1];exact vi (Int.add_assoc _ _ _)
  rw[wHj e];have h1:(if wt ws j=i then wp ws j*aA (wg ws j) else 0)=0:=wHj (Ne.symm e);rw[h1,Int.add_zero]
 rintro σ' H2 ⟨u,v,w,y,rfl,sm,ec⟩;rw[wa.len] at ec;refine⟨_,rfl,(n:Nat),rfl,by omega,by omega,zA9 (n:=((n:Nat):Int).toNat) (λi σ' H'=>∃y,σ'=[some (.ref d),some (.int (n:Nat)),some (.ref r),some (.int (s0:Nat)),some (.int low),some (.ref t),some (.ref cm),u,v,w,y]/\H'=H2) ⟨_,rfl,rfl⟩ ?_ ?_⟩
 ·rintro i σ' H' hi ⟨y,rfl,rfl⟩;have aD:i < n:=by omega
  have iz:(0+(i:Int))=(i:Int):=by omega
  have bW:atI (tab n λk=>V.int (aA k)) (0+(i:Int))=some (V.int (aA i)):=by rw[iz];exact zAk aD
  have at2:atI (tab n λi=>V.int ((if i=s0 then 1000 else 0)*low+Sg (λk=>if wt ws k=i then wp ws k*aA (wg ws k) else 0) ws.length)) (0+(i:Int))=some (V.int (1000*aA i)):=by rw[iz,zAk aD,so i aD]
  have t0:¬aA i < 0:=by have h1:=zCG (fo.nn i aD) (wIn l0);rw[← tp i aD,wH1] at h1;have:=zEw (fo.pos i aD) h1;omega
  refine⟨_,rfl,_,rfl,t,_,_,_,rfl,rfl,SqL.of (sm _ _ et),bW,_,_,rfl,rfl,_,rfl,zJw t0 ?_⟩;exact⟨_,rfl,_,rfl,cm,_,_,_,rfl,rfl,SqL.of ec,at2,_,rfl,_,rfl,t,_,_,_,rfl,rfl,SqL.of (sm _ _ et),bW,_,_,rfl,rfl,.inl ⟨by decide,by decide⟩,rfl,_,rfl,zEi rfl ⟨_,rfl,rfl⟩⟩
 rintro σ' H' ⟨y,rfl,rfl⟩;exact k _ (s1.trans sm)
inductive sp_made (K:W.Frag) (vs:List V) (H:Hp) (Q:VK) (E:XK):Prop
 | mk (t b:Int):vs=[.int t,.int b]->(0 < b/\∀(p:Addr) (x y:Int),H p=none->Low t b x y->Q (.ref p) (upd H p (.tup [.int x,.int y])))->sp_made K vs H Q E
def zOv (T:Txt P K mg t):FnOk P w K mg base CX0 41 t.wEq t.wEr ["_law_top","_law_bottom"] (sp_made K):=by
 refine T.wF0.ok zJX ⟨⟩ ();obtain⟨a,b,rfl,hb,q⟩:=h;refine⟨_,(zC (zAF 2 zJX.nd (cal (zKC T) hr T.wFF T.wEe T.wFE (zQ (pv 0) (pv 1) zE zA zA)))
  (zF (zT (zAS (zQ (zV (zB5 hr ⋯ T.tree ⟨_,_,rfl,rfl,rfl,rfl,rfl⟩) (pv 0) (pv 2)) (zV (zB5 hr ⋯ T.tree ⟨_,_,rfl,rfl,rfl,rfl,rfl⟩) (pv 1) (pv 2)) zE zX zX))))),?_⟩
 have g0:0 < gI a b:=zDZ ∅;exact⟨_,rfl,_,rfl,a,b,rfl,_,rfl,_,rfl,_,_,rfl,rfl,(by show gI a b≠0;omega),_,rfl,_,rfl,_,_,rfl,rfl,(by show gI a b≠0;omega),zAz,λp hp=>q p _ _ hp (zKL hb)⟩
inductive sp_borne_of (K:W.Frag) (vs:List V) (H:Hp) (Q:VK) (E:XK):Prop
 | mk (d r:Addr) (q:Nat->Addr) (n:Nat) (X Y:Nat->Int) (rs:List V) (ws:Wys):vs=[.ref d,.int (n:Nat),.ref r]->(FrAt H d q n X Y/\FrOk n X Y/\WyAt K H r rs ws/\WyOk n ws/\n<=15/\
 ∀(b:Addr) (qb:Nat->Addr) (U W:Nat->Int) (H':Hp),H b=none->zAh H H'->FrAt H' b qb n U W->(∀i,i < n->Low (keeps ws i*X i) (1000*Y i) (U i) (W i))->Q (.ref b) H')->sp_borne_of K vs H Q E
def zId (T:Txt P K mg t):FnOk P w K mg base CX0 42 t.wBV t.wBW ["_law_paper","_law_count","_law_ways"] (sp_borne_of K):=by
 refine T.wDo.ok zE2 ⟨⟩ ();obtain⟨d,r,q,n,X,Y,rs,ws,rfl,fa,fo,wa,wo,aI,qq⟩:=h;refine⟨_,(zC (zBe (i:=3) zE2.nd rfl (Or.inr rfl) (cal (zGg T) hr T.wDm T.wCv T.wDl (zQ (pv 1) (pv 2) zE zA zA)))
  (zF (zT (zA8 ["_law_k","_law_keeps","_law_paper"] [none,some 3,some 0] (by kernel_rfl) rfl (zAi rfl T.wAg (zG (pv 1) zE zA)) (λ_ _ _ _ _=>(zJ (i:=0) ndB rfl (Or.inl rfl))) (λ_ _ _ _ _=>zAw) (λ_ _ _ _ _=>(cal (zOv T) hr T.wGT T.wF0 T.wGS (zQ (zV zDT (zAA K (pv 1) (pv 0)) (zBr K (zAA K (pv 2) (pv 0)) zH)) (zV zDT zH (zBr K (zAA K (pv 2) (pv 0)) zH)) zE zX zX))))))),?_⟩
 refine⟨_,rfl,_,rfl,n,r,rs,ws,rfl,wa,wo.g,by omega,λkp H2 jR s1 ek=>?_⟩;refine⟨_,rfl,(n:Nat),rfl,by omega,by omega,λc hc=>?_⟩;refine zBt (n:=((n:Nat):Int).toNat) (λi σ' H'=>∃(v:Option V) (qf:Nat->Addr) (U W:Nat->Int),σ'=[v,some (.ref kp),some (.ref d)]/\zAh H2 H'/\H' c=some (.lst (tab i λk=>V.ref (qf k)))/\∀k,k < i->H' (qf k)=some (.tup [.int (U k),.int (W k)])/\Low (keeps ws k*X k) (1000*Y k) (U k) (W k))
  ⟨none,λ_=>c,λ_=>0,λ_=>0,rfl,zD hc _,zB,λk hk=>absurd hk (wHA _)⟩ ?_ ?_
 ·rintro i σ' H' hi ⟨v,qf,U,W,rfl,s3,ec,hk⟩;have aD:i < n:=by omega
  have iz:(0+(i:Int))=(i:Int):=by omega
  have bW:atI (tab n λk=>V.ref (q k)) (0+(i:Int))=some (V.ref (q i)):=by rw[iz];exact zAk aD
  have at2:atI (tab n λk=>V.int (keeps ws k)) (0+(i:Int))=some (V.int (keeps ws i)):=by rw[iz];exact zAk aD
  have xk:=SqL.of (K:=K) (s3 _ _ ek);have xd:=SqL.of (K:=K) (s3 _ _ (s1 _ _ fa.top));have xf:=SqT.of (K:=K) (s3 _ _ (s1 _ _ (fa.row i aD)));have kb:-(2 ^ 64) < keeps ws i/\keeps ws i < 2 ^ 64:=by have h1:=zDj wo i ws.length (wHm _);have h2:=wo.o i;unfold keeps;omega
  refine⟨_,rfl,_,rfl,kp,_,_,_,rfl,rfl,xk,at2,_,rfl,_,rfl,d,_,_,_,rfl,rfl,xd,bW,q i,_,_,_,rfl,rfl,xf,rfl,_,_,rfl,rfl,.inl kb,_,rfl,_,rfl,d,_,_,_,rfl,rfl,xd,bW,q i,_,_,_,rfl,rfl,xf,rfl,_,_,rfl,rfl,.inl ⟨by decide,by decide⟩,keeps ws i*X i,1000*Y i,rfl,by have:=fo.pos i aD;omega,λp x y hp lw=>?_⟩;have aX:c≠p:=zN ec hp;refine⟨_,by rw[zO aX];exact ec,by rw[zW];exact zAL ∅,_,λk=>if k=i then p else qf k,λk=>if k=i then x else U k,λk=>if k=i then y else W k,rfl,zY (s3.trans (zD hp _)) hc _,?_,λk bI=>?_⟩
  ·rw[zB];refine congrArg (λl=>some (HO.lst l)) ?_;rw[← zAD]
   congr 1
   ·exact zA0 λk hk=>by show V.ref (qf k)=V.ref (if k=i then p else qf k);rw[wHj ∅]
   show [V.ref p]=[V.ref (if i=i then p else qf i)];rw[wHl rfl]
  by_cases e:k=i
  ·subst e;simp only[↓reduceIte];exact⟨by rw[zO (Ne.symm aX)];exact zB,lw⟩
  simp only[wHj e];obtain⟨a1,a2⟩:=hk k ∅;refine⟨?_,a2⟩;rw[zO (zCC a1 ec (by intro z;cases z))];exact zD hp _ _ _ a1
 rintro σ' H' ⟨v,qf,U,W,rfl,s3,ec,hk⟩;rw[wHS] at ec hk;exact qq c qf U W H' (s1.free hc) (s1.trans s3) ⟨ec,λk bI=>(hk k bI).1⟩ λi hi=>(hk i hi).2
def zQi {n:Nat} {ws:Wys} {X Y U W:Nat->Int} (wo:WyOk n ws) (fo:FrOk n X Y) (fb:∀i,i < n->Bt 390000 (X i)/\Bt 390000 (Y i)) (hl:∀i,i < n->Low (keeps ws i*X i) (1000*Y i) (U i) (W i)):FrOk n U W:=by
 have kb:∀i,(keeps ws i).natAbs<=1000/\0<=keeps ws i:=λi=>by have h1:=zDj wo i ws.length (wHm _);have h2:=wo.o i;unfold keeps;omega
 refine⟨λi hi=>(hl i hi).pos,λi hi=>(hl i hi).one,λi hi=>?_,λi hi=>?_,λi hi=>?_⟩
 ·have h1:=zCG (zCG (kb i).2 (fo.nn i hi)) (wIn (hl i hi).pos);rw[← (hl i hi).eq,wH1] at h1;exact zEw (c:=1000*Y i) (by have:=fo.pos i hi;omega) h1
 ·have bk:Bt 10 (keeps ws i):=wHK (kb i).1 ⋯;exact Bt.mono (j:=10+390000) (wHK (hl i hi).tb (bk.mul (fb i hi).1)) ⋯
 have bk:Bt 10 (1000:Int):=show (1000:Int).natAbs < 2 ^ 10 by decide
 exact Bt.mono (j:=10+390000) (wHK (hl i hi).bb (bk.mul (fb i hi).2)) ⋯
def zQp (xs:List V) {j:Nat} {b:Int} (hb:b=(j:Int)) (h:j<=xs.length):zHm xs none (some b)=xs.take j:=by subst hb;unfold zHm;rw[sIx_nat,Nat.min_eq_left h];show (xs.drop 0).take (j-0)=_;rw[List.drop_zero,Nat.sub_zero]
theorem zRm {n p:Nat} {f:Nat->Int} {S S':Nat->Bool} (hp:p < n) (hS:S p=false) (h:∀j,S' j=(S j || decide (j=p))):Sg (λj=>f j+if S' j=true then 1 else 0) n=Sg (λj=>f j+if S j=true then 1 else 0) n+1:=by
 rw[← zNz (f:=λj=>f j+if S j=true then 1 else 0) hp];refine zA7 λj _=>?_;show f j+(if S' j=true then 1 else 0)=if j=p then f j+(if S j=true then 1 else 0)+1 else f j+if S j=true then 1 else 0;by_cases e:j=p
 ·subst e;rw[h j,hS,wHl rfl,wHl (by simp)];simp
 rw[wHj e,h j,wHJ e,Bool.or_false]
inductive sp_purse (K:W.Frag) (vs:List V) (H:Hp) (Q:VK) (E:XK):Prop
 | mk (d:Addr) (q:Nat->Addr) (n:Nat) (am:Int) (U W:Nat->Int):vs=[.int am,.ref d]->(FrAt H d q n U W/\FrOk n U W/\1<=n/\n<=15/\1<=am/\am<=10 ^ 12/\zL4 n U W/\
 ∀(l:Addr) (c:Nat->Int) (H':Hp),H l=none->zAh H H'->H' l=some (.lst (tab n λi=>V.int (c i)))->zPa n am U W c->Q (.ref l) H')->sp_purse K vs H Q E
def zMn (T:Txt P K mg t):FnOk P w K mg base CX0 42 t.wDK t.wDL ["_law_amount","_law_fractions_here"] (sp_purse K):=by
 refine T.wFp.ok zBZ ⟨⟩ ();obtain⟨d,q,n,am,U,W,rfl,fa,fo,n1,aI,a1,a12,so,k⟩:=h;refine⟨_,(zC (zDR (cal (zIG T) hr T.wFo T.wDT T.wFn (zG (pv 1) zE zA)) (zNf rfl (zP (zJ (i:=2) zBZ.nd rfl (Or.inr rfl)) (zP (zJ (i:=3) zBZ.nd rfl (Or.inr rfl)) zAp))))
  (zC (zCk ["_law_top","_law_low","_law_amount"] [none,some 2,some 0] (by kernel_rfl) rfl (zAa K (pv 3)) (λ_ _ _ _ _=>(zJ (i:=0) ndB rfl (Or.inl rfl))) (λ_ _ _ _ _=>zAw) (λ_ _ _ _ _=>(zV (zB5 hr ⋯ T.tree ⟨_,_,rfl,rfl,rfl,rfl,rfl⟩) (zV zBs (pv 2) (pv 0)) (pv 1))) (zJ (i:=4) zBZ.nd rfl (Or.inl rfl)))
  (zC (zAF 5 zBZ.nd (zR zHo rfl T.wB6 PyProof.Rows.boot_sorted (zG (zA8 ["_law_k","_law_low","_law_amount","_law_tops"] [none,some 2,some 0,some 3] (by kernel_rfl) rfl (zAi rfl T.wAg (zG (zR (zAd K) rfl T.wAh wHB (zG (pv 3) zE zA)) zE zS)) (λ_ _ _ _ _=>(zJ (i:=0) ndB rfl (Or.inl rfl))) (λ_ _ _ _ _=>zAw) (λ_ _ _ _ _=>(zAS (zQ (zPE zMV (zV zAu (zV zBs (pv 2) (zAA K (pv 3) (pv 0))) (pv 1))) (pv 0) zE zGA zA)))) zE zAq)))
  (zC (zAr PassesOwn.never rfl (zAa K (zDh (zI1 K) (pv 5) zED (zEC (zV zEI (pv 0) (zR (zFb K rfl) rfl T.wFL PyProof.Rows.boot_sum (zG (pv 4) zE zA)))))) (zAt K (n:=2) rfl (zP (zJ (i:=6) zBZ.nd rfl (Or.inl rfl)) (zP (zJ (i:=7) zBZ.nd rfl (Or.inl rfl)) zAp))) (zF (zDD (pv 4) (pv 7) zC8 zH zKY zAX)))
  (zF (zT (pv 4))))))),?_⟩
 have ba:Bt 45 am:=zQs a1 a12;refine⟨_,rfl,d,q,n,U,W,rfl,fa,fo,aI,λl0 tl low aA H1 eD cF s1 el0 nU lp tp bl bt=>?_⟩;refine⟨l0,_,rfl,SqL.of el0,rfl,_,_,rfl,_,_,rfl,rfl,?_⟩;have sum:Sg aA n=low:=so low aA tp;refine⟨_,rfl,tl,rfl,⟨_,SqL.of nU⟩,λc hc=>?_⟩;refine zAl (ys:=tab n λi=>V.int (aA i)) (λi σ' H'=>∃(v:Option V),σ'=[v,some (.int low),some (.int am)]/\H'=upd H1 c (.lst (tab i λj=>V.int (fl am low aA j)))) ⟨none,rfl,rfl⟩ (λi σ' H' _ ⟨_,_,e⟩=>by rw[e];exact SqL.of (zD hc _ _ _ nU)) ?_ ?_
 ·rintro i x σ' H' hx ⟨v,rfl,rfl⟩;obtain⟨hi,rfl⟩:=zA5 hx;refine⟨_,rfl,_,rfl,_,_,rfl,rfl,zAO ba (bt i hi) ⋯,_,rfl,_,_,rfl,rfl,(by show low≠0;omega),_,zB,by rw[zW];exact zAL ∅,_,rfl,?_⟩;have e5:(am*aA i).fdiv low=fl am low aA i:=by rw[Int.fdiv_eq_ediv_of_nonneg _ ∅];rfl
  show upd (upd H1 c _) c (.lst (_++[V.int ((am*aA i).fdiv low)]))=_;rw[zBi,← zAD,e5]
 rintro σ' H2 ⟨v,rfl,rfl⟩;rw[zW];have s2:=zD hc (.lst (tab n λj=>V.int (fl am low aA j)));have ec:upd H1 c (.lst (tab n λj=>V.int (fl am low aA j))) c=some (.lst (tab n λj=>V.int (fl am low aA j))):=zB;have Hc:H c=none:=s1.free hc;have aP:=s1.trans s2;have fN:=s2 _ _ nU;generalize upd H1 c (.lst (tab n λj=>V.int (fl am low aA j)))=H2 at s2 ec aP fN ⊢;refine⟨_,rfl,tl,_,rfl,.inl (SqL.of fN),_,rfl,by omega,by rw[zW];omega,λrk hrk=>?_⟩;refine zBt (n:=(((tab n λi=>V.int (aA i)).length:Nat):Int).toNat) (λi σ' H'=>∃(v:Option V) (qr:Nat->Addr),σ'=[v,some (.int low),some (.int am),some (.ref tl)]/\zAh H2 H'/\H' rk=some (.lst (tab i λk=>V.ref (qr k)))/\∀k,k < i->H' (qr k)=some (.tup [.int (-(rm am low aA k)),.int (k:Nat)]))
  ⟨none,λ_=>rk,rfl,zD hrk _,zB,λk hk=>absurd hk (wHA _)⟩ ?_ ?_
 ·rintro i σ' H' hi ⟨v,qr,rfl,s3,er,hq⟩;rw[zW,wHS] at hi;have iz:(0+(i:Int))=(i:Int):=by omega
  have bW:atI (tab n λk=>V.int (aA k)) (0+(i:Int))=some (V.int (aA i)):=by rw[iz];exact zAk hi
  refine⟨_,rfl,_,rfl,_,rfl,tl,_,_,_,rfl,rfl,SqL.of (s3 _ _ fN),bW,_,_,rfl,rfl,zAO ba (bt i hi) ⋯,_,rfl,_,_,rfl,rfl,lp,_,rfl,_,rfl,zAz,λp hp=>?_⟩;have aX:rk≠p:=zN er hp;rw[iz];refine⟨_,by rw[zO aX];exact er,by rw[zW];exact zAL ∅,_,λk=>if k=i then p else qr k,rfl,zY (s3.trans (zD hp _)) hrk _,?_,λk bI=>?_⟩
  ·rw[zB];refine congrArg (λl=>some (HO.lst l)) ?_;rw[← zAD]
   congr 1
   ·exact zA0 λk hk=>by show V.ref (qr k)=V.ref (if k=i then p else qr k);rw[wHj ∅]
   show [V.ref p]=[V.ref (if i=i then p else qr i)];rw[wHl rfl]
  by_cases e:k=i
  ·subst e;simp only[↓reduceIte];rw[zO (Ne.symm aX),zB]
   rfl
  simp only[wHj e];have z1:=hq k ∅;rw[zO (zCC z1 er (by intro z;cases z))];exact zD hp _ _ _ z1
 rintro σ' H3 ⟨v,qr,rfl,s3,er,hq⟩;rw[zW,wHS] at er hq;refine⟨rk,qr,n,λk=>-(rm am low aA k),λk=>(k:Int),rfl,er,hq,by omega,λi j _ _ ne z=>ne (by have h2:(i:Int)=(j:Int):=z.2;omega),λsl π dI hπ pw=>?_⟩;have s4:=zD dI (.lst (π.map λi=>V.ref (qr i)));have esl:upd H3 sl (.lst (π.map λi=>V.ref (qr i))) sl=some (.lst (π.map λi=>V.ref (qr i))):=zB;have hq4:=λk hk=>s4 _ _ (hq k hk);have eP:=s4 _ _ (s3 _ _ ec);have fQ:=(aP.trans s3).trans s4;generalize upd H3 sl (.lst (π.map λi=>V.ref (qr i)))=H4 at s4 esl hq4 eP fQ ⊢;obtain⟨r0,r1⟩:=zKj (am:=am) (w:=aA) lp ∅ sum;obtain⟨m,hm⟩:∃m:Nat,am-Sg (fl am low aA) n=(m:Int):=⟨_,(Int.toNat_of_nonneg r0).symm⟩;have lπ:π.length=n:=by rw[hπ.length_eq,wIl]
 have ndπ:π.Nodup:=hπ.nodup_iff.mpr List.nodup_range;have mπ:∀x∈π,x < n:=λx hx=>List.mem_range.mp (hπ.mem_iff.mp hx);refine⟨_,rfl,_,rfl,_,rfl,c,tab n (fl am low aA),rfl,SqL.of (by rw[zEs];exact eP),_,_,rfl,rfl,_,rfl,sl,_,rfl,SqL.of esl,λcc iK=>?_⟩;rw[zQp (π.map λi=>V.ref (qr i)) (j:=m) (by rw[zHA];exact hm) (by rw[wHf];omega),← List.map_take];have s5:=zD iK (.lst ((π.take m).map λi=>V.ref (qr i)));have oj:upd H4 cc (.lst ((π.take m).map λi=>V.ref (qr i))) cc=some (.lst ((π.take m).map λi=>V.ref (qr i))):=zB;have gE:=s5 _ _ eP;have mF:=λk hk=>s5 _ _ (hq4 k hk);have nc:cc≠c:=(zN eP iK).symm;have fP:=fQ.trans s5;generalize upd H4 cc (.lst ((π.take m).map λi=>V.ref (qr i)))=H5 at s5 oj gE mF fP ⊢;refine⟨cc,rfl,⟨_,SqL.of oj⟩,zAx (xs:=(π.take m).map λi=>V.ref (qr i)) (λi σ' H'=>∃v6 v7,σ'=[some (.int am),some (.ref d),some (.int low),some (.ref tl),some (.ref c),some (.ref sl),v6,v7]/\zDy c H5 H'/\H' c=some (.lst (tab n λj=>V.int (fl am low aA j+if decide (j∈π.take i)=true then 1 else 0)))/\Sg (λj=>fl am low aA j+if decide (j∈π.take i)=true then 1 else 0) n=Sg (fl am low aA) n+i)
  ⟨none,none,rfl,zDy.of (zAh.refl _),?_,?_⟩ (λi σ' H' _ ⟨_,_,_,kp,_⟩=>SqL.of (kp _ _ nc oj)) ?_ ?_⟩
 ·rw[gE];refine congrArg (λl=>some (HO.lst l)) (zA0 λj hj=>?_);simp
 ·refine Eq.trans (zA7 λj hj=>?_) (Int.add_zero _).symm;simp
 ·rintro i x σ' H' hx ⟨v6,v7,rfl,kp,ei,si⟩;rw[wHn] at hx;obtain⟨j,hj,rfl⟩:=wIA hx;rw[List.getElem?_take] at hj;have him:i < m:=by
   by_cases z:i < m
   ·exact z
   rw[wHj z] at hj;cases hj
  rw[wHl him] at hj;have jn:=mπ j (wHO hj);have ej:=kp _ _ (zCC (mF j jn) gE (by intro z;cases z)) (mF j jn);refine⟨qr j,_,rfl,SqT.of ej,rfl,_,_,rfl,_,_,rfl,rfl,?_⟩;refine⟨_,rfl,_,rfl,c,_,_,_,rfl,rfl,SqL.of ei,zAk jn,_,_,rfl,rfl,c,_,_,_,rfl,rfl,ei,zBp jn,?_⟩;have lJ:π.take (i+1)=π.take i++[j]:=by rw[wHY,hj];rfl
  have nj:j∉π.take i:=λz=>by
   have e1:π=π.take i++π.drop i:=(List.take_append_drop i π).symm;have hd:j∈π.drop i:=by
    have:(π.drop i)[0]?=some j:=by rw[List.getElem?_drop];exact hj
    exact wHO this
   have nd2:=ndπ;rw[e1,List.nodup_append] at nd2;exact nd2.2.2 j z j hd rfl
  have hS:∀k,decide (k∈π.take (i+1))=(decide (k∈π.take i) || decide (k=j)):=λk=>by rw[lJ,Bool.eq_iff_iff];simp
  refine⟨_,_,rfl,kp.trans zDy.upd,?_,?_⟩
  ·rw[zB,zCq];refine congrArg (λl=>some (HO.lst l)) (zA0 λk _=>?_);by_cases e:k=j
   ·subst e;rw[wHl rfl,hS k,wHM (rfl:k=k),Bool.or_true,wHl rfl,wHJ nj];simp
   rw[wHj e,hS k,wHJ e,Bool.or_false]
  rw[zRm (S:=λk=>decide (k∈π.take i)) (S':=λk=>decide (k∈π.take (i+1))) jn (wHJ nj) hS,si];show _+(i:Int)+1=_+((i+1:Nat):Int);omega
 rintro σ' H' ⟨v6,v7,rfl,kp,ei,si⟩;rw[wHf,wHD,Nat.min_eq_left ∅] at ei si;refine⟨_,rfl,k c _ H' Hc (λb u e=>kp b u (λz=>by rw[z,Hc] at e;cases e) (fP b u e)) ei ⟨low,aA,λj=>decide (j∈π.take m),lp,λi hi=>(tp i hi).symm,λi hi=>rfl,λi j hi hj ti tj=>?_,by rw[si];omega⟩⟩;have jm:=wHw tj;have im:i∈π.drop m:=by
  have:i∈π:=hπ.mem_iff.mpr (List.mem_range.mpr hi);rw[← List.take_append_drop m π] at this;rcases wIC this with z | z
  ·exact (ti (wHM z)).elim
  exact z
 have jA:=pw;rw[← List.take_append_drop m π,List.pairwise_append] at jA;have h3:-(rm am low aA j) < -(rm am low aA i)∨(-(rm am low aA j)=-(rm am low aA i)/\(j:Int) < (i:Int)):=jA.2.2 j jm i im;unfold Beh;omega
inductive sp_row (K:W.Frag) (vs:List V) (H:Hp) (Q:VK) (E:XK):Prop
 | mk (p r:Addr) (xs:List Int):vs=[.ref p,.ref r]->(H p=some (.lst (xs.map V.int))/\SqL K H r (xs.map V.int)/\xs.length<=900/\Q (.bl true) H)->sp_row K vs H Q E
def zPQ (T:Txt P K mg t):FnOk P w K mg base CX0 41 t.wFw t.wFx ["_law_found","_law_due"] (sp_row K):=by
 refine T.wGq.ok zMZ ⟨⟩ ();obtain⟨p,r,xs,rfl,e,hS,hl,q⟩:=h;refine⟨_,(zC (zAs (PW.pt (zDB (zAG (zA1 (zR (zAy K) rfl T.wAb wHt (zQ (pv 0) (zBC (v:=.ty "list") rfl T.wBh PyProof.Rows.boot_list rfl) zE zA zA)))) (zCp (zAb zDF (zR (zAd K) rfl T.wAh wHB (zG (pv 0) zE zA)) (zR (zAd K) rfl T.wAh wHB (zG (pv 1) zE zA)) (zAg _))))) (zF (zT zAT)) zZ)
  (zC (zAr PassesOwn.never rfl (zAi rfl T.wAg (zG (zR (zAd K) rfl T.wAh wHB (zG (pv 1) zE zA)) zE zS)) (zJ (i:=2) zMZ.nd rfl (Or.inl rfl)) (zF (zAs (PW.pt (zDB (zAG (zA1 (cal (zDl T) hr T.wBG T.wA3 T.wBF (zG (zAA K (pv 0) (pv 2)) zE zK)))) (zCp (zAb zDF (zAA K (pv 0) (pv 2)) (zAA K (pv 1) (pv 2)) (zAg _))))) (zF (zT zAT)) zZ)))
  (zF (zT zAT)))),?_⟩
 have hm:(xs.map V.int).length=xs.length:=wHf _;refine⟨_,rfl,_,_,_,_,rfl,.lst e,rfl,_,rfl,zB8 ?_⟩;refine⟨_,rfl,p,_,rfl,.inl (SqL.of e),_,rfl,r,_,rfl,.inl hS,rfl,_,rfl,zEi rfl ?_⟩;refine⟨_,rfl,r,_,rfl,.inl hS,_,rfl,by omega,by rw[hm];omega,zA9 (n:=(((xs.map V.int).length:Nat):Int).toNat) (λi σ' H'=>∃v,σ'=[some (.ref p),some (.ref r),v]/\H'=H) ⟨none,rfl,rfl⟩ ?_ ?_⟩
 ·rintro i σ' H' hi ⟨v,rfl,rfl⟩;have aU:0+(i:Int) < (xs.length:Int):=by rw[hm] at hi;omega
  have h0:0<=0+(i:Int):=by omega
  refine⟨_,rfl,_,rfl,p,_,_,_,rfl,rfl,SqL.of e,zDw h0 aU,.inl ⟨_,rfl,_,rfl,zB8 ?_⟩⟩;refine⟨_,rfl,_,rfl,p,_,_,_,rfl,rfl,SqL.of e,zDw h0 aU,_,rfl,_,rfl,r,_,_,_,rfl,rfl,hS,zDw h0 aU,rfl,_,rfl,zEi rfl ?_⟩;exact⟨_,rfl,rfl⟩
 rintro σ' H' ⟨v,rfl,rfl⟩;exact q
inductive sp_same (K:W.Frag) (vs:List V) (H:Hp) (Q:VK) (E:XK):Prop
 | mk (d b:Addr) (q qb:Nat->Addr) (n:Nat) (U W:Nat->Int):vs=[.ref d,.ref b]->(FrAt H d q n U W/\FrOk n U W/\FrAt H b qb n U W/\n<=15/\Q (.bl true) H)->sp_same K vs H Q E
def zOu (T:Txt P K mg t):FnOk P w K mg base CX0 43 t.wEs t.wEt ["_law_found","_law_due"] (sp_same K):=by
 refine T.wF1.ok zJW ⟨⟩ ();obtain⟨d,b,q,qb,n,U,W,rfl,fa,fo,fb,aI,k⟩:=h;refine⟨_,(zC (zAs (zAG (zA1 (cal (zDV T) hr T.wCO T.wBB T.wCN (zQ (pv 0) (zR (zAd K) rfl T.wAh wHB (zG (pv 1) zE zA)) zE zA zS)))) (zF (zT zAT)) zZ)
  (zC (zAr PassesOwn.never rfl (zAi rfl T.wAg (zG (zR (zAd K) rfl T.wAh wHB (zG (pv 1) zE zA)) zE zS)) (zJ (i:=2) zJW.nd rfl (Or.inl rfl)) (zF (zAs (zAb (zPK hr.units) (zAA K (pv 0) (pv 2)) (zAA K (pv 1) (pv 2)) (zAg _)) (zF (zT zAT)) zZ)))
  (zF (zT zAT)))),?_⟩
 refine⟨_,rfl,_,rfl,b,_,rfl,.inl (SqL.of fb.top),d,q,n,U,W,by rw[zW];rfl,fa,fo,by omega,_,rfl,zB8 ?_⟩;refine⟨_,rfl,b,_,rfl,.inl (SqL.of fb.top),_,rfl,by omega,by rw[zW];omega,zA9 (n:=(((tab n λi=>V.ref (qb i)).length:Nat):Int).toNat) (λi σ' H'=>∃v,σ'=[some (.ref d),some (.ref b),v]/\H'=H) ⟨_,rfl,rfl⟩ ?_ ?_⟩
 ·rintro i σ' H' hi ⟨v,rfl,rfl⟩;rw[zW] at hi;have aD:i < n:=by omega
  have iz:(0+(i:Int))=(i:Int):=by omega
  have bW:atI (tab n λk=>V.ref (q k)) (0+(i:Int))=some (V.ref (q i)):=by rw[iz];exact zAk aD
  have at2:atI (tab n λk=>V.ref (qb k)) (0+(i:Int))=some (V.ref (qb i)):=by rw[iz];exact zAk aD
  exact⟨_,rfl,_,rfl,d,_,_,_,rfl,rfl,SqL.of fa.top,bW,_,rfl,_,rfl,b,_,_,_,rfl,rfl,SqL.of fb.top,at2,q i,qb i,U i,W i,rfl,rfl,SqT.of (fa.row i aD),SqT.of (fb.row i aD),_,rfl,zB8 ⟨_,rfl,rfl⟩⟩
 rintro σ' H' ⟨v,rfl,rfl⟩;exact k
theorem zKo {K:W.Frag} {H:Hp}:∀ns:List Int,RdA K H (ns.map V.int) (ns.map PyData.int)
 | []=>.nil
 | n::ns=>.cons (.int n) (zKo ns)
def zHE (ns:List Int):PySem.SeqAt.shaped (.list (ns.map PyData.int))=true:=by
 have c:∀ns:List Int,PyData.canLayAll0 (ns.map PyData.int)=true/\PyData.depthAll (ns.map PyData.int)=0:=by
  intro ns
  induction ns with
  | nil=>exact⟨rfl,rfl⟩
  | cons n ns ih=>
   obtain⟨h1,h2⟩:=ih;refine⟨?_,?_⟩
   ·show (true && PyData.canLayAll0 (ns.map PyData.int))=true;rw[h1];rfl
   show max 0 (PyData.depthAll (ns.map PyData.int))=0;rw[h2];rfl
 obtain⟨h1,h2⟩:=c ns;show (PyData.canLayAll0 (ns.map PyData.int) && decide (PyData.depthAll (ns.map PyData.int)+1<=64))=true;rw[h1,h2];rfl
def zN7 {n:Nat} {ws:List W5} (ok:∀p∈ws,OkN n p) (d:Int):∀k,k < (wyL ws d).length->wg (wyL ws d) k < n:=λk hk=>by obtain⟨p,hp,_,e⟩:=zH7 (zJD hk);unfold wg;rw[e];show p.1.toNat < n;have:=(ok p hp).g;omega
def zPc {n:Nat} {ws:List W5} (ok:∀p∈ws,OkN n p) {d:Int} (o:∀j,zDS (wyL ws d) j<=1000):WyOk n (wyL ws d):=by
 refine⟨zN7 ok d,λk hk=>?_,λk hk=>?_,λk hk=>?_,λx=>by rw[zBf];exact o x⟩<;>obtain⟨p,hp,_,e⟩:=zH7 (zJD hk)<;>have h:=ok p hp
 ·unfold wt;rw[e];show p.2.1.toNat < n;have:=h.u;omega
 ·unfold wg wt;rw[e];show p.1.toNat≠p.2.1.toNat;have:=h.g;have:=h.u;have:=h.ne;omega
 unfold wp;rw[e];exact h.pt
def zIx {H:Hp} {pl nw p:Addr} {qs:List Addr} {ws:List W5} {w:W5} (hp:H pl=some (.lst (qs.map V.ref))) (lq:qs.length=ws.length) (hq:∀(i:Nat) (a:Addr) (ys:List V),qs[i]?=some a->(ws.map W5.vs)[i]?=some ys->H a=some (.tup ys)) (hn:H nw=some (.tup w.vs)) (e:H p=some (.lst (qs.map V.ref++[V.ref nw]))):zAf H p ((ws++[w]).map W5.vs):=by
 refine⟨qs++[nw],by rw[e,wHr];rfl,by rw[wHp,wHf,wHp,lq];rfl,λi a ys e1 e2=>?_⟩;by_cases c:i < qs.length
 ·rw[wHE c] at e1;rw[wHr,wHE (by rw[wHf];omega)] at e2;exact hq i a ys e1 e2
 rw[wHC ∅] at e1;rw[wHr,wHC (by rw[wHf];omega),wHf,← lq] at e2;have z:i-qs.length=0:=by have:=(wIy e1).1;have l1:[nw].length=1:=rfl;omega
 rw[z] at e1 e2;cases e1;cases e2;exact hn
def zK3 {n:Nat} {ws:List W5} {w:W5} {d:Int} (h0:w.2.2.2.1<=d) (h1:d<=w.2.2.2.2):∃s,zF0 ws w s/\w.2.2.2.1<=s/\s<=d/\(wyL (ws++[w]) d).Sublist (wyL (ws++[w]) s):=by
 obtain⟨s,i,a,b,c⟩:=zNv w h0 h1 ws;refine⟨s,i,a,b,zN5 λp hp e=>?_⟩;obtain⟨e0,e1⟩:=zCm.mp e;refine zCm.mpr ⟨?_,by omega⟩;rcases wIC hp with z | z
 ·exact c p z e0
 rw[wIz z];exact a
def zIK {ws:List W5} {w:W5} {d:Int} (o:w.2.2.2.1<=w.2.2.2.2) (h:zF0 ws w d):w.2.2.2.1<=d/\d<=w.2.2.2.2:=by
 rcases h with rfl | ⟨p,_,_,h1,h2⟩
 ·exact⟨wIi _,o⟩
 exact⟨by omega,h2⟩
def zMY {n:Nat} {ws:List W5} {w:W5} {d:Int}:zGE n ws w d=[]↔∀j,j < n->RL (wyL (ws++[w]) d) j:=by
 constructor
 ·intro h j hj;refine wHW λz=>?_;have:((j:Nat):Int)∈zGE n ws w d:=zCn.mpr ⟨j,hj,zD4.mpr z,rfl⟩;rw[h] at this;cases this
 intro h;refine List.eq_nil_iff_forall_not_mem.mpr λz hz=>?_;obtain⟨j,hj,hb,_⟩:=zCn.mp hz;exact (zD4.mp hb) (h j hj)
def zRe {ms:List Int} (pw:ms.Pairwise (·<=·)) {i:Nat} {d s:Int} (hd:ms[i]?=some d) (hs:s∈ms) (lt:s < d):s∈ms.take i:=by
 obtain⟨j,hj,e⟩:=List.getElem_of_mem hs;obtain⟨hi,e2⟩:=wIy hd;by_cases c:j < i
 ·exact wHO (i:=j) (by rw[List.getElem?_take_of_lt c,wHg hj,e])
 exfalso
 by_cases z:i=j
 ·subst z;omega
 have:=List.pairwise_iff_getElem.mp pw i j hi hj ∅;omega
def zLb {x:Int} {ns:List Int}:inV (.int x) (ns.map V.int)=true↔x∈ns:=by
 unfold inV;rw[List.any_map,List.any_eq_true];constructor
 ·rintro⟨y,hy,e⟩;have:y=x:=by simpa [eqV] using e
  rw[← this];exact hy
 intro h;exact⟨x,h,by simp[eqV]⟩
def zLl {ns:List Int}:(ns.map V.int).all zFv=true:=by
 rw[List.all_eq_true];intro x hx;obtain⟨y,_,rfl⟩:=List.mem_map.mp hx
 rfl
inductive Du (H:Hp) (du:Addr) (n:Nat) (ws:List W5) (w:W5):Prop
 | over (y z:V):OvD ws w->H du=some (.tup [.str "too much",y,z])->Du H du n ws w
 | shut (d:Int) (l:Addr):¬OvD ws w->ShD n ws w d->H du=some (.tup [.str "shut in",.int d,.ref l])->H l=some (.lst ((zGE n ws w d).map V.int))->Du H du n ws w
 | none (y z:V):¬OvD ws w->(∀d,w.2.2.2.1<=d->d<=w.2.2.2.2->zGE n ws w d=[])->H du=some (.tup [.str "",y,z])->Du H du n ws w
def zRC (ws:List W5) (w:W5):Prop:=ws.length<=80/\∃B:List Int,B.length<=60/\w.2.2.2.1∈B/\∀p∈ws,p.2.2.2.1∈B
inductive sp_judged (K:W.Frag) (vs:List V) (H:Hp) (Q:VK) (E:XK):Prop
 | mk (n:Nat) (pl nw:Addr) (ws:List W5) (w:W5):vs=[.int (n:Nat),.ref pl,.ref nw]->(zAf H pl (ws.map W5.vs)/\H nw=some (.tup w.vs)/\GoodB n ws/\OkN n w/\n<=15/\zRC ws w/\
 ∀(q:Addr) (H':Hp),zAh H H'->Du H' q n ws w->Q (.ref q) H')->sp_judged K vs H Q E
def zKB (T:Txt P K mg t):FnOk P w K mg base CX0 42 t.wC1 t.wC2 ["_law_count","_law_pacts","_law_new"] (sp_judged K):=by
 refine T.wEU.ok zBR ⟨⟩ ();obtain⟨n,pl,nw,ws,w,rfl,⟨qs,hp,lq,hq⟩,cG,gb,o,aI,⟨hz,B,lB,wB,pB⟩,q⟩:=h;refine⟨_,(zC (zAF 3 zBR.nd (zAo (zG (zBr K (pv 2) zH) zE zK)))
  (zC (zAr PassesOwn.never rfl (zAa K (pv 1)) (zJ (i:=4) zBR.nd rfl (Or.inl rfl)) (zF (zAs (PW.pt (zEA (zAb zFr (zBr K (pv 2) zH) (zBr K (pv 4) zH) (zAg _)) (zEA (zAb zDG (zBr K (pv 4) zH) (zBr K (pv 2) zH) (zAg _)) (zDC (zAb (zGR K) (zBr K (pv 4) zH) (pv 3) (by with_unfolding_all rfl)))))) (zF (zAm (zBz K wHV wH2 wH6 zA3 (pv 3) (zG (zBr K (pv 4) zH) zE zK)))) zZ)))
  (zC (zAr PassesOwn.never rfl (zAa K (zR zFa rfl T.wB6 PyProof.Rows.boot_sorted (zG (pv 3) zE zA))) (zJ (i:=5) zBR.nd rfl (Or.inl rfl)) (zF (zAs (zAb zFr (zAA K (cal (zGg T) hr T.wDm T.wCv T.wDl (zQ (pv 0) (cal (zMo T) hr T.wFD T.wEQ T.wFC (zQ (zV zDk (pv 1) (zAo (zG (pv 2) zE zA))) (pv 5) zE zX zA)) zE zA zS)) (zBr K (pv 2) zH)) zH (zAg _)) (zF (zT (zAS (zG zAK (zQ zH (zAo zE) zE zM zEu) zM)))) zZ)))
  (zC (zAr PassesOwn.never rfl (zAa K (zR zFa rfl T.wB6 PyProof.Rows.boot_sorted (zG (pv 3) zE zA))) (zJ (i:=5) zBR.nd rfl (Or.inl rfl)) (zC (zAF 6 zBR.nd (cal (zKD T) hr T.wGj T.wER T.wGi (zQ (pv 0) (cal (zMo T) hr T.wFD T.wEQ T.wFC (zQ (zV zDk (pv 1) (zAo (zG (pv 2) zE zA))) (pv 5) zE zX zA)) zE zA zS)))
  (zF (zAs (zAb (zPL hr.units) (pv 6) (zAo zE) (zAg _)) (zF (zT (zAS (zG zAK (zQ (pv 5) (pv 6) zE zA zA) zM)))) zZ))))
  (zF (zT (zAS (zG zAK (zQ zH (zAo zE) zE zM zEu) zM)))))))),?_⟩
 rw[wHf] at lq;have Sn:=SqT.of (K:=K) cG;refine⟨_,rfl,nw,_,3,_,rfl,rfl,Sn,rfl,szl,λdl ff=>?_⟩;have s1:=zD ff (.lst [.int w.2.2.2.1]);refine⟨_,rfl,pl,rfl,⟨_,SqL.of (s1 _ _ hp)⟩,zAx (xs:=qs.map V.ref) (λi σ' H'=>∃(v4:Option V) (ds:List Int),σ'=[some (.int (n:Nat)),some (.ref pl),some (.ref nw),some (.ref dl),v4,none,none]/\zAh H H'/\H' dl=some (.lst (ds.map V.int))/\(ds.Nodup/\∀d∈ds,d∈B)/\∀d,d∈ds↔zF0 (ws.take i) w d)
  ⟨none,[w.2.2.2.1],rfl,s1,zB,⟨by simp,λd z=>by rw[wIz z];exact wB⟩,λd=>⟨λz=>.inl (wIz z),λz=>by rcases z with y | ⟨p,hp,_⟩;rw[y];simp;cases hp⟩⟩ (λi σ' H' _ ⟨_,_,_,s',_⟩=>SqL.of (s' _ _ hp)) ?_ ?_⟩
 ·rintro i x σ' H' hi ⟨v4,ds,rfl,s',ed,ld,md⟩;rw[wHn] at hi;obtain⟨a,ha,rfl⟩:=wIA hi;have aD:i < ws.length:=by rw[← lq];exact (wIy ha).1
  have bP:ws[i]?=some ws[i]:=wHg aD;have Sa:=SqT.of (K:=K) (s' _ _ (hq i a _ ha (by rw[wHn,bP];rfl)));have Sn':=SqT.of (K:=K) (s' _ _ cG);have tk:ws.take (i+1)=ws.take i++[ws[i]]:=by rw[wHY,bP];rfl
  have stay:¬(w.2.2.2.1 < (ws[i]).2.2.2.1/\(ws[i]).2.2.2.1<=w.2.2.2.2)->∀d,d∈ds↔zF0 (ws.take (i+1)) w d:=λno d=>by
   rw[md d,tk];unfold zF0;constructor
   ·rintro (z | ⟨p,hp,r⟩)
    ·exact .inl z
    exact .inr ⟨p,List.mem_append_left _ hp,r⟩
   rintro (z | ⟨p,hp,r,r2⟩)
   ·exact .inl z
   rcases wIC hp with y | y
   ·exact .inr ⟨p,y,r,r2⟩
   rw[wIz y] at r;rw[← r] at r2;exact absurd r2 no
  refine⟨_,rfl,nw,_,3,_,rfl,rfl,Sn',rfl,_,rfl,a,_,3,_,rfl,rfl,Sa,rfl,_,_,rfl,rfl,_,rfl,?_⟩;by_cases c1:w.2.2.2.1 < (ws[i]).2.2.2.1
  ·refine zKU c1 ⟨_,rfl,a,_,3,_,rfl,rfl,Sa,rfl,_,rfl,nw,_,4,_,rfl,rfl,Sn',rfl,_,_,rfl,rfl,_,rfl,?_⟩;by_cases c2:(ws[i]).2.2.2.1<=w.2.2.2.2
   ·refine zKU c2 ⟨_,rfl,a,_,3,_,rfl,rfl,Sa,rfl,_,rfl,dl,_,rfl,.inl (SqL.of ed),rfl,zLl,_,rfl,?_⟩;rw[wHl rfl];by_cases c3:(ws[i]).2.2.2.1∈ds
    ·rw[zLb.mpr c3];refine zB8 ⟨_,ds,rfl,s',ed,ld,λd=>?_⟩;rw[md d,tk];unfold zF0;constructor
     ·rintro (z | ⟨p,hp,r⟩)
      ·exact .inl z
      exact .inr ⟨p,List.mem_append_left _ hp,r⟩
     rintro (z | ⟨p,hp,r,r2⟩)
     ·exact .inl z
     rcases wIC hp with y | y
     ·exact .inr ⟨p,y,r,r2⟩
     rw[wIz y] at r;rw[r] at c3;exact (md d).mp c3
    rw[show inV (.int (ws[i]).2.2.2.1) (ds.map V.int)=false from wIB λz=>c3 (zLb.mp z)];refine zG5 ?_;have mi:=zDn ld.1 ld.2;refine⟨_,rfl,.inl ⟨rfl,_,SqL.of ed⟩,_,rfl,a,_,3,_,rfl,rfl,Sa,rfl,dl,_,_,rfl,rfl,ed,by rw[wHf];exact zAj ∅,?_⟩;refine⟨_,ds++[(ws[i]).2.2.2.1],rfl,zY s' ff _,by rw[zB,wHr];rfl,⟨List.nodup_append.mpr ⟨ld.1,by simp,λx hx y hy e=>c3 (by rw[← wIz hy,← e];exact hx)⟩,λd hd=>?_⟩,λd=>?_⟩
    ·rcases wIC hd with z | z
     ·exact ld.2 d z
     rw[wIz z];exact pB _ (wHF _)
    rw[List.mem_append,md d,tk,List.mem_singleton];unfold zF0;constructor
    ·rintro ((z | ⟨p,hp,r⟩) | z)
     ·exact .inl z
     ·exact .inr ⟨p,List.mem_append_left _ hp,r⟩
     exact .inr ⟨ws[i],wHI _ (List.mem_singleton.mpr rfl),z.symm,by rw[z];exact⟨c1,c2⟩⟩
    rintro (z | ⟨p,hp,r,r2⟩)
    ·exact .inl (.inl z)
    rcases wIC hp with y | y
    ·exact .inl (.inr ⟨p,y,r,r2⟩)
    rw[wIz y] at r;exact .inr r.symm
   exact zJw c2 (zB8 ⟨_,ds,rfl,s',ed,ld,stay λz=>c2 z.2⟩)
  exact zJw c1 (zB8 ⟨_,ds,rfl,s',ed,ld,stay λz=>c1 z.1⟩)
 rintro σ' H2 ⟨v4,ds,rfl,s2,ed,ld,md⟩;rw[wHf,lq,wHL] at md;have mi:=zDn ld.1 ld.2;refine⟨_,rfl,dl,ds,rfl,SqL.of ed,by omega,λd2 ms hd2 pm pw=>?_⟩;have s3:=s2.trans (zD hd2 (.lst (ms.map V.int)));have em:upd H2 d2 (.lst (ms.map V.int)) d2=some (.lst (ms.map V.int)):=zB;have mm:∀d,d∈ms↔zF0 ws w d:=λd=>by rw[pm.mem_iff];exact md d
 have gD:=zD hd2 (.lst (ms.map V.int)) _ _ ed;generalize upd H2 d2 (.lst (ms.map V.int))=H3 at s3 em gD ⊢;have ok:=zBN gb.ok o;have nn:∀p∈ws++[w],0<=p.1/\0<=p.2.1:=λp hp=>⟨(ok p hp).g.1,(ok p hp).u.1⟩;have lw:(ws++[w]).length<=900:=by rw[wHp];show _+1<=_;omega
 refine⟨d2,rfl,⟨_,SqL.of em⟩,zAx (xs:=ms.map V.int) (λi σ' H'=>∃(v5:Option V),σ'=[some (.int (n:Nat)),some (.ref pl),some (.ref nw),some (.ref dl),v4,v5,none]/\zAh H H'/\H' d2=some (.lst (ms.map V.int))/\H' dl=some (.lst (ds.map V.int))/\∀d∈ms.take i,zDS (wyL (ws++[w]) d) w.1.toNat<=1000)
  ⟨none,rfl,s3,em,gD,λd hd=>by rw[List.take_zero] at hd;cases hd⟩ (λi σ' H' _ ⟨_,_,_,e,_⟩=>SqL.of e) ?_ ?_⟩
 ·rintro i x σ' H' hi ⟨v5,rfl,s',em',oi,ho⟩;rw[wHn] at hi;obtain⟨d,hd,rfl⟩:=wIA hi;refine⟨_,rfl,_,rfl,_,rfl,szl,λx1 dH=>⟨pl,x1,_,_,rfl,rfl,zD dH _ _ _ (s' _ _ hp),zB,by rw[wHf];exact small (by show _+1<=1000;omega),λp1 bY=>?_⟩⟩;have s4:=(s'.trans (zD dH (.lst [.ref nw]))).trans (zD bY (.lst (qs.map V.ref++[.ref nw])));refine⟨_,rfl,p1,ws++[w],d,rfl,zIx (s4 _ _ hp) lq (λi a ys e1 e2=>s4 _ _ (hq i a ys e1 e2)) (s4 _ _ cG) zB,lw,nn,λl H5 hl s5 t5=>?_⟩;obtain⟨rs,wa⟩:=zFM (K:=K) t5;have lR:=s4.trans s5;refine⟨n,l,rs,_,rfl,wa,zN7 ok d,by omega,λkp H6 jR s6 ek=>?_⟩;have ft:=lR.trans s6;have gn:=o.g;have ix:atI (tab n λh=>V.int (keeps (wyL (ws++[w]) d) h)) w.1=some (.int (keeps (wyL (ws++[w]) d) w.1.toNat)):=zH0 ∅ ∅;refine⟨_,rfl,nw,_,0,_,rfl,rfl,SqT.of (ft _ _ cG),rfl,kp,_,_,_,rfl,rfl,SqL.of ek,ix,_,_,rfl,rfl,_,rfl,?_⟩;have sm:zAh H' H6:=((zD dH (.lst [.ref nw])).trans (zD bY (.lst (qs.map V.ref++[.ref nw])))).trans (s5.trans s6);by_cases c:keeps (wyL (ws++[w]) d) w.1.toNat < 0
  ·refine zKU c ⟨szl,λl0 eD=>⟨szl,λr hr=>?_⟩⟩;have s7:=ft.trans (zD eD (.lst []));rw[zBV] at c;have iE:=zIK o.sp.2.1 ((mm d).mp (wHO hd));exact q r _ (s7.trans (zD hr _)) (.over _ _ ⟨d,iE.1,iE.2,by omega⟩ zB)
  refine zJw c ⟨_,rfl,ft,sm _ _ em',sm _ _ oi,λd' bS=>?_⟩;rw[wHY,hd] at bS;rcases wIC bS with z | z
  ·exact ho d' z
  rw[wIz (show d'∈[d] from z)];rw[zBV] at c;omega
 rintro σ' H4 ⟨v5,rfl,s4,em4,ed4,ho⟩;rw[wHf,wHL] at ho;have oa:∀d∈ms,∀j,zDS (wyL (ws++[w]) d) j<=1000:=λd hd j=>by
  by_cases c:w.1.toNat=j
  ·rw[← c];exact ho d hd
  exact zHY gb d c
 have aZ:¬OvD ws w:=λ⟨d,h0,h1,h⟩=>by obtain⟨s,i,_,_,sb⟩:=zK3 (n:=n) h0 h1;have:=zHX sb (zIw ok s) w.1.toNat;have:=oa s ((mm s).mpr i) w.1.toNat;omega
 refine⟨_,rfl,dl,ds,rfl,SqL.of ed4,by omega,λd3 dX nu pm2 jA=>?_⟩;have s4b:=s4.trans (zD nu (.lst (dX.map V.int)));have kg:upd H4 d3 (.lst (dX.map V.int)) d3=some (.lst (dX.map V.int)):=zB;have fS:∀d,d∈dX↔zF0 ws w d:=λd=>by rw[pm2.mem_iff];exact md d
 have lW:∀d∈dX,∀j,zDS (wyL (ws++[w]) d) j<=1000:=λd hd=>oa d ((mm d).mpr ((fS d).mp hd));generalize upd H4 d3 (.lst (dX.map V.int))=H4b at s4b kg ⊢;refine⟨d3,rfl,⟨_,SqL.of kg⟩,zAx (xs:=dX.map V.int) (λi σ' H'=>∃(v5 v6:Option V),σ'=[some (.int (n:Nat)),some (.ref pl),some (.ref nw),some (.ref dl),v4,v5,v6]/\zAh H H'/\H' d3=some (.lst (dX.map V.int))/\∀d∈dX.take i,∀j,j < n->RL (wyL (ws++[w]) d) j)
  ⟨v5,none,rfl,s4b,kg,λd hd=>by rw[List.take_zero] at hd;cases hd⟩ (λi σ' H' _ ⟨_,_,_,_,e,_⟩=>SqL.of e) ?_ ?_⟩
 ·rintro i x σ' H' hi ⟨v5,v6,rfl,s',em',bQ⟩;rw[wHn] at hi;obtain⟨d,hd,rfl⟩:=wIA hi;refine⟨_,rfl,_,rfl,_,rfl,szl,λx1 dH=>⟨pl,x1,_,_,rfl,rfl,zD dH _ _ _ (s' _ _ hp),zB,by rw[wHf];exact small (by show _+1<=1000;omega),λp1 bY=>?_⟩⟩;have s4:=(s'.trans (zD dH (.lst [.ref nw]))).trans (zD bY (.lst (qs.map V.ref++[.ref nw])));refine⟨_,rfl,p1,ws++[w],d,rfl,zIx (s4 _ _ hp) lq (λi a ys e1 e2=>s4 _ _ (hq i a ys e1 e2)) (s4 _ _ cG) zB,lw,nn,λl H5 hl s5 t5=>?_⟩;obtain⟨rs,wa⟩:=zFM (K:=K) t5;have lR:=s4.trans s5;refine⟨n,l,rs,_,rfl,wa,zPc ok (lW d (wHO hd)),by omega,λsh f H6 hsh s6 es hf=>?_⟩;have ft:=lR.trans s6;have sm:zAh H' H6:=((zD dH (.lst [.ref nw])).trans (zD bY (.lst (qs.map V.ref++[.ref nw])))).trans (s5.trans s6);refine⟨_,rfl,szl,λl0 eD=>?_⟩;have s7:=ft.trans (zD eD (.lst []));refine⟨_,_,.lst (SqL.of (zD eD _ _ _ es)) (zKo _),.lst (SqL.of zB) .nil,zHE _,rfl,_,rfl,?_⟩;rw[zOJ];by_cases c:plc (λj=>!f j) n=[]
  ·rw[c];refine zB8 ⟨_,_,rfl,s7,(sm.trans (zD eD _)) _ _ em',λd' bS=>?_⟩;rw[wHY,hd] at bS;rcases wIC bS with z | z
   ·exact bQ d' z
   rw[wIz (show d'∈[d] from z)];intro j hj;refine zOf ((hf j).mp (wHW λy=>?_));have:((j:Nat):Int)∈plc (λj=>!f j) n:=zCn.mpr ⟨j,hj,by cases e:f j with | true=>exact absurd e y | false=>rfl,rfl⟩;rw[c] at this;cases this
  have ne:((plc (λj=>!f j) n).map PyData.int).isEmpty=false:=by
   cases e:plc (λj=>!f j) n with
   | nil=>exact absurd e c
   | cons a b=>rfl
  rw[ne];refine zG5 ⟨_,rfl,_,rfl,szl,λr hr=>?_⟩;have iE:=zIK o.sp.2.1 ((fS d).mp (wHO hd));have ef:plc (λj=>!f j) n=zGE n ws w d:=zHV λj _=>by
   rw[Bool.eq_iff_iff,zD4];cases e:f j with
   | true=>exact⟨λz=>(by cases z),λz=>absurd (zOf ((hf j).mp e)) z⟩
   | false=>exact⟨λ_ z=>(by rw[(hf j).mpr (zOe z)] at e;cases e),λ_=>rfl⟩
  refine q r _ (s7.trans (zD hr _)) (.shut d sh aZ ⟨iE.1,iE.2,by rw[← ef];exact c,λe e0 e1=>?_⟩ zB ?_)
  ·obtain⟨s,i,_,b,sb⟩:=zK3 (n:=n) e0 (show e<=w.2.2.2.2 by omega);have st:=bQ s (zRe jA hd ((fS s).mpr i) ∅);exact zMY.mpr λj hj=>zNb sb (zIw ok s) (lW s ((fS s).mpr i)) (st j hj)
  rw[← ef];exact ((zD eD (.lst [])).trans (zD hr _)) _ _ es
 rintro σ' H5 ⟨v5,v6,rfl,s5,kg,ho5⟩;rw[wHf,wHL] at ho5;refine⟨szl,λl0 eD=>⟨szl,λr hr=>?_⟩⟩;have s7:=s5.trans (zD eD (.lst []));refine q r _ (s7.trans (zD hr _)) (.none _ _ aZ (λd h0 h1=>?_) zB);obtain⟨s,i,_,b,sb⟩:=zK3 (n:=n) h0 h1;exact zMY.mpr λj hj=>zNb sb (zIw ok s) (lW s ((fS s).mpr i)) (ho5 s ((fS s).mpr i) j hj)
def Sp4 (a b x y:Int):Prop:=(x=0/\y=5000)∨(x=a/\y=5000)∨(x=0/\y=b)∨(x=a/\y=b)∨(x=b/\y=a)
def zSc {a b:Int} {ps:List Pct} (h:∀p∈ps,Sp4 a b p.2.2.2.1 p.2.2.2.2) (l:ps.length<=90):zL9 ps:=by refine⟨l,[0,a,b,5001,a+1,b+1],(by show 6<=60;decide),λp hp=>?_⟩;rcases h p hp with ⟨e1,e2⟩ | ⟨e1,e2⟩ | ⟨e1,e2⟩ | ⟨e1,e2⟩ | ⟨e1,e2⟩<;>rw[e1,e2]<;>simp
def zRd {a b:Int} {ws:List W5} {w:W5} (h:∀p∈ws++[w],Sp4 a b p.2.2.2.1 p.2.2.2.2) (l:ws.length<=80):zRC ws w:=by
 have key:∀p∈ws++[w],p.2.2.2.1∈([0,a,b]:List Int):=λp hp=>by rcases h p hp with ⟨e1,_⟩ | ⟨e1,_⟩ | ⟨e1,_⟩ | ⟨e1,_⟩ | ⟨e1,_⟩<;>rw[e1]<;>simp
 exact⟨l,[0,a,b],(by show 3<=60;decide),key w (by simp),λp hp=>key p (List.mem_append_left _ hp)⟩
inductive sp_span (K:W.Frag) (vs:List V) (H:Hp) (Q:VK) (E:XK):Prop
 | mk (dl:Addr) (dr:List Int) (pick:Int):vs=[.ref dl,.int pick]->(SqL K H dl (dr.map V.int)/\2<=dr.length/\
 ∀(q:Addr) (H':Hp) (x y:Int),H q=none->zAh H H'->H' q=some (.tup [.int x,.int y])->0<=x->x<=5000->y<=5000->x<=y->Sp4 (dr.getD 0 0%5001) (dr.getD 1 0%5001) x y->Q (.ref q) H')->sp_span K vs H Q E
def zOt (T:Txt P K mg t):FnOk P w K mg base CX0 40 t.wEu t.wEv ["_law_draws_here","_law_pick"] (sp_span K):=by
 refine T.wF2.ok zFS ⟨⟩ ();obtain⟨dl,dr,pick,rfl,hS,l2,q⟩:=h;refine⟨_,(zC (zAF 2 zFS.nd (zV zAu (zAA K (pv 0) zH) zH))
  (zC (zAF 3 zFS.nd (zV zAu (zAA K (pv 0) zH) zH))
  (zC (zAF 4 zFS.nd (zAo (zG (zAS (zQ zH zH zE zM zM)) (zAe (zAS (zQ (pv 2) zH zE zA zM)) (zAS (zQ zH (pv 3) zE zM zA)) (zAS (zQ (zR (zHq rfl) rfl T.wGt PyProof.Rows.boot_min (zQ (pv 2) (pv 3) zE zA zA)) (zR (zHr rfl) rfl T.wGs PyProof.Rows.boot_max (zQ (pv 2) (pv 3) zE zA zA)) zE zS zS)) zE zAE zAE zAE) zAE)))
  (zF (zT (zAA K (pv 4) (zV zAu (pv 1) zH))))))),?_⟩
 have ai0:atI (dr.map V.int) 0=some (.int (dr.getD 0 0)):=zDw (k:=0) ⋯ ∅;have ai1:atI (dr.map V.int) 1=some (.int (dr.getD 1 0)):=zDw (k:=1) ⋯ ∅;refine⟨_,rfl,dl,_,0,_,rfl,rfl,hS,ai0,_,_,rfl,rfl,by decide,?_⟩;refine⟨_,rfl,dl,_,1,_,rfl,rfl,hS,ai1,_,_,rfl,rfl,by decide,?_⟩;have a0:=zAW (x:=dr.getD 0 0) (m:=5001) (n:=5001) ⋯ ⋯;have b0:=zAW (x:=dr.getD 1 0) (m:=5001) (n:=5001) ⋯ ⋯;generalize dr.getD 0 0%5001=a at a0 q ⊢;generalize dr.getD 1 0%5001=b at b0 q ⊢;obtain⟨x,ex⟩:∃x,x=if b < a then b else a:=⟨_,rfl⟩;obtain⟨y,ey⟩:∃y,y=if b > a then b else a:=⟨_,rfl⟩;refine⟨zAz,λt0 h0=>⟨_,rfl,zAz,λt1 h1=>⟨_,rfl,zAz,λt2 h2=>⟨_,rfl,_,rfl,_,_,rfl,_,rfl,_,rfl,_,_,rfl,?_⟩⟩⟩⟩;rw[← ex,← ey];refine⟨zAz,λt3 h3=>⟨szl,λsl dI=>?_⟩⟩;have u0:=zD h0 (.tup [V.int 0,V.int 5000]);have u1:=zD h1 (.tup [V.int a,V.int 5000]);have u2:=zD h2 (.tup [V.int 0,V.int b]);have u3:=zD h3 (.tup [V.int x,V.int y]);have u4:=zD dI (.lst [V.ref t0,V.ref t1,V.ref t2,V.ref t3]);have f0:=(u1.trans (u2.trans (u3.trans u4))) _ _ (zB (H:=H) (a:=t0) (o:=.tup [V.int 0,V.int 5000]));have f1:=(u2.trans (u3.trans u4)) _ _ (zB (a:=t1) (o:=.tup [V.int a,V.int 5000]));have f2:=(u3.trans u4) _ _ (zB (a:=t2) (o:=.tup [V.int 0,V.int b]));have f3:=u4 _ _ (zB (a:=t3) (o:=.tup [V.int x,V.int y]));have u:=u0.trans (u1.trans (u2.trans (u3.trans u4)));have es:=zB (H:=upd (upd (upd (upd H t0 (.tup [V.int 0,V.int 5000])) t1 (.tup [V.int a,V.int 5000])) t2 (.tup [V.int 0,V.int b])) t3 (.tup [V.int x,V.int y])) (a:=sl) (o:=.lst [V.ref t0,V.ref t1,V.ref t2,V.ref t3]);have n0:=h0;have n1:=u0.free h1;have n2:=(u0.trans u1).free h2;have n3:=(u0.trans (u1.trans u2)).free h3;generalize upd (upd (upd (upd (upd H t0 (.tup [V.int 0,V.int 5000])) t1 (.tup [V.int a,V.int 5000])) t2 (.tup [V.int 0,V.int b])) t3 (.tup [V.int x,V.int y])) sl (.lst [V.ref t0,V.ref t1,V.ref t2,V.ref t3])=H4 at f0 f1 f2 f3 u es ⊢;have key:∃t x' y',atI [V.ref t0,V.ref t1,V.ref t2,V.ref t3] (pick%4)=some (.ref t)/\H t=none/\H4 t=some (.tup [.int x',.int y'])/\0<=x'/\x'<=5000/\y'<=5000/\x'<=y'/\Sp4 a b x' y':=by
  have h:=zAW (x:=pick) (m:=4) (n:=4) ⋯ ⋯;have c:pick%4=0∨pick%4=1∨pick%4=2∨pick%4=3:=by omega
  rcases c with c | c | c | c<;>rw[c]
  ·exact⟨t0,_,_,rfl,n0,f0,by decide,by decide,by decide,by decide,.inl ⟨rfl,rfl⟩⟩
  ·exact⟨t1,_,_,rfl,n1,f1,by omega,by omega,by decide,by omega,.inr (.inl ⟨rfl,rfl⟩)⟩
  ·exact⟨t2,_,_,rfl,n2,f2,by decide,by decide,by omega,by omega,.inr (.inr (.inl ⟨rfl,rfl⟩))⟩
  refine⟨t3,_,_,rfl,n3,f3,by rw[ex];split<;>omega,by rw[ex];split<;>omega,by rw[ey];split<;>omega,by rw[ex,ey];by_cases z:b < a<;>by_cases z2:b > a<;>simp only[z,z2,if_true,if_false]<;>omega,?_⟩;rw[ex,ey];by_cases z:b < a
  ·rw[wHl z,wHj ∅];exact .inr (.inr (.inr (.inr ⟨rfl,rfl⟩)))
  rw[wHj z];by_cases z2:b > a
  ·rw[wHl z2];exact .inr (.inr (.inr (.inl ⟨rfl,rfl⟩)))
  rw[wHj z2];have e:a=b:=by omega
  exact .inr (.inr (.inr (.inl ⟨rfl,e⟩)))
 obtain⟨tt,x',y',bG,nt,et,b1,b2,b3,b4,sp⟩:=key;refine⟨_,rfl,_,rfl,_,_,rfl,rfl,by decide,sl,_,_,_,rfl,rfl,SqL.of es,bG,?_⟩;exact q tt H4 x' y' nt u et b1 b2 b3 b4 sp
def nmV (ns:List Str) (L:List Int):List V:=L.map λj=>V.str (ns.getD j.toNat Str.empty)
inductive FitC (H:Hp) (a du:Addr) (ns:List Str):Prop
 | ans (y z:V):H a=some (.lst [.str "answer",.non])->H du=some (.tup [.str "",y,z])->FitC H a du ns
 | ref (y z:V):H a=some (.lst [.str "refused",.str "too much"])->H du=some (.tup [.str "too much",y,z])->FitC H a du ns
 | shut (d:Int) (m l:Addr) (L:List Int):H a=some (.lst [.str "refused",.str "shut in",.int d,.ref m])->H du=some (.tup [.str "shut in",.int d,.ref l])->H l=some (.lst (L.map V.int))->H m=some (.lst (nmV ns L))->(∀x∈L,0<=x/\x < ns.length)->L.length<=900->FitC H a du ns
inductive sp_fits (K:W.Frag) (vs:List V) (H:Hp) (Q:VK) (E:XK):Prop
 | mk (a du nl:Addr) (ns:List Str):vs=[.ref a,.ref du,.ref nl]->(FitC H a du ns/\H nl=some (.lst (ns.map V.str))/\∀H',zAh H H'->Q (.bl true) H')->sp_fits K vs H Q E
def zOx (T:Txt P K mg t):FnOk P w K mg base CX0 41 t.wEw t.wEx ["_law_told","_law_due","_law_names_here"] (sp_fits K):=by
 refine T.wF3.ok zNW ⟨⟩ ();obtain⟨a,du,nl,ns,rfl,fc,en,q⟩:=h;refine⟨_,(zC (zAs (zAb zCB (zBr K (pv 1) zH) zAK (zAg _)) (zF (zT (zIB (zBL zCB (zAA K (pv 0) zH) zAK (zAg _)) (zI7 (zBL zPM (zAA K (pv 0) zH) zI8 (zAg _)))))) zZ)
  (zC (zAs (zAG (zA1 (cal (zJo T) hr T.wFX T.wD1 T.wFW (zQ (pv 0) (zBr K (pv 1) zH) zE zA zK)))) (zF (zT zAT)) zZ)
  (zC (zAs (zAb zCB (zBr K (pv 1) zH) zAK (zAg _)) (zF (zT zAT)) zZ)
  (zC (zAs (PW.pt (zDB (zAG (zA1 (cal (zDl T) hr T.wBG T.wA3 T.wBF (zG (zAA K (pv 0) zH) zE zK)))) (zCp (zAb zDF (zAA K (pv 0) zH) (zBr K (pv 1) zH) (zAg _))))) (zF (zT zAT)) zZ)
  (zF (zT (cal (zMl T) hr T.wGF T.wFm T.wGE (zQ (zAA K (pv 0) zH) (zA8 ["_law_k","_law_names_here"] [none,some 2] (by kernel_rfl) rfl (zKy (zJj zNh (pv 1) zH (λ_ _=>rfl))) (λ_ _ _ _ _=>(zJ (i:=0) ndB rfl (Or.inl rfl))) (λ_ _ _ _ _=>zAw) (λ_ _ _ _ _=>(zAA K (pv 1) (pv 0)))) zE zK zAq)))))))),?_⟩
 cases fc with
 | ans y z ea ed=>
  have Sa:=SqL.of (K:=K) ea;refine⟨_,rfl,du,_,0,_,rfl,rfl,SqT.of ed,rfl,rfl,_,rfl,zKU rfl ?_⟩;refine⟨_,rfl,a,_,0,_,rfl,rfl,Sa,rfl,rfl,_,rfl,zKU rfl ?_⟩;exact⟨_,rfl,a,_,1,_,rfl,rfl,Sa,rfl,rfl,q H (zAh.refl _)⟩
 | ref y z ea ed=>
  refine⟨_,rfl,du,_,0,_,rfl,rfl,SqT.of ed,rfl,rfl,_,rfl,zJw (show ¬V.str "too much"=V.str "" by nofun) ?_⟩;refine⟨_,rfl,_,rfl,du,_,0,_,rfl,rfl,SqT.of ed,rfl,a,_,[],rfl,SqL.of ea,_,rfl,zB8 ?_⟩;exact⟨_,rfl,du,_,0,_,rfl,rfl,SqT.of ed,rfl,rfl,_,rfl,zKU rfl (q H (zAh.refl _))⟩
 | shut d m l L ea ed el em hL lL=>
  have Sa:=SqL.of (K:=K) ea;refine⟨_,rfl,du,_,0,_,rfl,rfl,SqT.of ed,rfl,rfl,_,rfl,zJw (by nofun) ?_⟩;refine⟨_,rfl,_,rfl,du,_,0,_,rfl,rfl,SqT.of ed,rfl,a,_,_,rfl,Sa,_,rfl,zB8 ?_⟩;refine⟨_,rfl,du,_,0,_,rfl,rfl,SqT.of ed,rfl,rfl,_,rfl,zJw (show ¬V.str "shut in"=V.str "too much" by nofun) ?_⟩;refine⟨_,rfl,a,_,2,_,rfl,rfl,Sa,rfl,.inl ⟨d,rfl,_,rfl,zB8 ?_⟩⟩;refine⟨_,rfl,a,_,2,_,rfl,rfl,Sa,rfl,_,rfl,du,_,1,_,rfl,rfl,SqT.of ed,rfl,rfl,_,rfl,zEi rfl ?_⟩;refine⟨_,rfl,a,_,3,_,rfl,rfl,Sa,rfl,_,rfl,du,_,2,_,rfl,rfl,SqT.of ed,rfl,l,rfl,⟨_,SqL.of el⟩,λg hg=>?_⟩;refine zAl (K:=K) (ys:=L.map V.int) (λi σ' H2=>∃v,σ'=[v,some (.ref nl)]/\H2=upd H g (.lst ((nmV ns L).take i))) ⟨none,rfl,rfl⟩ (λj σ2 H2 _ ⟨_,_,e⟩=>by rw[e];exact SqL.of (zD hg _ _ _ el)) ?_ ?_
  ·rintro i x σ' H2 hx ⟨v,rfl,rfl⟩;rw[wHn] at hx;obtain⟨y,hy,rfl⟩:=wIA hx;obtain⟨y0,yn⟩:=hL y (wHO hy);have bG:atI (ns.map V.str) y=some (.str (ns.getD y.toNat Str.empty)):=zAB y0 (by rw[wHn,wHh,wHg (show y.toNat < ns.length by omega)];rfl);refine⟨_,rfl,_,rfl,nl,_,_,_,rfl,rfl,SqL.of (zD hg _ _ _ en),bG,_,zB,by rw[wHD];unfold nmV;rw[wHf];exact zAj ∅,_,rfl,?_⟩;rw[zBi];refine congrArg (λl=>upd H g (.lst l)) ?_;unfold nmV;rw[wHY,wHn,hy]
   rfl
  rintro σ' H2 ⟨v,rfl,eH⟩;rw[wHf,show L.length=(nmV ns L).length by unfold nmV;rw[wHf],wHL] at eH;have s2:=zD hg (.lst (nmV ns L));have eg:upd H g (.lst (nmV ns L)) g=some (.lst (nmV ns L)):=zB;rw[← eH] at s2 eg;exact⟨m,g,nmV ns L,rfl,s2 _ _ em,SqL.of eg,by unfold nmV;rw[wHf];exact lL,λx hx=>let ⟨_,_,e⟩:=List.mem_map.mp hx;⟨_,e.symm⟩,q _ s2⟩
def zQS (T:Txt P K mg t):ExW K t (zQ2 t 6) 6/\W.exmOne K (.ref (zQ2 t 6)) (.ref t.wAa)=some false:=⟨⟨T.wF8,T.wCb,T.wB3,T.wCE,T.wB0,T.wBC,T.wCz,T.wB1,T.wB2,T.wCF,T.wC8,T.wDV,T.wBJ,T.wCG⟩,T.wC7⟩
def zRi (T:Txt P K mg t) {H:Hp} {Q:VK} {E:XK} {b tl rw:Addr} {ns:List Str} {ws:List W5} {w:W5} (hB:zAC H t.wAc b tl (bkP ns (ws.map (pOf ns)))) (nd:ns.Nodup) (cO:∀n∈ns,zJ9 n) (aI:ns.length<=15) (g:GoodB ns.length ws) (o:OkN ns.length w) (lw:ws.length<=79) (cI:zL9 (ws.map (pOf ns)++[pOf ns w])) (er:H rw=some (.lst (.str "pact"::(pOf ns w).vs)))
  (qO:OvD ws w->∀a H',zAh H H'->H' a=some (.lst [.str "refused",.str (zBw 6)])->Q (.ref a) H')
  (qS:¬OvD ws w->∀d a m H',ShD ns.length ws w d->zAh H H'->H' a=some (.lst [.str "refused",.str "shut in",.int d,.ref m])->H' m=some (.lst (nmV ns (zGE ns.length ws w d)))->Q (.ref a) H')
  (qN:¬OvD ws w->(∀d,w.2.2.2.1<=d->d<=w.2.2.2.2->zGE ns.length ws w d=[])->∀a H',zDy tl H H'->zAC H' t.wAc b tl (bkP ns ((ws++[w]).map (pOf ns)))->H' a=some (.lst [.str "answer",.non])->Q (.ref a) H'):zMW K t (sp_call K t) [.ref b,.ref rw] H Q E:=by
 have en:=zHv ns (ws.map (pOf ns));have ep:=zFc ns (ws.map (pOf ns));have tw:=tN nd o;have ov:=zPJ nd g o;have eE:=zDU nd (ws:=[w]) λp hp=>by rw[wIz hp];exact o
 have i12:=eE.inn (pOf ns w) (by simp);have sw:∀{k},zKh ns (ws.map (pOf ns)) (pOf ns w).1 (pOf ns w).2.1 w.2.2.1 w.2.2.2.1 w.2.2.2.2=k->(k=some 6/\OvD ws w)∨(k=none/\¬OvD ws w):=λ{k} e=>by
  by_cases c:zJ8 ns (ws.map (pOf ns)) (pOf ns w)
  ·have e':=zNa tw c;exact .inl ⟨e.symm.trans e',ov.mp c⟩
  have e':=zI5 tw c;exact .inr ⟨e.symm.trans e',λz=>c (ov.mpr z)⟩
 refine⟨rfl,λH0 Q' E' s0 hq he hs=>⟨b,tl,rw,_,_,_,_,_,_,_,rfl,hB.same s0,s0 _ _ er,b,tl,_,_,_,_,_,_,rfl,hB.same s0,by rw[zIs,wHf];omega,by rw[en];omega,by rw[ep];exact cI,(cO _ i12.1).sane,(cO _ i12.2).sane,?_⟩⟩;rw[en,ep];refine⟨λ_=>zMy nd g o,λH' k e s=>?_,λd0 H' dx e fs s hD=>?_,λH' e bN c8 s=>?_,λH' e bN c8 k B=>?_⟩
 ·rcases sw e with ⟨z,c⟩ | ⟨z,_⟩
  ·cases z;obtain⟨W,ns'⟩:=zQS T;exact he _ _ _ ⟨_,6,rfl,W,ns',by decide,zDz.no,λa H2 s2 ha ea=>qO c a H2 (s0.trans (s.trans s2)) ea⟩
  cases z
 ·have c:=((sw e).resolve_left λz=>by cases z.1).2;obtain⟨m,m0,m1,m2⟩:=hD;have ew:zI2 ns (ws.map (pOf ns)++[pOf ns w]) d0=nmV ns (zGE ns.length ws w d0):=by have e':=zI3 nd (zBN g.ok o) d0;unfold zI2 nmV;rw[e']
  refine hs dx m d0 H' m1 λl H2 s2 nl el=>qS c d0 l m H2 (zOF nd g o fs) ((s0.trans s).trans s2) el (s2 _ _ ?_);rw[m2];exact congrArg (λl=>some (HO.lst l)) ew
 ·rw[wHf] at c8;omega
 have c:=((sw e).resolve_left λz=>by cases z.1).2;refine hq _ _ λa ha=>?_;refine qN c (zMx nd g o bN) a _ ((zDy.of s0).trans (k.trans (zDy.of (zD ha _)))) ?_ zB;rw[← zBo,zMR];exact B.same (zD ha _)
def zIz {n g r:Int} (h0:0<=g) (h1:g < n) (h2:0<=r) (h3:r+1 < n):(0<=(g+1+r)%n/\(g+1+r)%n < n)/\g≠(g+1+r)%n:=by
 refine⟨⟨Int.emod_nonneg _ ∅,Int.emod_lt_of_pos _ ∅⟩,?_⟩;by_cases c:g+1+r < n
 ·rw[Int.emod_eq_of_lt ∅ c];omega
 have e:g+1+r=(g+1+r-n)+n:=by omega
 rw[e,Int.add_emod_right,Int.emod_eq_of_lt ∅ ∅];omega
def zNU {t u:TS} {D:Ends} {σ:St} {H:Hp} (h:∀R:St->Hp->Prop,(∀σ H,u D σ H->R σ H)->t { D with nx:=R } σ H):zJN t u D σ H:=h _ λ_ _ x=>x
inductive sp_made_pact (K:W.Frag) (vs:List V) (H:Hp) (Q:VK) (E:XK):Prop
 | mk (dl pl el:Addr) (dr:List Int) (k n:Nat) (ws:List W5) (x y:Int):vs=[.ref dl,.int (k:Nat),.int (n:Nat),.ref pl,.ref el]->(SqL K H dl (dr.map V.int)/\dr.length=88/\k < 80/\2<=n/\n<=15/\zAf H pl (ws.map W5.vs)/\(∀p∈ws,OkN n p)/\ws.length<=80/\H el=some (.tup [.int x,.int y])/\
 ∀(q:Addr) (H':Hp) (w:W5),H q=none->zAh H H'->H' q=some (.tup w.vs)->w.2.2.2.1=x->w.2.2.2.2=y->(0<=w.1/\w.1 < n)->(0<=w.2.1/\w.2.1 < n)->w.1≠w.2.1->(1<=w.2.2.1/\w.2.2.1<=1000)->Q (.ref q) H')->sp_made_pact K vs H Q E
def zGU (T:Txt P K mg t):FnOk P w K mg base CX0 41 t.wBx t.wBy ["_law_draws_here","_law_k","_law_count","_law_pacts","_law_ends"] (sp_made_pact K):=by
 refine T.wCP.ok zAJ ⟨⟩ ();obtain⟨dl,pl,el,dr,k,n,ws,x,y,rfl,hS,ld,k80,n2,aI,hP,jB,lw,he,q⟩:=h;refine⟨_,(zC (zAF 5 zAJ.nd (zAA K (pv 0) (zV zBn zH (pv 1))))
  (zC (zAF 6 zAJ.nd (zV zAu (zV zBM (pv 5) zH) (pv 2)))
  (zC (zAF 7 zAJ.nd (zV zAu (zV zBn (zV zBn (pv 6) zH) (zV zAu (zV zBM (pv 5) zH) (zV zEI (pv 2) zH))) (pv 2)))
  (zC (zAs (PW.pt (zEA (zAb zCB (zV zAu (zAA K (pv 0) zH) zH) zH (zAg _)) (zDC (zAb zFr (pv 1) (pv 2) (zAg _))))) (zC (zAF 6 zAJ.nd (pv 1))
  (zF (zAF 7 zAJ.nd (zV zAu (zV zBn (pv 1) zH) (pv 2))))) zZ)
  (zC (zAF 8 zAJ.nd (zAA K (cal (zGg T) hr T.wDm T.wCv T.wDl (zQ (pv 2) (cal (zMo T) hr T.wFD T.wEQ T.wFC (zQ (pv 3) (zBr K (pv 4) zH) zE zA zK)) zE zA zS)) (pv 6)))
  (zC (zAF 9 zAJ.nd (zAA K (zAo (zG (zV zBn zH (zV zAu (zV zBM (pv 5) zH) zH)) (zAe (pv 8) (zV zBn zH (zV zAu (zV zBM (pv 5) zH) zH)) (zV zEI (pv 8) zH) zE zA zX zX) zX)) (zV zAu (zV zBM (pv 5) zH) zH)))
  (zF (zT (zAS (zQ (pv 6) (pv 7) (zAe (zR (zHr rfl) rfl T.wGs PyProof.Rows.boot_max (zQ zH (pv 9) zE zM zA)) (zBr K (pv 4) zH) (zBr K (pv 4) zH) zE zS zK zK) zA zA)))))))))),?_⟩
 have at_:∀j:Nat,j < 88->atI (dr.map V.int) ((j:Nat):Int)=some (.int (dr.getD j 0)):=λj hj=>zDw (ns:=dr) (k:=((j:Nat):Int)) ∅ ∅
 have a2:atI (dr.map V.int) 2=some (.int (dr.getD 2 0)):=at_ 2 ⋯
 have ak:atI (dr.map V.int) (3+(k:Int))=some (.int (dr.getD (3+k) 0)):=by rw[show (3+(k:Int))=((3+k:Nat):Int) by omega];exact at_ _ ∅
 refine⟨_,rfl,_,rfl,_,_,rfl,rfl,dl,_,_,_,rfl,rfl,hS,ak,?_⟩;generalize dr.getD (3+k) 0=pick;refine⟨_,rfl,_,_,rfl,rfl,⟨by decide,by decide⟩,_,rfl,_,_,rfl,rfl,(by show (0:Int) < (n:Int);omega),?_⟩;have gb:0<=pick / 4%(n:Int)/\pick / 4%(n:Int) < n:=⟨Int.emod_nonneg _ ∅,Int.emod_lt_of_pos _ ∅⟩;have rb:0<=pick / 60%((n:Int)-1)/\pick / 60%((n:Int)-1) < (n:Int)-1:=⟨Int.emod_nonneg _ ∅,Int.emod_lt_of_pos _ ∅⟩;have tb:=zIz gb.1 gb.2 rb.1 ∅;refine⟨_,rfl,_,_,rfl,rfl,_,rfl,_,_,rfl,rfl,⟨by decide,by decide⟩,_,rfl,_,_,rfl,rfl,_,_,rfl,rfl,(by show (0:Int) < (n:Int)-1;omega),_,_,rfl,rfl,_,rfl,_,_,rfl,rfl,(by show (0:Int) < (n:Int);omega),?_⟩;dsimp only [zIm,List.set];generalize (pick / 4%(n:Int)+1+pick / 60%((n:Int)-1))%(n:Int)=u at tb ⊢;generalize pick / 4%(n:Int)=g at gb tb ⊢;refine zNU λR hR=>?_;have go:∀g u:Int,0<=g->g < n->0<=u->u < n->g≠u->R [some (.ref dl),some (.int (k:Nat)),some (.int (n:Nat)),some (.ref pl),some (.ref el),some (.int pick),some (.int g),some (.int u),none,none] H:=by
  intro g u g0 g1 u0 u1 ne;refine hR _ _ ?_;have nn:∀p∈ws,0<=p.1/\0<=p.2.1:=λp hp=>⟨(jB p hp).g.1,(jB p hp).u.1⟩;refine⟨_,rfl,_,rfl,_,rfl,el,_,0,_,rfl,rfl,SqT.of he,rfl,pl,ws,x,rfl,hP,by omega,nn,λr H1 hr s1 T1=>?_⟩;obtain⟨rs,wa⟩:=zFM (K:=K) T1;refine⟨n,r,rs,_,rfl,wa,zN7 jB x,by omega,λkd H2 hkd s2 ek=>?_⟩;have aP:=s1.trans s2;have kb:keeps (wyL ws x) g.toNat<=1000:=by rw[zBV];have:=zOq (zIw jB x) g.toNat;omega
  have ix:atI (tab n λh=>V.int (keeps (wyL ws x) h)) g=some (.int (keeps (wyL ws x) g.toNat)):=zH0 ∅ ∅;refine⟨_,rfl,kd,_,_,_,rfl,rfl,SqL.of ek,ix,?_⟩;generalize keeps (wyL ws x) g.toNat=rest at kb;have zb:=zAW (x:=pick / 840) (m:=40) (n:=40) ⋯ ⋯;refine⟨_,rfl,_,_,rfl,rfl,⟨by decide,by decide⟩,_,_,rfl,rfl,by decide,_,_,rfl,rfl,_,rfl,_,rfl,_,_,rfl,rfl,⟨by decide,by decide⟩,_,_,rfl,rfl,by decide,_,_,rfl,rfl,_,rfl,_,_,rfl,rfl,szl,λl hl=>?_⟩;generalize pick / 840%40=z at zb;have s3:=aP.trans (zD hl (.lst [V.int (1+z),V.int rest,V.int (1+z),V.int (rest-1)]));have el3:=zB (H:=H2) (a:=l) (o:=.lst [V.int (1+z),V.int rest,V.int (1+z),V.int (rest-1)]);generalize upd H2 l (.lst [V.int (1+z),V.int rest,V.int (1+z),V.int (rest-1)])=H3 at s3 el3 ⊢;have bG:∃p:Int,atI [V.int (1+z),V.int rest,V.int (1+z),V.int (rest-1)] (pick / 33600%4)=some (.int p)/\p<=1000:=by
   have h:=zAW (x:=pick / 33600) (m:=4) (n:=4) ⋯ ⋯;have c:pick / 33600%4=0∨pick / 33600%4=1∨pick / 33600%4=2∨pick / 33600%4=3:=by omega
   rcases c with c | c | c | c<;>rw[c]
   ·exact⟨_,rfl,by omega⟩
   ·exact⟨_,rfl,by omega⟩
   ·exact⟨_,rfl,by omega⟩
   exact⟨_,rfl,by omega⟩
  obtain⟨p,bG,pb⟩:=bG;refine⟨_,rfl,_,_,rfl,rfl,⟨by decide,by decide⟩,_,_,rfl,rfl,by decide,l,_,_,_,rfl,rfl,SqL.of el3,bG,?_⟩;have he3:=s3 _ _ he;refine⟨_,rfl,_,rfl,_,rfl,_,_,rfl,_,rfl,el,_,0,_,rfl,rfl,SqT.of he3,rfl,_,rfl,el,_,1,_,rfl,rfl,SqT.of he3,rfl,szl,λr2 hr2=>?_⟩;refine q r2 _ (g,u,_,x,y) (s3.free hr2) (s3.trans (zD hr2 _)) zB rfl rfl ⟨g0,g1⟩ ⟨u0,u1⟩ ne ?_;show 1<=(if p > 1 then p else 1)/\(if p > 1 then p else 1)<=1000
  split<;>omega
 refine⟨_,rfl,dl,_,2,_,rfl,rfl,hS,a2,_,_,rfl,rfl,by decide,rfl,_,rfl,zCH (λ_=>?_) (λ_=>zB8 (go g u gb.1 gb.2 tb.1.1 tb.1.2 tb.2))⟩;refine⟨_,rfl,_,rfl,_,_,rfl,rfl,_,rfl,?_⟩;by_cases c:(k:Int) < n
 ·refine zKU c ⟨_,rfl,_,rfl,_,_,rfl,rfl,_,rfl,_,_,rfl,rfl,(by show (0:Int) < (n:Int);omega),?_⟩;have jw:=zIz (n:=(n:Int)) (g:=(k:Int)) (r:=0) ∅ c ⋯ ∅;rw[Int.add_zero] at jw;exact go _ _ ∅ c jw.1.1 jw.1.2 jw.2
 exact zJw c (go g u gb.1 gb.2 tb.1.1 tb.1.2 tb.2)
def zF5 {n:Nat} {ws:Wys} {s0:Nat} {X Y U W U' W':Nat->Int} (pp:zR7 n ws s0 X Y) (sh:zQ4 n ws s0 U W) (dd:∀i,i < n->0 < W' i/\Nat.gcd (U' i).natAbs (W' i).natAbs=1/\U' i*(1000*Y i)=keeps ws i*X i*W' i):∀i,i < n->U' i=U i/\W' i=W i:=by
 obtain⟨fo,key⟩:=pp;obtain⟨X2,Y2,iQ,fg,gX,fO⟩:=sh;have same:∀i,i < n->X i*Y2 i=X2 i*Y i:=λi hi=>by
  obtain⟨P,p0,hP⟩:=zG2 n fo.pos;have hR:∀i,∃R,i < n->Y i*R=P:=λi=>by
   by_cases c:i < n
   ·obtain⟨R,e⟩:=hP i c;exact⟨R,λ_=>e.symm⟩
   exact⟨0,λz=>absurd z c⟩
  obtain⟨R,hR⟩:=Classical.axiomOfChoice hR;have so:=(gX _ _).mpr ((key (λi=>X i*R i) P).mp λi hi=>by show X i*R i*Y i=X i*P;rw[← hR i hi];grind)
  have e:=so i hi;have r0:0 < R i:=zCZ (fo.pos i hi) (by rw[hR i hi];exact p0);refine zB2 r0 ?_;have e':X i*R i*Y2 i=X2 i*P:=e;rw[← hR i hi] at e'
  grind
 intro i hi;obtain⟨w0,g,e⟩:=dd i hi;refine zO3 w0 (fg.pos i hi) g (fg.one i hi) ?_;have e2:=fO i hi;have e3:=same i hi;refine zB2 (c:=1000*Y i) (by have:=fo.pos i hi;omega) ?_;refine zB2 (c:=Y2 i) (iQ.pos i hi) ?_
 grind
def zMK {n:Nat} {am:Int} {U W U' W' c:Nat->Int} (h:zPa n am U W c) (e:∀i,i < n->U' i=U i/\W' i=W i):zPa n am U' W' c:=by obtain⟨low,w,tk,l0,e1,r⟩:=h;exact⟨low,w,tk,l0,λi hi=>by rw[(e i hi).1,(e i hi).2];exact e1 i hi,r⟩
inductive sp_right (K:W.Frag) (C:Addr) (vs:List V) (H:Hp) (Q:VK) (E:XK):Prop
 | mk (b tl nl pl:Addr) (ns:List Str) (ws:List W5) (s0:Nat) (d:Int):vs=[.ref b,.ref nl,.ref pl,.int (s0:Nat),.int d]->(zAC H C b tl (bkP ns (ws.map (pOf ns)))/\H nl=some (.lst (ns.map V.str))/\zAf H pl (ws.map W5.vs)/\ns.Nodup/\(∀n∈ns,zJ9 n)/\ns.length<=15/\GoodB ns.length ws/\ws.length<=80/\s0 < ns.length/\(0<=d/\d<=5000)/\
 ∀H',zAh H H'->Q (.bl true) H')->sp_right K C vs H Q E
def zMm (T:Txt P K mg t):FnOk P w K mg base CX0 47 t.wDM t.wDN ["_law_book","_law_names_here","_law_pacts","_law_start","_law_day"] (sp_right K t.wAc):=by
 refine T.wFq.ok zEm ⟨⟩ ();obtain⟨b,tl,nl,pl,ns,ws,s0,d,rfl,hB,en,TP,nd,cO,aI,gb,lw,sn,hd,k⟩:=h;refine⟨_,(zC (zAF 5 zEm.nd (cal (zMo T) hr T.wFD T.wEQ T.wFC (zQ (pv 2) (pv 4) zE zA zA)))
  (zC (zAF 6 zEm.nd (zCl (pv 0) T.wAi T.wEM ((zGi T).mono ⋯) hr T.wEL .nil zMi (zQ (zAA K (pv 1) (pv 3)) (pv 4) zE zK zA)))
  (zC (zAs (zAG (zA1 (cal (zJp T) hr T.wFZ T.wD2 T.wFY (zG (pv 6) (zAe (zR (zAd K) rfl T.wAh wHB (zG (pv 1) zE zA)) (pv 5) (pv 3) zE zS zA zA) zA)))) (zF (zT zAT)) zZ)
  (zC (zAF 7 zEm.nd (cal (zId T) hr T.wFJ T.wDo T.wFI (zAe (pv 6) (zR (zAd K) rfl T.wAh wHB (zG (pv 1) zE zA)) (pv 5) zE zA zS zA)))
  (zC (zAs (zAG (zA1 (cal (zOu T) hr T.wGV T.wF1 T.wGU (zQ (zCl (pv 0) T.wAi T.wB9 ((zCF T).mono ⋯) hr T.wB8 .nil zMi (zQ (zAA K (pv 1) (pv 3)) (pv 4) zE zK zA)) (pv 7) zE zS zA)))) (zF (zT zAT)) zZ)
  (zF (zT (cal (zPQ T) hr T.wG6 T.wGq T.wG5 (zQ (zCl (pv 0) T.wAi T.wEP ((zGk T).mono ⋯) hr T.wEO .nil zMi (zAe (zAA K (pv 1) (pv 3)) (pv 4) zH zE zK zA zM)) (cal (zMn T) hr T.wGH T.wFp T.wGG (zQ zH (pv 7) zE zM zA)) zE zS zS))))))))),?_⟩
 have nn:∀p∈ws,0<=p.1/\0<=p.2.1:=λp hp=>⟨(gb.ok p hp).g.1,(gb.ok p hp).u.1⟩;refine⟨_,rfl,_,rfl,pl,ws,d,rfl,TP,by omega,nn,λr H1 hr s1 T1=>?_⟩;obtain⟨rs,wa⟩:=zFM (K:=K) T1;have cC:=zHv ns (ws.map (pOf ns));have dQ:=zFc ns (ws.map (pOf ns));have lz:(bkP ns (ws.map (pOf ns))).length<=900:=by rw[zIs,wHf];omega
 have wo:=(gb.wy nd d).1;have op:=(gb.wy nd d).2;have wq:=zB3 nd gb.ok d;have hm:ns.getD s0 Str.empty∈ns:=by rw[wHh,wHg sn];exact wHF _
 have sane:=(cO _ hm).sane;have ix:=zFI nd sn;have o8:atI (ns.map V.str) (s0:Int)=some (.str (ns.getD s0 Str.empty)):=zPs ∅ ∅;have B1:=hB.same s1;obtain⟨dE,_,bV,_⟩:=id B1;refine⟨_,rfl,b,dE,_,rfl,bV,rfl,_,rfl,_,rfl,nl,_,_,_,rfl,rfl,SqL.of (s1 _ _ en),o8,_,rfl,?_⟩;refine⟨b,tl,_,_,d,rfl,B1,lz,sane,by rw[cC];exact aI,by rw[cC,dQ];exact zDU nd gb.ok,by rw[dQ,wHf];omega,λz=>absurd hm (by rw[cC] at z;exact z),λ_ z=>absurd hd z,λ_ _=>?_⟩;rw[cC,dQ,ix];refine⟨wo,op,λdp q X Y H2 hdp s2 fa pp fb=>?_⟩;have wo0:=wo;have op0:=op;rw[wq] at pp wo;have wa2:=wa.mono s2;have lnn:((ns.map V.str).length:Int)=(ns.length:Nat):=by rw[wHf]
 have en2:=(s1.trans s2) _ _ en;refine⟨_,rfl,_,rfl,nl,_,rfl,.inl (SqL.of en2),_,rfl,_,rfl,dp,r,q,ns.length,s0,X,Y,rs,_,by rw[← lnn];rfl,fa,pp.1,wa2,wo,sn,aI,λx l h=>(pp.2 x l).mp h,λH3 s3=>⟨_,rfl,zB8 ?_⟩⟩;have wa3:=wa2.mono s3;have fa3:=fa.mono s3;have gB:=s3 _ _ en2;refine⟨_,rfl,_,rfl,nl,_,rfl,.inl (SqL.of gB),_,rfl,dp,r,q,ns.length,X,Y,rs,_,by rw[← lnn];rfl,fa3,pp.1,wa3,wo,aI,λbo qb U' W' H4 hbo s4 nE jE=>?_⟩;have iQ:=zQi wo pp.1 fb jE;have ow:∀i,i < ns.length->0 < W' i/\Nat.gcd (U' i).natAbs (W' i).natAbs=1/\U' i*(1000*Y i)=keeps (wyL ws d) i*X i*W' i:=λi hi=>⟨(jE i hi).pos,(jE i hi).one,(jE i hi).eq⟩;have so:zL4 ns.length U' W':=λlow w tp=>zF4 wo sn pp.1.pos iQ.pos (λx l h=>(pp.2 x l).mp h) (λi hi=>(ow i hi).2.2) tp;have fQ:=s2.trans (s3.trans s4);have B4:=B1.same fQ;obtain⟨oo,_,n4,_⟩:=id B4;refine⟨_,rfl,b,oo,_,rfl,n4,rfl,_,rfl,_,rfl,nl,_,_,_,rfl,rfl,SqL.of ((s1.trans fQ) _ _ en),o8,_,rfl,?_⟩;refine⟨b,tl,_,_,d,rfl,B4,lz,sane,by rw[cC];exact aI,by rw[cC,dQ];exact zDU nd gb.ok,by rw[dQ,wHf];omega,λz=>absurd hm (by rw[cC] at z;exact z),λ_ z=>absurd hd z,λ_ _=>?_⟩;rw[cC,dQ,ix,wq];refine⟨wo,by rw[← wq];exact op0,λf qf U W H5 hf s5 fu sh=>?_⟩;have eqU:=zF5 pp sh ow;obtain⟨X2,Y2,fo3,fg,gX,fO⟩:=id sh;have fb5:FrAt H5 bo qb ns.length U W:=⟨(nE.mono s5).top,λi hi=>by rw[(nE.mono s5).row i hi,(eqU i hi).1,(eqU i hi).2]⟩;refine⟨_,rfl,f,bo,qf,qb,ns.length,U,W,rfl,fu,fg,fb5,aI,_,rfl,zB8 ?_⟩;have fP:=fQ.trans s5;have B5:=B1.same fP;obtain⟨dx5,_,hb5,_⟩:=id B5;have ab:(1:Int)<=1000003/\(1000003:Int)<=10 ^ 12:=by decide
 refine⟨_,rfl,b,dx5,_,rfl,hb5,rfl,_,rfl,_,rfl,nl,_,_,_,rfl,rfl,SqL.of ((s1.trans fP) _ _ en),o8,_,rfl,?_⟩;refine⟨b,tl,_,_,d,1000003,rfl,B5,lz,sane,by rw[cC];exact aI,by rw[cC,dQ];exact zDU nd gb.ok,by rw[dQ,wHf];omega,λz=>absurd hm (by rw[cC] at z;exact z),λ_=>⟨λ_=>?_,λz=>absurd ⟨hd,ab⟩ z⟩,λ_ _ _=>?_⟩
 ·rw[cC,dQ];exact⟨wo0,op0⟩
 rw[cC,dQ,ix,wq];intro f2 U2 W2 c2 H6 hf2 s6 ef sh2 cn2;have nX:=zF5 pp sh2 ow;have ft:=s5.trans s6;have fb6:=nE.mono ft;refine⟨_,rfl,bo,qb,ns.length,1000003,U',W',rfl,fb6,iQ,by omega,aI,ab.1,ab.2,so,λdu c H7 jT s7 edu cn=>?_⟩;have eqc:=zOO iQ.pos cn (zMK cn2 nX);have ef7:=s7 _ _ ef;have ef':H7 f2=some (.lst ((tab ns.length c).map V.int)):=by rw[zEs,ef7];exact congrArg (λl=>some (HO.lst l)) (zA0 λi hi=>by rw[eqc i hi])
 refine⟨f2,du,tab ns.length c,rfl,ef',SqL.of (by rw[zEs];exact edu),by rw[zW];omega,?_⟩;exact k H7 ((s1.trans (fP.trans s6)).trans s7)
structure A46 (H:Hp) (C b tl pl nl dl:Addr) (aE:List Str) (dr:List Int) (ws:List W5):Prop where
 B:zAC H C b tl (bkP aE (ws.map (pOf aE)))
 P:zAf H pl (ws.map W5.vs)
 en:H nl=some (.lst (aE.map V.str))
 ed:H dl=some (.lst (dr.map V.int))
def A46.same {H H':Hp} {C b tl pl nl dl:Addr} {aE:List Str} {dr:List Int} {ws:List W5} (x:A46 H C b tl pl nl dl aE dr ws) (s:zAh H H'):A46 H' C b tl pl nl dl aE dr ws:=⟨x.B.same s,x.P.same s,s _ _ x.en,s _ _ x.ed⟩
structure G46 (n:Nat) (lo hi:Int) (ws:List W5):Prop where
 gb:GoodB n ws
 sp:∀p∈ws,Sp4 lo hi p.2.2.2.1 p.2.2.2.2
inductive sp_law (K:W.Frag) (vs:List V) (H:Hp) (Q:VK) (E:XK):Prop
 | mk (a:Addr) (ns:List Int):vs=[.ref a]->(SqL K H a (ns.map V.int)/\ns.length<=63/\∀H',Q (.bl true) H')->sp_law K vs H Q E
def zPR (T:Txt P K mg t):FnOk P w K mg base CX0 48 t.wFy t.wFz ["_law_script"] (sp_law K):=by
 refine T.wG7.ok zB9 ⟨⟩ ();obtain⟨a,xs,rfl,hS,_,k⟩:=h;refine⟨_,(zC (zAF 1 zB9.nd (cal (zMs T) hr T.wGB T.wFk T.wGA (zQ (pv 0) zH zE zA zM)))
  (zC (zAF 2 zB9.nd (zV zBn zH (zV zAu (zAA K (pv 1) zH) zH)))
  (zC (zBe (i:=3) zB9.nd rfl (Or.inr rfl) (cal (zMp T) hr T.wGD T.wFl T.wGC (zQ (zAA K (pv 1) zH) (pv 2) zE zK zA)))
  (zC (zAF 4 zB9.nd (zMh T.wG1 ((zFt T).mono ⋯) hr rfl T.wG0 T.wD8 .nil zCT))
  (zC (zAr PassesOwn.never rfl (zAa K (pv 3)) (zJ (i:=5) zB9.nd rfl (Or.inl rfl)) (zF (zAm (zCl (pv 4) T.wAi T.wEJ ((zGj T).mono ⋯) hr T.wEI .nil zMi (zG (pv 5) zE zA)))))
  (zC (zAF 6 zB9.nd (zAo zE))
  (zC (zAr PassesOwn.never rfl (zAi rfl T.wAg (zG zH zE zM)) (zJ (i:=7) zB9.nd rfl (Or.inl rfl)) (zC (zAF 8 zB9.nd (cal (zOt T) hr T.wGX T.wF2 T.wGW (zQ (pv 1) (zAA K (pv 1) (zV zBn zH (pv 7))) zE zA zK)))
  (zC (zAF 9 zB9.nd (cal (zGU T) hr T.wFd T.wCP T.wFc (zQ (pv 1) (pv 7) (zAe (pv 2) (pv 6) (pv 8) zE zA zA zA) zA zA)))
  (zC (zAF 10 zB9.nd (cal (zKB T) hr T.wGn T.wEU T.wGm (zAe (pv 2) (pv 6) (pv 9) zE zA zA zA)))
  (zC (zAF 11 zB9.nd (cal (zPT T) hr T.wG4 T.wGp T.wG3 (zQ (pv 4) (zAo (zG zAK (zQ (zAA K (pv 3) (zBr K (pv 9) zH)) (zAA K (pv 3) (zBr K (pv 9) zH)) (zAe (zBr K (pv 9) zH) (zBr K (pv 9) zH) (zBr K (pv 9) zH) zE zK zK zK) zK zK) zM)) zE zA zEu)))
  (zC (zAs (zAG (zA1 (cal (zOx T) hr T.wGZ T.wF3 T.wGY (zAe (pv 11) (pv 10) (pv 3) zE zA zA zA)))) (zF (zT zAT)) zZ)
  (zF (zAs (zAb zCB (zBr K (pv 10) zH) zAK (zAg _)) (zF (zAm (zBz K wHV wH2 wH6 zA3 (pv 6) (zG (pv 9) zE zA)))) zZ))))))))
  (zC (zCk ["_law_a","_law_b","_law_part","_law_first","_law_last","_law_names_here"] [none,none,none,none,none,some 3] (by kernel_rfl) rfl (zAa K (pv 6)) (λ_ _ _ _ _=>(zAt K (n:=5) rfl (zP (zJ (i:=0) ndB rfl (Or.inl rfl)) (zP (zJ (i:=1) ndB rfl (Or.inl rfl)) (zP (zJ (i:=2) ndB rfl (Or.inl rfl)) (zP (zJ (i:=3) ndB rfl (Or.inl rfl)) (zP (zJ (i:=4) ndB rfl (Or.inl rfl)) zAp))))))) (λ_ _ _ _ _=>zAw) (λ_ _ _ _ _=>(zAS (zQ (zAA K (pv 5) (pv 0)) (zAA K (pv 5) (pv 1)) (zAe (pv 2) (pv 3) (pv 4) zE zA zA zA) zK zK))) (zJ (i:=12) zB9.nd rfl (Or.inl rfl)))
  (zC (zAs (zAG (zA1 (cal (zK8 T) hr T.wGl T.wET T.wGk (zQ (zBu (pv 4) T.wAi T.wAI ((zB6 T).mono ⋯) hr T.wAH .nil zCT) (pv 12) zE zS zA)))) (zF (zT zAT)) zZ)
  (zC (zAr PassesOwn.never rfl (zAi rfl T.wAg (zG zH zE zM)) (zJ (i:=7) zB9.nd rfl (Or.inl rfl)) (zC (zAF 13 zB9.nd (zAA K (zAo (zAe (zV zAu (zAA K (pv 1) zH) zH) (zV zAu (zAA K (pv 1) zH) zH) (zV zAu (zAA K (pv 1) zH) zH) zE zX zX zX)) (pv 7)))
  (zF (zAs (zAG (zA1 (cal (zMm T) hr T.wGJ T.wFq T.wGI (zQ (pv 4) (pv 3) (zAe (pv 6) (zV zAu (zAA K (pv 1) (zV zBn zH (pv 7))) (pv 2)) (pv 13) zE zA zX zA) zA zA)))) (zF (zT zAT)) zZ))))
  (zF (zT zAT)))))))))))),?_⟩
 refine⟨_,rfl,a,xs,88,rfl,hS,by decide,by decide,λdl dr H1 ff s1 ed ld bd=>?_⟩;have ld':dr.length=88:=by omega
 have at_:∀j:Nat,j < 88->atI (dr.map V.int) ((j:Nat):Int)=some (.int (dr.getD j 0)):=λj hj=>zDw (ns:=dr) (k:=((j:Nat):Int)) ∅ ∅
 have bi:∀j:Nat,j < 88->0<=dr.getD j 0:=λj hj=>by rw[wHh,wHg (show j < dr.length by omega)];exact (bd _ (wHF _)).1
 have m7:=zAW (x:=dr.getD 83 0) (m:=7) (n:=7) ⋯ ⋯;obtain⟨n,hn⟩:∃n:Nat,9+dr.getD 83 0%7=(n:Int):=⟨(9+dr.getD 83 0%7).toNat,by omega⟩;have n9:9<=n:=by omega
 have aI:n<=15:=by omega
 have a83:atI (dr.map V.int) 83=some (.int (dr.getD 83 0)):=at_ 83 ⋯
 have a84:atI (dr.map V.int) 84=some (.int (dr.getD 84 0)):=at_ 84 ⋯
 refine⟨_,rfl,dl,_,83,_,rfl,rfl,SqL.of ed,a83,_,_,rfl,rfl,by decide,_,_,rfl,rfl,?_⟩;dsimp only [zIm,List.set];rw[hn];refine⟨_,rfl,dl,_,84,_,rfl,rfl,SqL.of ed,a84,_,rfl,_,n,rfl,bi 84 ⋯,by omega,λnl H2 aE dJ s2 en ln cO lY=>?_⟩;subst ln;have ed2:=s2 _ _ ed;intro b dx nb ndx nex;refine⟨b,dx,rfl,zB,λtl cF=>⟨rfl,?_⟩⟩;obtain⟨B3,s3,ntl⟩:=zMz nb ndx nex cF;have gD:=s3 _ _ ed2;have gB:=s3 _ _ en;have dtl:dl≠tl:=zN ed2 ntl;have gR:nl≠tl:=zN en ntl;show zJN _ _ _ _ (upd (upd (upd (upd H2 dx (.own b)) b (.ins t.wAc dx [])) tl (.lst [])) b (.ins t.wAc dx [("told",.ref tl)]));generalize upd (upd (upd (upd H2 dx (.own b)) b (.ins t.wAc dx [])) tl (.lst [])) b (.ins t.wAc dx [("told",.ref tl)])=H3 at B3 s3 gD gB ⊢;refine⟨_,rfl,nl,rfl,⟨_,SqL.of gB⟩,zAx (xs:=aE.map V.str) (λi σ' H'=>∃v5,σ'=[some (.ref a),some (.ref dl),some (.int (aE.length:Nat)),some (.ref nl),some (.ref b),v5,none,none,none,none,none,none,none,none]/\zAC H' t.wAc b tl ((aE.take i).map Deed.house)/\H' nl=some (.lst (aE.map V.str))/\H' dl=some (.lst (dr.map V.int)))
  ⟨none,rfl,B3,gB,gD⟩ (λi σ' H' _ ⟨_,_,_,e,_⟩=>SqL.of e) ?_ ?_⟩
 ·rintro i x σ' H4 hx ⟨v5,rfl,B4,en4,ed4⟩;rw[wHn] at hx;obtain⟨n,hn,rfl⟩:=wIA hx;obtain⟨oo,_,n4,_⟩:=id B4;have wn:=zJG lY cO ∅ hn;refine⟨_,rfl,b,oo,_,rfl,n4,rfl,_,rfl,b,tl,_,n,rfl,B4,by rw[wHf,wHD];omega,(cO n (wHO hn)).sane,λH5 _ k5 B5=>?_,λH5 k e5 _=>by rw[wn] at e5;cases e5⟩;refine⟨_,rfl,?_,k5 _ _ gR en4,k5 _ _ dtl ed4⟩;rw[wHY,hn,wHr];exact B5
 rintro σ' H4 ⟨v5,rfl,B4,en4,ed4⟩;rw[wHf,wHL] at B4;refine⟨szl,λpl aM=>?_⟩;have s5:=zD aM (.lst []);have epl:upd H4 pl (.lst []) pl=some (.lst []):=zB;have plt:pl≠tl:=λz=>by obtain⟨_,_,_,ht,_⟩:=B4;rw[z,ht] at aM;cases aM
 have npl:nl≠pl:=zN en4 aM;have dpl:dl≠pl:=zN ed4 aM;have A5:A46 (upd H4 pl (.lst [])) t.wAc b tl pl nl dl aE dr []:=⟨by unfold bkP;rw[List.map_nil,List.map_nil,wHR];exact B4.same s5,zAf.nil epl,s5 _ _ en4,s5 _ _ ed4⟩;show zJN _ _ _ _ (upd H4 pl (.lst []));generalize upd H4 pl (.lst [])=H5 at A5 ⊢;clear s5 epl B4 en4 ed4 aM B3 s3 gD gB cF;refine⟨80,rfl,by decide,by decide,zA9 (n:=80) (λi σ' H'=>∃(ws:List W5) (v7 v8 v9 jr jq:Option V),σ'=[some (.ref a),some (.ref dl),some (.int (aE.length:Nat)),some (.ref nl),some (.ref b),v5,some (.ref pl),v7,v8,v9,jr,jq,none,none]/\A46 H' t.wAc b tl pl nl dl aE dr ws/\ws.length<=i/\G46 aE.length (dr.getD 0 0%5001) (dr.getD 1 0%5001) ws)
  ⟨[],none,none,none,none,none,rfl,A5,wHm _,GoodB.nil _,λp hp=>(by cases hp)⟩ ?_ ?_⟩
 ·clear A5;rintro i σ' H6 hi ⟨ws,v7,v8,v9,jr,jq,rfl,A6,li,G⟩;have aD:i < 80:=hi;rw[show (0+(i:Int))=((i:Nat):Int) from Int.zero_add _];have ak:atI (dr.map V.int) (3+(i:Int))=some (.int (dr.getD (3+i) 0)):=by rw[show (3+(i:Int))=((3+i:Nat):Int) by omega];exact at_ _ ∅
  refine⟨_,rfl,_,rfl,_,rfl,_,_,rfl,rfl,dl,_,_,_,rfl,rfl,SqL.of A6.ed,ak,dl,dr,_,rfl,SqL.of A6.ed,by omega,λel H7 x y fZ s7 ee x0 x1 y1 xy sp=>?_⟩;have A7:=A6.same s7;refine⟨_,rfl,_,rfl,_,rfl,_,rfl,_,rfl,dl,pl,el,dr,i,aE.length,ws,x,y,rfl,SqL.of A7.ed,ld',aD,by omega,aI,A7.P,G.gb.ok,by omega,ee,λtp H8 w htp s8 nS e1 e2 wg wu wne wpt=>?_⟩;have A8:=A7.same s8;have o:OkN aE.length w:=⟨wg,wu,wne,wpt,by rw[e1,e2];exact⟨x0,xy,y1⟩⟩;have lN:∀p∈ws++[w],Sp4 (dr.getD 0 0%5001) (dr.getD 1 0%5001) p.2.2.2.1 p.2.2.2.2:=λp hp=>by
   rcases wIC hp with z | z
   ·exact G.sp p z
   rw[wIz z,e1,e2];exact sp
  refine⟨_,rfl,_,rfl,_,rfl,aE.length,pl,tp,ws,w,rfl,A8.P,nS,G.gb,o,aI,zRd lN ∅,λdu H9 s9 jT=>?_⟩;have A9:=A8.same s9;have St:=SqT.of (K:=K) (s9 _ _ nS);have gi:atI (aE.map V.str) w.1=some (.str (pOf aE w).1):=by have:=o.g;exact zAB ∅ (by rw[wHn,wHg (show w.1.toNat < aE.length by omega)];show _=some (V.str (aE.getD _ _));rw[wHh,wHg (show w.1.toNat < aE.length by omega)];rfl)
  have ui:atI (aE.map V.str) w.2.1=some (.str (pOf aE w).2.1):=by have:=o.u;exact zAB ∅ (by rw[wHn,wHg (show w.2.1.toNat < aE.length by omega)];show _=some (V.str (aE.getD _ _));rw[wHh,wHg (show w.2.1.toNat < aE.length by omega)];rfl)
  refine⟨_,rfl,_,rfl,_,rfl,tp,_,0,_,rfl,rfl,St,rfl,nl,_,_,_,rfl,rfl,SqL.of A9.en,gi,_,rfl,_,rfl,tp,_,1,_,rfl,rfl,St,rfl,nl,_,_,_,rfl,rfl,SqL.of A9.en,ui,_,rfl,tp,_,2,_,rfl,rfl,St,rfl,_,rfl,tp,_,3,_,rfl,rfl,St,rfl,_,rfl,tp,_,4,_,rfl,rfl,St,rfl,szl,λrl hrl=>?_⟩;dsimp only [zLH];have sR:=zD hrl (.lst (.str "pact"::(pOf aE w).vs));have cD:=A9.same sR;have dD:=sR _ _ (s9 _ _ nS);have cI:zL9 (ws.map (pOf aE)++[pOf aE w]):=by rw[zBo];refine zSc (a:=dr.getD 0 0%5001) (b:=dr.getD 1 0%5001) (λp hp=>?_) (by rw[wHf,wHp];show _+1<=_;omega);obtain⟨q,hq,rfl⟩:=List.mem_map.mp hp;exact lN q hq
  refine zRi T cD.B lY cO aI G.gb o ∅ cI zB (λov a' H' s ea=>?_) (λaZ d a' m H' sd s ea em=>?_) (λaZ bN a' H' kp B' ea=>?_)
  ·have jp:=cD.same s;cases jT with
   | shut _ _ z=>exact absurd ov z
   | none _ _ z=>exact absurd ov z
   | over y z _ e=>
    have e2:=s _ _ (sR _ _ e);rw[show zBw 6=Str.ofString "too much" by nofun] at ea;refine⟨_,rfl,_,rfl,_,rfl,a',du,nl,aE,rfl,.ref y z ea e2,jp.en,λH2 s2=>⟨_,rfl,zB8 ?_⟩⟩;exact⟨_,rfl,du,_,0,_,rfl,rfl,SqT.of (s2 _ _ e2),rfl,rfl,_,rfl,zJw (show ¬V.str "too much"=V.str "" by nofun) ⟨ws,_,_,_,_,_,rfl,jp.same s2,by omega,G⟩⟩
  ·have jp:=cD.same s;cases jT with
   | over _ _ z=>exact absurd z aZ
   | none _ _ _ z=>exact absurd (z d sd.1 sd.2.1) sd.2.2.1
   | shut d' l _ gM e el'=>
    have oi:=zNO sd gM;subst oi;have e2:=s _ _ (sR _ _ e);have el2:=s _ _ (sR _ _ el');refine⟨_,rfl,_,rfl,_,rfl,a',du,nl,aE,rfl,.shut d m l _ ea e2 el2 em (λx hx=>⟨(zNe hx).1,(zNe hx).2.1⟩) (by have:=zDE (shB (wyL (ws++[w]) d)) aE.length;show (plc _ _).length<=_;omega),jp.en,λH2 s2=>⟨_,rfl,zB8 ?_⟩⟩;exact⟨_,rfl,du,_,0,_,rfl,rfl,SqT.of (s2 _ _ e2),rfl,rfl,_,rfl,zJw (show ¬V.str "shut in"=V.str "" by nofun) ⟨ws,_,_,_,_,_,rfl,jp.same s2,by omega,G⟩⟩
  cases jT with
  | over _ _ z=>exact absurd z aZ
  | shut d' l _ gM e el'=>exact absurd (bN d' gM.1 gM.2.1) gM.2.2.1
  | none y z _ _ e=>
   obtain⟨_,q14,_,fA,_⟩:=id cD.B;have cF:=Exists.intro (p:=λxs=>_=some (HO.lst xs)) _ fA;have om:=sR _ _ e;have dut:du≠tl:=λz=>by rw[z,fA] at om;cases om
   have tpt:tp≠tl:=λz=>by rw[z,fA] at dD;cases dD
   have e2:=kp _ _ dut om;have P11:=cD.P.keep kp plt cF;have iR:=kp _ _ gR cD.en;have oh:=kp _ _ dtl cD.ed;have lG:=kp _ _ tpt dD;refine⟨_,rfl,_,rfl,_,rfl,a',du,nl,aE,rfl,.ans y z ea e2,iR,λH2 s2=>⟨_,rfl,zB8 ?_⟩⟩;refine⟨_,rfl,du,_,0,_,rfl,rfl,SqT.of (s2 _ _ e2),rfl,rfl,_,rfl,zKU rfl ?_⟩;obtain⟨q1,g1,g2,g3⟩:=P11.same s2;refine⟨_,rfl,.inl ⟨rfl,_,SqL.of g1⟩,_,rfl,pl,_,_,rfl,rfl,g1,by rw[wHf,g2,wHf];exact zAj ∅,?_⟩;have k2:zDy pl H2 (upd H2 pl (.lst (q1.map V.ref++[V.ref tp]))):=zDy.upd;refine⟨ws++[w],_,_,_,_,_,rfl,⟨(B'.same s2).keep k2 plt.symm ⟨_,g1⟩,by rw[wHr];exact zAf.snoc (yss:=ws.map W5.vs) g1 g2 g3 (s2 _ _ lG),k2 _ _ npl (s2 _ _ iR),k2 _ _ dpl (s2 _ _ oh)⟩,by rw[wHp];show _+1<=_;omega,zQg G.gb o aZ bN,lN⟩
 clear A5;rintro σ' H6 ⟨ws,v7,v8,v9,jr,jq,rfl,A6,li,G⟩;have mf:ws.length<=80:=li;obtain⟨q1,g1,g2,g3⟩:=id A6.P;rw[wHf] at g2;refine⟨_,rfl,pl,rfl,⟨_,SqL.of g1⟩,λlZ mP=>?_⟩;have gi:∀w∈ws,atI (aE.map V.str) w.1=some (.str (pOf aE w).1)/\atI (aE.map V.str) w.2.1=some (.str (pOf aE w).2.1):=λw hw=>by
  have o:=G.gb.ok w hw;have og:=o.g;have ou:=o.u;refine⟨zAB ∅ ?_,zAB ∅ ?_⟩
  ·rw[wHn,wHg (show w.1.toNat < aE.length by omega)];show _=some (V.str (aE.getD _ _));rw[wHh,wHg (show w.1.toNat < aE.length by omega)];rfl
  rw[wHn,wHg (show w.2.1.toNat < aE.length by omega)];show _=some (V.str (aE.getD _ _));rw[wHh,wHg (show w.2.1.toNat < aE.length by omega)];rfl
 refine zAl (K:=K) (ys:=q1.map V.ref) (λi σ' H'=>∃(u0 u1 u2 u3 u4:Option V),σ'=[u0,u1,u2,u3,u4,some (.ref nl)]/\zAh H6 H'/\zAf H' lZ (((ws.take i).map (pOf aE)).map Pct.vs)) ⟨none,none,none,none,none,rfl,zD mP _,zAf.nil zB⟩ ?_ ?_ ?_
 ·rintro i σ' H' _ ⟨u0,u1,u2,u3,u4,rfl,s',el⟩;exact SqL.of (s' _ _ g1)
 ·rintro i x σ' H' hx ⟨u0,u1,u2,u3,u4,rfl,s',el⟩;rw[wHn] at hx;obtain⟨a',ha,rfl⟩:=wIA hx;have aD:i < ws.length:=by rw[← g2];exact (wIy ha).1
  have hwi:ws[i]?=some ws[i]:=wHg aD;have ea:=s' _ _ (g3 i a' _ ha (by rw[wHn,hwi];rfl));obtain⟨gi1,gi2⟩:=gi ws[i] (wHF _);have en':=s' _ _ A6.en;refine⟨a',_,rfl,SqT.of ea,rfl,_,_,rfl,_,_,rfl,_,_,rfl,_,_,rfl,_,_,rfl,rfl,?_⟩;refine⟨_,rfl,_,rfl,nl,_,_,_,rfl,rfl,SqL.of en',gi1,_,rfl,_,rfl,nl,_,_,_,rfl,rfl,SqL.of en',gi2,_,rfl,_,rfl,_,rfl,szl,λp cT=>?_⟩;have s2:=zD cT (.tup (pOf aE ws[i]).vs);obtain⟨q2,f1,f2,f3⟩:=el.same s2;refine⟨_,f1,by rw[wHf,f2,wHf,wHf,wHD];exact zAj ∅,_,_,_,_,_,rfl,zY (s'.trans s2) mP _,?_⟩;rw[wHY,hwi,wHr,wHr];exact zAf.snoc f1 f2 f3 zB
 rintro σ' H7 ⟨u0,u1,u2,u3,u4,rfl,s7,N7⟩;rw[wHf,g2,wHL] at N7;have A7:=A6.same s7;clear A6 g1 g2 g3 s7 mP gi;obtain⟨dx7,_,hb7,_⟩:=id A7.B;have lz:(bkP aE (ws.map (pOf aE))).length<=900:=by rw[zIs,wHf];omega
 refine⟨_,rfl,b,dx7,_,rfl,hb7,rfl,b,tl,_,rfl,A7.B,lz,λl H8 hl s8 T8=>?_⟩;rw[zFc] at T8;have A8:=A7.same s8;refine⟨_,rfl,l,lZ,(ws.map (pOf aE)).map Pct.vs,rfl,T8,N7.same s8,by rw[wHf,wHf];omega,λys hys=>?_,_,rfl,zB8 ?_⟩
 ·obtain⟨p,_,rfl⟩:=List.mem_map.mp hys;refine⟨(by show 5<=900;decide),λy hy=>?_⟩;unfold Pct.vs at hy;simp only[wId,wH4,or_false] at hy;rcases hy with z | z | z | z | z
  ·exact .inr ⟨_,z⟩
  ·exact .inr ⟨_,z⟩
  ·exact .inl ⟨_,z⟩
  ·exact .inl ⟨_,z⟩
  exact .inl ⟨_,z⟩
 clear A7 N7 T8;refine⟨3,rfl,by decide,by decide,zA9 (n:=3) (λi σ' H'=>∃(v7 v13:Option V),σ'=[some (.ref a),some (.ref dl),some (.int (aE.length:Nat)),some (.ref nl),some (.ref b),v5,some (.ref pl),v7,v8,v9,jr,jq,some (.ref lZ),v13]/\A46 H' t.wAc b tl pl nl dl aE dr ws)
  ⟨_,_,rfl,A8⟩ ?_ λσ' H' _=>k H'⟩
 clear A8;rintro i σ' H9 hi ⟨v7,v13,rfl,A9⟩;have aD:i < 3:=hi;rw[show (0+(i:Int))=((i:Nat):Int) from Int.zero_add _];have Sd:=SqL.of (K:=K) A9.ed;have a0:atI (dr.map V.int) 0=some (.int (dr.getD 0 0)):=at_ 0 ⋯
 have a1:atI (dr.map V.int) 1=some (.int (dr.getD 1 0)):=at_ 1 ⋯
 have a85:atI (dr.map V.int) 85=some (.int (dr.getD 85 0)):=at_ 85 ⋯
 have ak:atI (dr.map V.int) (85+(i:Int))=some (.int (dr.getD (85+i) 0)):=by rw[show (85+(i:Int))=((85+i:Nat):Int) by omega];exact at_ _ ∅
 refine⟨_,rfl,dl,_,0,_,rfl,rfl,Sd,a0,_,_,rfl,rfl,by decide,_,rfl,dl,_,1,_,rfl,rfl,Sd,a1,_,_,rfl,rfl,by decide,_,rfl,dl,_,85,_,rfl,rfl,Sd,a85,_,_,rfl,rfl,by decide,szl,λl3 h3=>?_⟩;have d0:=zAW (x:=dr.getD 0 0) (m:=5001) (n:=5001) ⋯ ⋯;have d1:=zAW (x:=dr.getD 1 0) (m:=5001) (n:=5001) ⋯ ⋯;have d2:=zAW (x:=dr.getD 85 0) (m:=5001) (n:=5001) ⋯ ⋯;have bG:∃d:Int,atI [V.int (dr.getD 0 0%5001),V.int (dr.getD 1 0%5001),V.int (dr.getD 85 0%5001)] ((i:Nat):Int)=some (.int d)/\0<=d/\d<=5000:=by
  rcases i with _ | _ | _ | i
  ·exact⟨_,rfl,by omega⟩
  ·exact⟨_,rfl,by omega⟩
  ·exact⟨_,rfl,by omega⟩
  omega
 obtain⟨d,bG,hd⟩:=bG;have cD:=A9.same (zD h3 (.lst [V.int (dr.getD 0 0%5001),V.int (dr.getD 1 0%5001),V.int (dr.getD 85 0%5001)]));refine⟨_,rfl,l3,_,_,_,rfl,rfl,SqL.of zB,bG,?_⟩;have mb:0<=dr.getD (85+i) 0%(aE.length:Int)/\dr.getD (85+i) 0%(aE.length:Int) < aE.length:=⟨Int.emod_nonneg _ ∅,Int.emod_lt_of_pos _ ∅⟩;obtain⟨s0,hs0⟩:∃s0:Nat,dr.getD (85+i) 0%(aE.length:Int)=(s0:Int):=⟨_,(Int.toNat_of_nonneg mb.1).symm⟩;refine⟨_,rfl,_,rfl,_,rfl,_,rfl,_,rfl,_,_,rfl,rfl,dl,_,_,_,rfl,rfl,SqL.of cD.ed,ak,_,rfl,_,_,rfl,rfl,(by show (0:Int) < (aE.length:Int);omega),_,rfl,b,tl,nl,pl,aE,ws,s0,d,by rw[hs0];rfl,cD.B,cD.en,cD.P,lY,cO,aI,G.gb,mf,by omega,hd,λH11 s11=>⟨_,rfl,zB8 ?_⟩⟩;exact⟨_,_,rfl,cD.same s11⟩
end
@[elab_as_elim] theorem bnd1 {A:Type} {P:List A->Prop} (us:List A) (hl:us.length=1) (H:∀a0,P [a0]):P us:=by
 match us,hl with
 | [a0],_=>exact H a0
def bd1 {K:W.Frag} {x qual:Str} {st:Stmt} {f:Addr} {fd:FuncData} {ps:List Str} (F:L2.Fun K x qual st f fd) (h:∀(kV doc pm:Value) (an:Option Addr) (cdv ct a0:Value),bindArgs (W.fnOf x qual (zBQ st) (zBa st) (zL st) .none kV doc pm an cdv ct) ⟨[a0],[]⟩=pure (ps.zip [a0])) (hp:ps.length=1:=by rfl):L2.zAc K fd ps []:=
 F.binds λkV doc pm an cdv ct us hl=>bnd1 us (hl.trans hp) (h kV doc pm an cdv ct)
@[elab_as_elim] theorem bnd2 {A:Type} {P:List A->Prop} (us:List A) (hl:us.length=2) (H:∀a0 a1,P [a0,a1]):P us:=by
 match us,hl with
 | [a0,a1],_=>exact H a0 a1
def bd2 {K:W.Frag} {x qual:Str} {st:Stmt} {f:Addr} {fd:FuncData} {ps:List Str} (F:L2.Fun K x qual st f fd) (h:∀(kV doc pm:Value) (an:Option Addr) (cdv ct a0 a1:Value),bindArgs (W.fnOf x qual (zBQ st) (zBa st) (zL st) .none kV doc pm an cdv ct) ⟨[a0,a1],[]⟩=pure (ps.zip [a0,a1])) (hp:ps.length=2:=by rfl):L2.zAc K fd ps []:=
 F.binds λkV doc pm an cdv ct us hl=>bnd2 us (hl.trans hp) (h kV doc pm an cdv ct)
@[elab_as_elim] theorem bnd3 {A:Type} {P:List A->Prop} (us:List A) (hl:us.length=3) (H:∀a0 a1 a2,P [a0,a1,a2]):P us:=by
 match us,hl with
 | [a0,a1,a2],_=>exact H a0 a1 a2
def bd3 {K:W.Frag} {x qual:Str} {st:Stmt} {f:Addr} {fd:FuncData} {ps:List Str} (F:L2.Fun K x qual st f fd) (h:∀(kV doc pm:Value) (an:Option Addr) (cdv ct a0 a1 a2:Value),bindArgs (W.fnOf x qual (zBQ st) (zBa st) (zL st) .none kV doc pm an cdv ct) ⟨[a0,a1,a2],[]⟩=pure (ps.zip [a0,a1,a2])) (hp:ps.length=3:=by rfl):L2.zAc K fd ps []:=
 F.binds λkV doc pm an cdv ct us hl=>bnd3 us (hl.trans hp) (h kV doc pm an cdv ct)
@[elab_as_elim] theorem bnd4 {A:Type} {P:List A->Prop} (us:List A) (hl:us.length=4) (H:∀a0 a1 a2 a3,P [a0,a1,a2,a3]):P us:=by
 match us,hl with
 | [a0,a1,a2,a3],_=>exact H a0 a1 a2 a3
def bd4 {K:W.Frag} {x qual:Str} {st:Stmt} {f:Addr} {fd:FuncData} {ps:List Str} (F:L2.Fun K x qual st f fd) (h:∀(kV doc pm:Value) (an:Option Addr) (cdv ct a0 a1 a2 a3:Value),bindArgs (W.fnOf x qual (zBQ st) (zBa st) (zL st) .none kV doc pm an cdv ct) ⟨[a0,a1,a2,a3],[]⟩=pure (ps.zip [a0,a1,a2,a3])) (hp:ps.length=4:=by rfl):L2.zAc K fd ps []:=
 F.binds λkV doc pm an cdv ct us hl=>bnd4 us (hl.trans hp) (h kV doc pm an cdv ct)
@[elab_as_elim] theorem bnd5 {A:Type} {P:List A->Prop} (us:List A) (hl:us.length=5) (H:∀a0 a1 a2 a3 a4,P [a0,a1,a2,a3,a4]):P us:=by
 match us,hl with
 | [a0,a1,a2,a3,a4],_=>exact H a0 a1 a2 a3 a4
def bd5 {K:W.Frag} {x qual:Str} {st:Stmt} {f:Addr} {fd:FuncData} {ps:List Str} (F:L2.Fun K x qual st f fd) (h:∀(kV doc pm:Value) (an:Option Addr) (cdv ct a0 a1 a2 a3 a4:Value),bindArgs (W.fnOf x qual (zBQ st) (zBa st) (zL st) .none kV doc pm an cdv ct) ⟨[a0,a1,a2,a3,a4],[]⟩=pure (ps.zip [a0,a1,a2,a3,a4])) (hp:ps.length=5:=by rfl):L2.zAc K fd ps []:=
 F.binds λkV doc pm an cdv ct us hl=>bnd5 us (hl.trans hp) (h kV doc pm an cdv ct)
@[elab_as_elim] theorem bnd6 {A:Type} {P:List A->Prop} (us:List A) (hl:us.length=6) (H:∀a0 a1 a2 a3 a4 a5,P [a0,a1,a2,a3,a4,a5]):P us:=by
 match us,hl with
 | [a0,a1,a2,a3,a4,a5],_=>exact H a0 a1 a2 a3 a4 a5
def bd6 {K:W.Frag} {x qual:Str} {st:Stmt} {f:Addr} {fd:FuncData} {ps:List Str} (F:L2.Fun K x qual st f fd) (h:∀(kV doc pm:Value) (an:Option Addr) (cdv ct a0 a1 a2 a3 a4 a5:Value),bindArgs (W.fnOf x qual (zBQ st) (zBa st) (zL st) .none kV doc pm an cdv ct) ⟨[a0,a1,a2,a3,a4,a5],[]⟩=pure (ps.zip [a0,a1,a2,a3,a4,a5])) (hp:ps.length=6:=by rfl):L2.zAc K fd ps []:=
 F.binds λkV doc pm an cdv ct us hl=>bnd6 us (hl.trans hp) (h kV doc pm an cdv ct)
def zQv {l:PySem.W.OpenLaw} {w:World} {K:W.Frag} {h:Heap} {mg:Str->Option Value} {fa f1 f2 f3 f4 f5 f6 f7 f8 f9 f10 f11 f12 f13 f14 f15 f16 f17 f18 f19 f20 f21 nR f23 f24 f25 f26 f27 f28 nQ nP nO nN nM nL nK nJ nI nG nF f40 f41 f42 f43 f44 f45 f46 f47 f48 f49 f50 f51 f52 f53 f54 f55 f56 f57 f58 f59 f60 f61 f62 f63 f64 f65 f66 f67 f68 C0 C1 C2 C3 C4 C5 C6 C7 C8 C9 lE lD bD:Addr} (X:K.In h) (G:h.Ns mainGlobals mg) (hfa:mg "law"=some (.ref fa)) (ht:l.prog.given.tree=none)
  {tk0 lJ tk2 lI tk4 tk5 tk6:Tok}
  (aa:W.nsIn K mainGlobals "CedeError"=some (some (.ref C0)))
  (ab:W.nsIn K mainGlobals "BadName"=some (some (.ref C1)))
  (ac:W.nsIn K mainGlobals "KnownHouse"=some (some (.ref C2)))
  (ad:W.nsIn K mainGlobals "UnknownHouse"=some (some (.ref C3)))
  (ae:W.nsIn K mainGlobals "ToItself"=some (some (.ref C4)))
  (af:W.nsIn K mainGlobals "DaysTurned"=some (some (.ref C5)))
  (ag:W.nsIn K mainGlobals "OutOfRange"=some (some (.ref C6)))
  (ah:W.nsIn K mainGlobals "TooMuch"=some (some (.ref C7)))
  (ai:W.nsIn K mainGlobals "ShutIn"=some (some (.ref C8)))
  (aj:W.nsIn K mainGlobals "Full"=some (some (.ref C9)))
  (ak:W.nsIn K mainGlobals "NothingDone"=some (some (.ref lE)))
  (al:W.nsIn K mainGlobals "Unclear"=some (some (.ref lD)))
  (am:W.nsIn K mainGlobals "Book"=some (some (.ref bD)))
  (an:W.findIn K (.ref C8) "__init__"=some (some (.ref f1)))
  (ao:W.isFn K (.ref f1)=true)
  (F1:∃fd,Fun K "__init__" "ShutIn.__init__" zBB f1 fd)
  (aq:W.nsIn K mainGlobals "turning_days"=some (some (.ref f2)))
  (F2:∃fd,zAn K "turning_days" zBJ f2 fd)
  (au:W.nsIn K mainGlobals "holding"=some (some (.ref f3)))
  (F3:∃fd,zAn K "holding" zE9 f3 fd)
  (aw:W.nsIn K mainGlobals "stretches"=some (some (.ref f4)))
  (F4:∃fd,zAn K "stretches" zCM f4 fd)
  (ay:W.nsIn K mainGlobals "check_name"=some (some (.ref f5)))
  (F5:∃fd,zAn K "check_name" zCv f5 fd)
  (a0:W.nsIn K mainGlobals "check_range"=some (some (.ref f6)))
  (F6:∃fd,zAn K "check_range" zCg f6 fd)
  (a2:W.nsIn K mainGlobals "check_day"=some (some (.ref f7)))
  (F7:∃fd,zAn K "check_day" zCQ f7 fd)
  (a4:W.nsIn K mainGlobals "check_amount"=some (some (.ref f8)))
  (F8:∃fd,zAn K "check_amount" zBK f8 fd)
  (a6:W.nsIn K mainGlobals "place_of"=some (some (.ref f9)))
  (F9:∃fd,zAn K "place_of" zD6 f9 fd)
  (a8:W.nsIn K mainGlobals "greatest_divisor"=some (some (.ref f10)))
  (lC:∃fd,zAn K "greatest_divisor" zBl f10 fd)
  (ba:W.nsIn K mainGlobals "lowest"=some (some (.ref f11)))
  (lA:∃fd,zAn K "lowest" zFY f11 fd)
  (bc:W.nsIn K mainGlobals "minus"=some (some (.ref f12)))
  (l7:∃fd,zAn K "minus" zHP f12 fd)
  (be:W.nsIn K mainGlobals "times"=some (some (.ref f13)))
  (lx:∃fd,zAn K "times" zHL f13 fd)
  (bg:W.nsIn K mainGlobals "less"=some (some (.ref f14)))
  (lu:∃fd,zAn K "less" zKc f14 fd)
  (bi:W.nsIn K mainGlobals "kept"=some (some (.ref f15)))
  (lm:∃fd,zAn K "kept" zKe f15 fd)
  (bk:W.nsIn K mainGlobals "spread"=some (some (.ref f16)))
  (lj:∃fd,zAn K "spread" zFW f16 fd)
  (bm:W.nsIn K mainGlobals "shut_in"=some (some (.ref f17)))
  (lh:∃fd,zAn K "shut_in" zE5 f17 fd)
  (bo:W.nsIn K mainGlobals "loss_rows"=some (some (.ref f18)))
  (lg:∃fd,zAn K "loss_rows" zCO f18 fd)
  (bq:W.nsIn K mainGlobals "cut_down"=some (some (.ref f19)))
  (kZ:∃fd,zAn K "cut_down" zD8 f19 fd)
  (bs:W.nsIn K mainGlobals "strike_out"=some (some (.ref f20)))
  (kY:∃fd,zAn K "strike_out" zCu f20 fd)
  (bu:W.nsIn K mainGlobals "arrivals"=some (some (.ref f21)))
  (kX:∃fd,zAn K "arrivals" zDA f21 fd)
  (bw:W.nsIn K mainGlobals "shares"=some (some (.ref nR)))
  (kW:∃fd,zAn K "shares" zFX nR fd)
  (bz:W.nsIn K mainGlobals "ways_of"=some (some (.ref f23)))
  (kU:∃fd,zAn K "ways_of" zE4 f23 fd)
  (b1:W.nsIn K mainGlobals "ways_on"=some (some (.ref f24)))
  (kT:∃fd,zAn K "ways_on" zE3 f24 fd)
  (b3:W.nsIn K mainGlobals "looks"=some (some (.ref f25)))
  (kS:∃fd,zAn K "looks" zHQ f25 fd)
  (b5:W.nsIn K mainGlobals "check_terms"=some (some (.ref f26)))
  (kR:∃fd,zAn K "check_terms" zCf f26 fd)
  (b7:W.nsIn K mainGlobals "whom_shut"=some (some (.ref f27)))
  (kQ:∃fd,zAn K "whom_shut" zCL f27 fd)
  (b9:W.nsIn K mainGlobals "greatest_rest"=some (some (.ref f28)))
  (kP:∃fd,zAn K "greatest_rest" zBA f28 fd)
  (cb:W.nsIn K mainGlobals "coins"=some (some (.ref nQ)))
  (kO:∃fd,zAn K "coins" zHT nQ fd)
  (cd:W.findIn K (.ref bD) "__init__"=some (some (.ref nP)))
  (ce:W.isFn K (.ref nP)=true)
  (jo:∃fd,Fun K "__init__" "Book.__init__" zCj nP fd)
  (cg:W.findIn K (.ref bD) "houses"=some (some (.ref nO)))
  (ch:W.isFn K (.ref nO)=true)
  (jl:∃fd,Fun K "houses" "Book.houses" zCi nO fd)
  (cj:W.findIn K (.ref bD) "pacts"=some (some (.ref nN)))
  (ck:W.isFn K (.ref nN)=true)
  (jk:∃fd,Fun K "pacts" "Book.pacts" zCx nN fd)
  (cm:W.findIn K (.ref bD) "house"=some (some (.ref nM)))
  (cn:W.isFn K (.ref nM)=true)
  (jj:∃fd,Fun K "house" "Book.house" zCy nM fd)
  (cp:W.findIn K (.ref bD) "pact"=some (some (.ref nL)))
  (cq:W.isFn K (.ref nL)=true)
  (iZ:∃fd,Fun K "pact" "Book.pact" zCS nL fd)
  (cs:W.findIn K (.ref bD) "check_new"=some (some (.ref nK)))
  (ct:W.isFn K (.ref nK)=true)
  (iY:∃fd,Fun K "check_new" "Book.check_new" zB1 nK fd)
  (cv:W.findIn K (.ref bD) "ways"=some (some (.ref nJ)))
  (cw:W.isFn K (.ref nJ)=true)
  (iX:∃fd,Fun K "ways" "Book.ways" zCR nJ fd)
  (cy:W.findIn K (.ref bD) "paper"=some (some (.ref nI)))
  (cz:W.isFn K (.ref nI)=true)
  (iW:∃fd,Fun K "paper" "Book.paper" zCw nI fd)
  (c1:W.findIn K (.ref bD) "shares"=some (some (.ref nG)))
  (c2:W.isFn K (.ref nG)=true)
  (iV:∃fd,Fun K "shares" "Book.shares" zCh nG fd)
  (c4:W.findIn K (.ref bD) "coins"=some (some (.ref nF)))
  (c5:W.isFn K (.ref nF)=true)
  (iU:∃fd,Fun K "coins" "Book.coins" zCz nF fd)
  (c7:W.nsIn K mainGlobals "_law_at"=some (some (.ref f40)))
  (kN:∃fd,zAn K "_law_at" zQP f40 fd)
  (c9:W.nsIn K mainGlobals "_law_draws"=some (some (.ref f41)))
  (kM:∃fd,zAn K "_law_draws" zHS f41 fd)
  (db:W.nsIn K mainGlobals "_law_names"=some (some (.ref f42)))
  (kL:∃fd,zAn K "_law_names" zE8 f42 fd)
  (dd:W.nsIn K mainGlobals "_law_on"=some (some (.ref f43)))
  (kK:∃fd,zAn K "_law_on" zQO f43 fd)
  (df:W.nsIn K mainGlobals "_law_left"=some (some (.ref f44)))
  (kJ:∃fd,zAn K "_law_left" zKd f44 fd)
  (dh:W.nsIn K mainGlobals "_law_closed"=some (some (.ref f45)))
  (kI:∃fd,zAn K "_law_closed" zGa f45 fd)
  (dj:W.nsIn K mainGlobals "_law_word"=some (some (.ref f46)))
  (kH:∃fd,zAn K "_law_word" zJY f46 fd)
  (dl:W.nsIn K mainGlobals "_law_call"=some (some (.ref f47)))
  (kG:∃fd,zAn K "_law_call" zKg f47 fd)
  (dn:W.nsIn K mainGlobals "_law_ask"=some (some (.ref f48)))
  (kF:∃fd,zAn K "_law_ask" zOb f48 fd)
  (dq:W.nsIn K mainGlobals "_law_refused"=some (some (.ref f49)))
  (kE:∃fd,zAn K "_law_refused" zE6 f49 fd)
  (ds:W.nsIn K mainGlobals "_law_whole"=some (some (.ref f50)))
  (kD:∃fd,zAn K "_law_whole" zHK f50 fd)
  (du:W.nsIn K mainGlobals "_law_tuples"=some (some (.ref f51)))
  (kC:∃fd,zAn K "_law_tuples" zFV f51 fd)
  (dw:W.nsIn K mainGlobals "_law_texts"=some (some (.ref f52)))
  (kB:∃fd,zAn K "_law_texts" zHM f52 fd)
  (dy:W.nsIn K mainGlobals "_law_gcd"=some (some (.ref f53)))
  (kA:∃fd,zAn K "_law_gcd" zOa f53 fd)
  (d0:W.nsIn K mainGlobals "_law_fraction"=some (some (.ref f54)))
  (k9:∃fd,zAn K "_law_fraction" zD7 f54 fd)
  (d2:W.nsIn K mainGlobals "_law_fractions"=some (some (.ref f55)))
  (k8:∃fd,zAn K "_law_fractions" zCP f55 fd)
  (d4:W.nsIn K mainGlobals "_law_joint"=some (some (.ref f56)))
  (k7:∃fd,zAn K "_law_joint" zHR f56 fd)
  (d6:W.nsIn K mainGlobals "_law_papered"=some (some (.ref f57)))
  (k6:∃fd,zAn K "_law_papered" zE7 f57 fd)
  (d8:W.nsIn K mainGlobals "_law_made"=some (some (.ref f58)))
  (kz:∃fd,zAn K "_law_made" zKb f58 fd)
  (ea:W.nsIn K mainGlobals "_law_borne_of"=some (some (.ref f59)))
  (ky:∃fd,zAn K "_law_borne_of" zD9 f59 fd)
  (ec:W.nsIn K mainGlobals "_law_same"=some (some (.ref f60)))
  (kv:∃fd,zAn K "_law_same" zKa f60 fd)
  (ee:W.nsIn K mainGlobals "_law_purse"=some (some (.ref f61)))
  (ku:∃fd,zAn K "_law_purse" zHO f61 fd)
  (eg:W.nsIn K mainGlobals "_law_row"=some (some (.ref f62)))
  (kr:∃fd,zAn K "_law_row" zNY f62 fd)
  (ei:W.nsIn K mainGlobals "_law_span"=some (some (.ref f63)))
  (kq:∃fd,zAn K "_law_span" zJZ f63 fd)
  (ek:W.nsIn K mainGlobals "_law_made_pact"=some (some (.ref f64)))
  (ko:∃fd,zAn K "_law_made_pact" zCN f64 fd)
  (em:W.nsIn K mainGlobals "_law_judged"=some (some (.ref f65)))
  (kn:∃fd,zAn K "_law_judged" zFZ f65 fd)
  (eo:W.nsIn K mainGlobals "_law_fits"=some (some (.ref f66)))
  (km:∃fd,zAn K "_law_fits" zKf f66 fd)
  (eq:W.nsIn K mainGlobals "_law_right"=some (some (.ref f67)))
  (kj:∃fd,zAn K "_law_right" zHN f67 fd)
  (es:W.nsIn K mainGlobals "law"=some (some (.ref f68)))
  (iT:∃fd,zAn K "law" zNZ f68 fd)
  (eu:W.plainGet K bD Str.empty=true)
  (ev:W.hasDictIn K bD=true)
  (ew:W.plainOver K bD=true)
  (ex:W.findIn K (.ref bD) "__setattr__"=some (some (.builtin "object.__setattr__")))
  (ey:W.makesIn K bD=true)
  (ez:W.keepIn K (.ref bD)=true)
  (e0:W.findIn K (.ref bD) "told"=some none)
  (e1:zFw K C8 vEr "ValueError.__new__"=true)
  (e2:W.mroIn K C8 (.ref C8)=some true)
  (e3:zQA K C8=true)
  (e4:W.hasDictIn K C8=true)
  (e5:W.findIn K (.ref C8) "__setattr__"=some (some (.builtin "object.__setattr__")))
  (e6:W.findIn K (.ref C8) "day"=some none)
  (e7:W.findIn K (.ref C8) "names"=some none)
  (e8:W.specialIn K (.ref C0) "__getattribute__"=some (some (.builtin "type.__getattribute__")))
  (e9:W.readsIn K C0 (.type "type")=true)
  (ga:W.findCls K (.ref C0) (.type "type") "__init__"=some (.val (.builtin "ValueError.__init__")))
  (gb:W.specialIn K (.builtin "object.__class__") "__get__"=some (some (.builtin "getset_descriptor.__get__")))
  (gc:W.takesIn K (.builtin "object.__class__")=some true)
  (gd:W.excIn K C1 vEr "ValueError.__new__"=true)
  (ge:W.excIn K C2 vEr "ValueError.__new__"=true)
  (gf:W.excIn K C9 vEr "ValueError.__new__"=true)
  (gg:W.excIn K C3 vEr "ValueError.__new__"=true)
  (gh:W.excIn K C6 vEr "ValueError.__new__"=true)
  (gi:W.excIn K C4 vEr "ValueError.__new__"=true)
  (gj:W.excIn K C5 vEr "ValueError.__new__"=true)
  (gk:W.excIn K C7 vEr "ValueError.__new__"=true)
  (gl:W.findIn K (.ref C7) "__getattribute__"=some (some (.builtin "BaseException.__getattribute__")))
  (gm:W.findIn K (.ref C7) "__getattr__"=some none)
  (gn:W.mroIn K C7 (.type "BaseException")=some true)
  (go:(W.clsIn K C7).isSome=true)
  (gp:W.findIn K (.ref C7) "__class__"=some (some (.builtin "object.__class__")))
  (gq:W.mroIn K C7 (.type "object")=some true)
  (gr:W.exmOne K (.ref C7) (.ref C8)=some false)
  (gs:W.exmOne K (.ref C7) (.ref C0)=some true)
  (gt:W.kitOne K (.ref C7) (.ref C1)=some false)
  (gu:W.kitOne K (.ref C7) (.ref C2)=some false)
  (gv:W.kitOne K (.ref C7) (.ref C3)=some false)
  (gw:W.kitOne K (.ref C7) (.ref C4)=some false)
  (gx:W.kitOne K (.ref C7) (.ref C5)=some false)
  (gy:W.kitOne K (.ref C7) (.ref C6)=some false)
  (gz:W.kitOne K (.ref C7) (.ref C7)=some true)
  (g0:W.kitOne K (.ref C7) (.ref C8)=some false)
  (g1:W.kitOne K (.ref C7) (.ref C9)=some false)
  (g2:W.kitOne K (.ref C7) (.ref lE)=some false)
  (g3:W.kitOne K (.ref C7) (.ref lD)=some false)
  (g4:W.kitOne K (.ref C7) (.type "ValueError")=some true)
  (g5:W.findIn K (.ref C8) "__getattribute__"=some (some (.builtin "BaseException.__getattribute__")))
  (g6:W.findIn K (.ref C8) "__getattr__"=some none)
  (g7:W.mroIn K C8 (.type "BaseException")=some true)
  (g8:(W.clsIn K C8).isSome=true)
  (g9:W.findIn K (.ref C8) "__class__"=some (some (.builtin "object.__class__")))
  (ia:W.mroIn K C8 (.type "object")=some true)
  (ib:W.exmOne K (.ref C8) (.ref C8)=some true)
  (ic:W.exmOne K (.ref C8) (.ref C0)=some true)
  (id:W.kitOne K (.ref C8) (.ref C1)=some false)
  (ie:W.kitOne K (.ref C8) (.ref C2)=some false)
  (ig:W.kitOne K (.ref C8) (.ref C3)=some false)
  (ih:W.kitOne K (.ref C8) (.ref C4)=some false)
  (ii:W.kitOne K (.ref C8) (.ref C5)=some false)
  (ij:W.kitOne K (.ref C8) (.ref C6)=some false)
  (ik:W.kitOne K (.ref C8) (.ref C7)=some false)
  (il:W.kitOne K (.ref C8) (.ref C8)=some true)
  (im:W.kitOne K (.ref C8) (.ref C9)=some false)
  (io:W.kitOne K (.ref C8) (.ref lE)=some false)
  (ip:W.kitOne K (.ref C8) (.ref lD)=some false)
  (iq:W.kitOne K (.ref C8) (.type "ValueError")=some true)
  (ir:W.nsIn K mainGlobals "LAST_DAY"=some (some (.int 5000 tk0)))
  (it:W.nsIn K mainGlobals "LETTERS"=some (some (.str "abcdefghijklmnopqrstuvwxyz" lJ)))
  (iu:W.nsIn K mainGlobals "LONGEST_NAME"=some (some (.int 8 tk2)))
  (iv:W.nsIn K mainGlobals "MOST_COINS"=some (some (.int 1000000000000 lI)))
  (iw:W.nsIn K mainGlobals "MOST_HOUSES"=some (some (.int 15 tk4)))
  (ix:W.nsIn K mainGlobals "MOST_PACTS"=some (some (.int 80 tk5)))
  (iy:W.nsIn K mainGlobals "WHOLE"=some (some (.int 1000 tk6)))
  (iz:W.nsIn K mainGlobals "ValueError"=some none)
  (i0:W.nsIn K mainGlobals "abs"=some none)
  (i1:W.nsIn K mainGlobals "all"=some none)
  (i2:W.nsIn K mainGlobals "bool"=some none)
  (i3:W.nsIn K mainGlobals "enumerate"=some none)
  (i4:W.nsIn K mainGlobals "int"=some none)
  (i5:W.nsIn K mainGlobals "isinstance"=some none)
  (i6:W.nsIn K mainGlobals "len"=some none)
  (i7:W.nsIn K mainGlobals "list"=some none)
  (i8:W.nsIn K mainGlobals "max"=some none)
  (i9:W.nsIn K mainGlobals "min"=some none)
  (ja:W.nsIn K mainGlobals "range"=some none)
  (jb:W.nsIn K mainGlobals "set"=some none)
  (jc:W.nsIn K mainGlobals "sorted"=some none)
  (jd:W.nsIn K mainGlobals "str"=some none)
  (je:W.nsIn K mainGlobals "sum"=some none)
  (jf:W.nsIn K mainGlobals "tuple"=some none)
  (jg:W.nsIn K mainGlobals "zip"=some none)
  (jh:W.nsIn K mainGlobals "coins_purse"=some (some (.ref nQ)))
  (ji:W.nsIn K mainGlobals "shares_equations"=some (some (.ref nR)))
  : ∃fd:FuncData,(∀(s:Shared) (v:Value),BindsTo s fd ⟨[v],[]⟩ [("_law_script",v)])/\∀base:Heap,K.In base->base.Ns mainGlobals mg->FnOk l.prog w K mg base CX0 48 fa fd ["_law_script"] (sp_law K):=by
 have e:=hfa.symm.trans (W.mg_of X G es);cases e;have ⟨_,F1⟩:=F1;have ⟨_,F2⟩:=F2;have ⟨_,F3⟩:=F3;have ⟨_,F4⟩:=F4;have ⟨_,F5⟩:=F5;have ⟨_,F6⟩:=F6;have ⟨_,F7⟩:=F7;have ⟨_,F8⟩:=F8;have ⟨_,F9⟩:=F9;have ⟨_,lC⟩:=lC;have ⟨_,lA⟩:=lA;have ⟨_,l7⟩:=l7;have ⟨_,lx⟩:=lx;have ⟨_,lu⟩:=lu;have ⟨_,lm⟩:=lm;have ⟨_,lj⟩:=lj;have ⟨_,lh⟩:=lh;have ⟨_,lg⟩:=lg;have ⟨_,kZ⟩:=kZ;have ⟨_,kY⟩:=kY;have ⟨_,kX⟩:=kX;have ⟨_,kW⟩:=kW;have ⟨_,kU⟩:=kU;have ⟨_,kT⟩:=kT;have ⟨_,kS⟩:=kS;have ⟨_,kR⟩:=kR;have ⟨_,kQ⟩:=kQ;have ⟨_,kP⟩:=kP;have ⟨_,kO⟩:=kO;have ⟨_,jo⟩:=jo;have ⟨_,jl⟩:=jl;have ⟨_,jk⟩:=jk;have ⟨_,jj⟩:=jj;have ⟨_,iZ⟩:=iZ;have ⟨_,iY⟩:=iY;have ⟨_,iX⟩:=iX;have ⟨_,iW⟩:=iW;have ⟨_,iV⟩:=iV;have ⟨_,iU⟩:=iU;have ⟨_,kN⟩:=kN;have ⟨_,kM⟩:=kM;have ⟨_,kL⟩:=kL;have ⟨_,kK⟩:=kK;have ⟨_,kJ⟩:=kJ;have ⟨_,kI⟩:=kI;have ⟨_,kH⟩:=kH;have ⟨_,kG⟩:=kG;have ⟨_,kF⟩:=kF;have ⟨_,kE⟩:=kE;have ⟨_,kD⟩:=kD;have ⟨_,kC⟩:=kC;have ⟨_,kB⟩:=kB;have ⟨_,kA⟩:=kA;have ⟨_,k9⟩:=k9;have ⟨_,k8⟩:=k8;have ⟨_,k7⟩:=k7;have ⟨_,k6⟩:=k6;have ⟨_,kz⟩:=kz;have ⟨_,ky⟩:=ky;have ⟨_,kv⟩:=kv;have ⟨_,ku⟩:=ku;have ⟨_,kr⟩:=kr;have ⟨_,kq⟩:=kq;have ⟨_,ko⟩:=ko;have ⟨_,kn⟩:=kn;have ⟨_,km⟩:=km;have ⟨_,kj⟩:=kj;have ⟨_,iT⟩:=iT;obtain⟨_,_,_,_,_,_,_,_,_,rfl,_,_⟩:=iT.ex;have M {x:Str} {v:Value} (h:W.nsIn K mainGlobals x=some (some v)):=W.mg_of X G h;have Z {x:Str} (h:W.nsIn K mainGlobals x=some none):=W.mg_none_of X G h;have T:Txt l.prog K mg ⟨_,_,_,_,_,_,_,_,_,_,_,_,_,_,_,_,_,_,_,_,_,_,_,_,_,_,_,_,_,_,_,_,_,_,_,_,_,_,_,_,_,_,_,_,_,_,_,_,_,_,_,_,_,_,_,_,_,_,_,_,_,_,_,_,_,_,_,_,_,_,_,_,_,_,_,_,_,_,_,_,_,_,_,_,_,_,_,_,_,_,_,_,_,_,_,_,_,_,_,_,_,_,_,_,_,_,_,_,_,_,_,_,_,_,_,_,_,_,_,_,_,_,_,_,_,_,_,_,_,_,_,_,_,_,_,_,C0,C1,C2,C3,C4,C5,C6,C7,C8,C9,lE,lD,bD⟩:=⟨ht,F1,bd3 F1 (λ_ _ _ _ _ _ _ _ _=>rfl),⟨an,ao,F1.kp⟩,F2,bd1 F2 (λ_ _ _ _ _ _ _=>rfl),M aq,F3,bd2 F3 (λ_ _ _ _ _ _ _ _=>rfl),M au,F4,bd1 F4 (λ_ _ _ _ _ _ _=>rfl),M aw,F5,bd1 F5 (λ_ _ _ _ _ _ _=>rfl),M ay,F6,bd3 F6 (λ_ _ _ _ _ _ _ _ _=>rfl),M a0,F7,bd1 F7 (λ_ _ _ _ _ _ _=>rfl),M a2,F8,bd1 F8 (λ_ _ _ _ _ _ _=>rfl),M a4,F9,bd2 F9 (λ_ _ _ _ _ _ _ _=>rfl),M a6,lC,bd2 lC (λ_ _ _ _ _ _ _ _=>rfl),M a8,lA,bd2 lA (λ_ _ _ _ _ _ _ _=>rfl),M ba,l7,bd2 l7 (λ_ _ _ _ _ _ _ _=>rfl),M bc,lx,bd2 lx (λ_ _ _ _ _ _ _ _=>rfl),M be,lu,bd2 lu (λ_ _ _ _ _ _ _ _=>rfl),M bg,lm,bd2 lm (λ_ _ _ _ _ _ _ _=>rfl),M bi,lj,bd2 lj (λ_ _ _ _ _ _ _ _=>rfl),M bk,lh,bd2 lh (λ_ _ _ _ _ _ _ _=>rfl),M bm,lg,bd3 lg (λ_ _ _ _ _ _ _ _ _=>rfl),M bo,kZ,bd1 kZ (λ_ _ _ _ _ _ _=>rfl),M bq,kY,bd2 kY (λ_ _ _ _ _ _ _ _=>rfl),M bs,kX,bd3 kX (λ_ _ _ _ _ _ _ _ _=>rfl),M bu,kW,bd3 kW (λ_ _ _ _ _ _ _ _ _=>rfl),M bw,kU,bd2 kU (λ_ _ _ _ _ _ _ _=>rfl),M bz,kT,bd3 kT (λ_ _ _ _ _ _ _ _ _=>rfl),M b1,kS,bd2 kS (λ_ _ _ _ _ _ _ _=>rfl),M b3,kR,bd6 kR (λ_ _ _ _ _ _ _ _ _ _ _ _=>rfl),M b5,kQ,bd3 kQ (λ_ _ _ _ _ _ _ _ _=>rfl),M b7,kP,bd2 kP (λ_ _ _ _ _ _ _ _=>rfl),M b9,kO,bd2 kO (λ_ _ _ _ _ _ _ _=>rfl),M cb,jo,bd1 jo (λ_ _ _ _ _ _ _=>rfl),⟨cd,ce,jo.kp⟩,jl,bd1 jl (λ_ _ _ _ _ _ _=>rfl),⟨cg,ch,jl.kp⟩,jk,bd1 jk (λ_ _ _ _ _ _ _=>rfl),⟨cj,ck,jk.kp⟩,jj,bd2 jj (λ_ _ _ _ _ _ _ _=>rfl),⟨cm,cn,jj.kp⟩,iZ,bd6 iZ (λ_ _ _ _ _ _ _ _ _ _ _ _=>rfl),⟨cp,cq,iZ.kp⟩,iY,bd2 iY (λ_ _ _ _ _ _ _ _=>rfl),⟨cs,ct,iY.kp⟩,iX,bd2 iX (λ_ _ _ _ _ _ _ _=>rfl),⟨cv,cw,iX.kp⟩,iW,bd3 iW (λ_ _ _ _ _ _ _ _ _=>rfl),⟨cy,cz,iW.kp⟩,iV,bd3 iV (λ_ _ _ _ _ _ _ _ _=>rfl),⟨c1,c2,iV.kp⟩,iU,bd4 iU (λ_ _ _ _ _ _ _ _ _ _=>rfl),⟨c4,c5,iU.kp⟩,kN,bd2 kN (λ_ _ _ _ _ _ _ _=>rfl),M c7,kM,bd2 kM (λ_ _ _ _ _ _ _ _=>rfl),M c9,kL,bd2 kL (λ_ _ _ _ _ _ _ _=>rfl),M db,kK,bd2 kK (λ_ _ _ _ _ _ _ _=>rfl),M dd,kJ,bd2 kJ (λ_ _ _ _ _ _ _ _=>rfl),M df,kI,bd2 kI (λ_ _ _ _ _ _ _ _=>rfl),M dh,kH,bd1 kH (λ_ _ _ _ _ _ _=>rfl),M dj,kG,bd2 kG (λ_ _ _ _ _ _ _ _=>rfl),M dl,kF,bd2 kF (λ_ _ _ _ _ _ _ _=>rfl),M dn,kE,bd2 kE (λ_ _ _ _ _ _ _ _=>rfl),M dq,kD,bd1 kD (λ_ _ _ _ _ _ _=>rfl),M ds,kC,bd2 kC (λ_ _ _ _ _ _ _ _=>rfl),M du,kB,bd2 kB (λ_ _ _ _ _ _ _ _=>rfl),M dw,kA,bd2 kA (λ_ _ _ _ _ _ _ _=>rfl),M dy,k9,bd1 k9 (λ_ _ _ _ _ _ _=>rfl),M d0,k8,bd2 k8 (λ_ _ _ _ _ _ _ _=>rfl),M d2,k7,bd1 k7 (λ_ _ _ _ _ _ _=>rfl),M d4,k6,bd4 k6 (λ_ _ _ _ _ _ _ _ _ _=>rfl),M d6,kz,bd2 kz (λ_ _ _ _ _ _ _ _=>rfl),M d8,ky,bd3 ky (λ_ _ _ _ _ _ _ _ _=>rfl),M ea,kv,bd2 kv (λ_ _ _ _ _ _ _ _=>rfl),M ec,ku,bd2 ku (λ_ _ _ _ _ _ _ _=>rfl),M ee,kr,bd2 kr (λ_ _ _ _ _ _ _ _=>rfl),M eg,kq,bd2 kq (λ_ _ _ _ _ _ _ _=>rfl),M ei,ko,bd5 ko (λ_ _ _ _ _ _ _ _ _ _ _=>rfl),M ek,kn,bd3 kn (λ_ _ _ _ _ _ _ _ _=>rfl),M em,km,bd3 km (λ_ _ _ _ _ _ _ _ _=>rfl),M eo,kj,bd5 kj (λ_ _ _ _ _ _ _ _ _ _ _=>rfl),M eq,iT,bd1 iT (λ_ _ _ _ _ _ _=>rfl),M es,M aa,M ab,M ac,M ad,M ae,M af,M ag,M ah,M ai,M aj,M ak,M al,M am,⟨eu,ev,ew,ex⟩,⟨ey,cd,ce,ez⟩,e0,⟨e1,an,ao,e2⟩,⟨e3,e4,e5,e6⟩,⟨e3,e4,e5,e7⟩,⟨e8,e9,ga⟩,gd,ge,gf,gg,gh,gi,gj,gk,⟨gl,gm,gn,go,gp,gb,gc,gq⟩,gr,gs,gt,gu,gv,gw,gx,gy,gz,g0,g1,g2,g3,g4,⟨g5,g6,g7,g8,g9,gb,gc,ia⟩,ib,ic,id,ie,ig,ih,ii,ij,ik,il,im,io,ip,iq,⟨_,M ir⟩,⟨_,M it⟩,⟨_,M iu⟩,⟨_,M iv⟩,⟨_,M iw⟩,⟨_,M ix⟩,⟨_,M iy⟩,Z iz,Z i0,Z i1,Z i2,Z i3,Z i4,Z i5,Z i6,Z i7,Z i8,Z i9,Z ja,Z jb,Z jc,Z jd,Z je,Z jf,Z jg,M jh,M ji⟩;exact⟨_,λs v=>.of_eq rfl,λbase _ _=>zPR T⟩
def zPe {l:PySem.W.OpenLaw} {q:Program} {loose:List Str} {XP:(Str->Option Value)->Heap->Prop} {YP:World->Heap->Prop} {d:DefRec} {K:Params->W.Frag} (hn:l.most=some 63) (iG:d.params.defaults=[]) (hq:PyProof.Rows.importsNone q=true)
  (hY:∀(w:World) (h:Heap),YP w h->(K w.params).In h)
  (F:∀(w:World) (mg:Str->Option Value) (fa:Addr) (h:Heap),(K w.params).In h->h.Ns mainGlobals mg->mg d.name=some (.ref fa)->
   ∃fd:FuncData,(∀(s:Shared) (u:Value),BindsTo s fd ⟨[u],[]⟩ [("_law_script",u)])/\∀base:Heap,(K w.params).In base->base.Ns mainGlobals mg->FnOk l.prog w (K w.params) mg base CX0 48 fa fd ["_law_script"] (sp_law (K w.params))) :
  PySem.W.WalkO q loose XP YP l.row.toRowW d [] (λf vs=>PySem.call f vs):=
 L2.zNA (n:=63) (k:=48) (x:="_law_script") (CX:=λ_=>CX0) (sp:=λw=>sp_law (K w.params)) hn ⋯ iG hq ⟨rfl,by decide,by decide⟩ hY F (λ_ _ a ns hl _ hS=>⟨a,ns,rfl,hS,hl,λ_=>rfl⟩) λ_ _ _ _ _ z=>z
end Pf
open PySem PySem.W PyProof.Rows
set_option maxRecDepth 100000 in
set_option maxHeartbeats 0 in
theorem PySem.Challenge.cw_roundcede_k46_whole_large_books_holds : PySem.Challenge.rw_roundcede_k46_whole_large_books.Holds := by
 w_on;refine holds_law Hp.wl λsaid=>?_;refine holds_open (q:=Hp.vw) (loose:=Hp.ls) (Xt:=Hp.xt) (XP:=XL Hp.vw []) (Yf:=Hook.obs (kHook Hp.zOX.heap_1 Hp.ka Hp.ke)) (Ya:=Hook.val (kHook Hp.zOX.heap_1 Hp.ka Hp.ke)) (YP:=Hook.says (kHook Hp.zOX.heap_1 Hp.ka Hp.ke)) (N:=10906) ?hl (Hook.of (kHook Hp.zOX.heap_1 Hp.ka Hp.ke)) (Hook.keeps (kHook Hp.zOX.heap_1 Hp.ka Hp.ke)) (λs e=>xl_of s (Bool.and_eq_true_iff.mp e).1) XL.keeps (by rfl) (by rfl) (by rfl) (λs e=>recFacts_of (Bool.and_eq_true_iff.mp e).2) (by rfl) (by first | assumption | decide +kernel) (by decide +kernel) ⟨rfl,rfl,rfl,rfl,rfl,by decide +kernel⟩ ?hw ?hc
 (case hw=>w_witness2)
 (case hl=>refine λw=>Hp.zM3 (Hp.hp0 w) ?_;exact Hp.hp3 w)
 k_fill
 refine Pf.zPe (l:=PySem.Challenge.rw_roundcede_k46_whole_large_books) rfl rfl (by first | rfl | decide +kernel) (λw h Y=>PySem.W.kIn_of Y) ?F
 case F=>
  intro w mg fa h KX G hmg
  refine' Pf.zQv KX G hmg rfl ?aa ?ab ?ac ?ad ?ae ?af ?ag ?ah ?ai ?aj ?ak ?al ?am ?an ?ao ?ap ?aq ?ar ?au ?av ?aw ?ax ?ay ?az ?a0 ?a1 ?a2 ?a3 ?a4 ?a5 ?a6 ?a7 ?a8 ?a9 ?ba ?bb ?bc ?bd ?be ?bf ?bg ?bh ?bi ?bj ?bk ?bl ?bm ?bn ?bo ?bp ?bq ?br ?bs ?bt ?bu ?bv ?bw ?bx ?bz ?b0 ?b1 ?b2 ?b3 ?b4 ?b5 ?b6 ?b7 ?b8 ?b9 ?ca ?cb ?cc ?cd ?ce ?cf ?cg ?ch ?ci ?cj ?ck ?cl ?cm ?cn ?co ?cp ?cq ?cr ?cs ?ct ?cu ?cv ?cw ?cx ?cy ?cz ?c0 ?c1 ?c2 ?c3 ?c4 ?c5 ?c6 ?c7 ?c8 ?c9 ?da ?db ?dc ?dd ?de ?df ?dg ?dh ?di ?dj ?dk ?dl ?dm ?dn ?dp ?dq ?dr ?ds ?dt ?du ?dv ?dw ?dx ?dy ?dz ?d0 ?d1 ?d2 ?d3 ?d4 ?d5 ?d6 ?d7 ?d8 ?d9 ?ea ?eb ?ec ?ed ?ee ?ef ?eg ?eh ?ei ?ej ?ek ?el ?em ?en ?eo ?ep ?eq ?er ?es ?et ?eu ?ev ?ew ?ex ?ey ?ez ?e0 ?e1 ?e2 ?e3 ?e4 ?e5 ?e6 ?e7 ?e8 ?e9 ?ga ?gb ?gc ?gd ?ge ?gf ?gg ?gh ?gi ?gj ?gk ?gl ?gm ?gn ?go ?gp ?gq ?gr ?gs ?gt ?gu ?gv ?gw ?gx ?gy ?gz ?g0 ?g1 ?g2 ?g3 ?g4 ?g5 ?g6 ?g7 ?g8 ?g9 ?ia ?ib ?ic ?id ?ie ?ig ?ih ?ii ?ij ?ik ?il ?im ?io ?ip ?iq ?ir ?it ?iu ?iv ?iw ?ix ?iy ?iz ?i0 ?i1 ?i2 ?i3 ?i4 ?i5 ?i6 ?i7 ?i8 ?i9 ?ja ?jb ?jc ?jd ?je ?jf ?jg ?jh ?ji
  (case aa | ab | ac | ad | ae | af | ag | ah | ai | aj | ak | al | am | an | ao | aq | au | aw | ay | a0 | a2 | a4 | a6 | a8 | ba | bc | be | bg | bi | bk | bm | bo | bq | bs | bu | bw | bz | b1 | b3 | b5 | b7 | b9 | cb | cd | ce | cg | ch | cj | ck | cm | cn | cp | cq | cs | ct | cv | cw | cy | cz | c1 | c2 | c4 | c5 | c7 | c9 | db | dd | df | dh | dj | dl | dn | dq | ds | du | dw | dy | d0 | d2 | d4 | d6=>k_is)
  (case d8 | ea | ec | ee | eg | ei | ek | em | eo | eq | es | eu | ev | ew | ex | ey | ez | e0 | ir | it | iu | iv | iw | ix | iy | iz | i0 | i1 | i2 | i3 | i4 | i5 | i6 | i7 | i8 | i9 | ja | jb | jc | jd | je | jf | jg | jh | ji=>k_is)
  (case ap | ar | av | ax | az | a1 | a3 | a5 | a7 | a9 | bb | bd | bf | bh | bj | bl | bn | bp | br | bt | bv | bx | b0 | b2 | b4 | b6 | b8 | ca | cc | cf | ci | cl | co | cr | cu | cx | c0 | c3 | c6 | c8 | da | dc | de | dg | di | dk | dm | dp | dr | dt | dv | dx | dz | d1 | d3 | d5 | d7 | d9 | eb | ed | ef | eh | ej | el | en | ep | er | et=>(refine' ⟨_,L2.zQh ?l ?c ?k⟩;(case l=>k_is);(case c=>k_is);(case k=>k_is)))
  (case e1 | e2 | e3 | e4 | e5 | e6 | e7 | e8 | e9 | ga | gb | gc=>kernel_rfl)
  (case gd | ge | gf | gg | gh | gi | gj | gk=>first | k_exc | k_is | rfl | kernel_rfl)
  (case gl | gm | gn | go | gp | gq | gr | gs | gt | gu | gv | gw | gx | gy | gz | g0 | g1 | g2 | g3 | g4 | g5 | g6 | g7 | g8 | g9 | ia | ib | ic | id | ie | ig | ih | ii | ij | ik | il | im | io | ip | iq=>kernel_rfl)
